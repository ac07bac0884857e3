import PyProof.Rows.All
import Wide.All
import OpenK.AllK
import Wide.FinOn
import Lean
import PyProof.EqAt
import PyProof.EqKinds
import PyProof.TupleCall
import KE.KTryMore
import PyProof.ExcArgs
import PyProof.ConsumeWalk
import PyProof.P3Eq
import KE.KRevIter
import PyProof.ListRange
import PyProof.Rows.SumAny
import KE.KSortTup
import PyProof.SetScanFacts
import PyProof.TupleKey
import PyProof.DictRoadsH
import PyProof.SetRoads
import KE.KTabLook
import PyProof.Rows.ListMul
import PyProof.InstStoreFacts
import PyProof.Rows.SetFrom
import PyProof.AutoListH
import PySem.Challenge.RW_heightrings_k37_ring_areas_by_places
open List renaming getElem?_eq_getElem → amP, getD_eq_getElem?_getD → amS, length_map → amT, getElem?_eq_some_iff → amU, mem_cons_of_mem → amY, getElem?_map → am1, mem_cons → am2, getElem?_append_left → am3, size_toArray → am4, mem_cons_self → am6, getElem?_append_right → am7, range → am8, length_append → am9, mem_of_getElem? → ana, length_cons → anb, mem_append_right → anc, map_cons → anh, getElem_mem → ani, getElem?_eq_none → anj, mem_singleton → anp, mem_range → ans, mem_map → ant, length_take → anu, map_append → anx, length_singleton → anD, mem_append → anF, append_nil → anG, lookup_cons → anI, getElem?_of_mem → anJ, not_mem_nil → anL, mem_flatMap → anM, length_range → anO, mem_append_left → anQ, take_length → anS, toArray → anT, nodup_cons → anY, length_drop → anZ, filter_cons → an0, getElem?_set_self → aob, length_pos_iff → aof, getElem?_range → aog, getElem?_set_ne → aol, length_set → aoo, filterMap_cons → aoq, flatMap_append → aor, filter_append → aoy, length_filter_le → aoA, pairwise_iff_getElem → aoB, mem_filter → aoD, length_nil → aoE, pairwise_map → aoG, getElem?_take_of_lt → aoH, getElem_of_mem → aoJ, getElem?_replicate → aoK, zip_cons_cons → aoN, map_map → aoO, of_mem_zip → aoP, nodup_append → aoQ, replicate → aoT, nodup_nil → aoV, mem_reverse → aoZ, map_congr_left → ao3, reverse_append → ao4, findSome?_cons → ao6, forIn_cons → ao8, range_succ → ao9, mem_filterMap → apa, forIn_nil → aph, take_add_one → api, ext_getElem? → apk, append_assoc → apm, take_succ → apr, head?_eq_getElem? → aps, length_replicate → apu, take_append_drop → apv, getElem_inj → apx, all_eq_true → apy, mem_erase_of_ne → apE, mem_of_mem_take → apG, find?_cons → apL, map_nil → apO, getElem?_drop → apS, getLast?_eq_getElem? → apY, reverse_cons → ap0, length_erase_of_mem → ap7, nodup_range → aqd, map → aqe, length_eq_zero_iff → aqf, take_of_length_le → aql, length_pos_of_mem → aqn, filter_nil → aqp, length_zip → aqr, getElem?_zipWith → aqt, mem_iff_getElem → aqB, reverse_reverse → aqG, mem_of_getLast? → aqK, length_reverse → aqN, filter_flatMap → aqP, map_eq_nil_iff → aqQ, all_cons → aqS, map_take → aqU, map_drop → aqV
open Bool renaming false_ne_true → amQ, and_eq_true → amX, false_eq_true → anw, not_true → anB, false_and → aoS, and_false → apj, not_false → apn, true_and → apB, eq_iff_iff → aqo
open PySem.W renaming Frag → amR, nsIn → anf, kitOne → ang, mg_none_of → anq, mg_of → anv, keepIn → anH, findIn → aoc, fnOf → aok, cellsFrom_some → aot, hideAll_get → ao2, specialIn → apd, codeIn → ape, exmOne → apo, excIn → apA, hideAll → apH, callWith_K → apR, methodObj → apZ, mroIn → ap1
open Nat renaming le_refl → amV, lt_of_lt_of_le → ane, le_trans → ank, ne_of_lt → ano, zero_le → anA, le_of_lt → anE, lt_irrefl → aoi, lt_succ_of_lt → aom, not_lt_zero → aop, mul_le_mul → aox, ne_of_gt → aoW, le_of_eq → aoX, sub_self → aoY, gcd → ao0, lt_of_le_of_lt → apb, le_of_succ_le → apf, lt_succ_of_le → apl, mul_lt_mul'' → apz, pow_add → apF, lt_succ_iff → apI, succ_pos → apP, add_assoc → ap4, lt_succ_iff_lt_or_eq → aqa, gcd_pos_of_pos_right → aqb, lt_succ_self → aqc, zero_add → aqk, two_pow_pos → aqq, le_of_ble_eq_true → aqw, le_succ → aqz, pow_le_pow_right → aqE, mul_le_mul_right → aqJ, le_of_dvd → aqX, not_lt → aqY, mod_lt → aqZ, lt_trans → aq0, pow_succ → aq1, log2_lt → aq3, mul_pos → aq5
open PySem.Heap renaming get?_push_of_some → amW, lt_size → amZ, get?_push_size → anr, get?_update_other → anz, get?_update_self → aoz, SameBut → aoL, size_push → apg, FlyingW → aqj
open PySem.PyData renaming depthAll → am0, eqv → anl, canLayAll0 → aoF, eqvAll → ap3, depth → aq2
open Array renaming length_toList → am5, getD_eq_getD_getElem? → aov, getD → aoM, forIn_toList → apc, getElem?_setIfInBounds_ne → apt, mem_toList_iff → apD, replicate → apK, getElem?_eq_getElem → apV, getElem?_toList → aqs, size_map → aqC
open Int renaming natAbs_natCast → anm, natAbs_mul → anR, gcd → aoa, sign_eq_neg_one_of_neg → aod, sign_eq_one_of_pos → aoe, emod_lt_of_pos → aow, toNat_natCast → aoR, lt_trichotomy → apq, emod_nonneg → apJ, gcd_pos_of_ne_zero_right → apM, mul_ne_zero → apN, mul_ediv_cancel_left → ap6, eq_ofNat_of_zero_le → aqg, one_mul → aqI, toNat_of_nonneg → aqR
open Rat renaming divInt → anC
open PySem.PassesOwn renaming never → anK
open False renaming elim → anN
open Classical renaming propDecidable → anP, byContradiction → aoh
open Ne renaming symm → anU
open PyProof.Rows renaming boot_abs → anV, callWith_type1 → aos, boot_all → aqv
open PySem renaming boot_len → anW, mem_of_lookup → aoI
open Option renaming isSome_iff_exists → aoj
open PySem.F renaming slot_tuple_hash → aon, slot_set_contains → ao1, slot_dict_getitem → apW, slot_list_append → ap8, type_list_append → ap9, plainAttrs_list → aqh, args_list_append_2 → aqy, excAttr_ValueError → aqA, slot_set_add → aqF, entry_list_append → aqL
open PySem.Str renaming ofString → aou
open PySem.Builtin.Tuple renaming tupleHashOf → aoC
open PySem.Obj renaming mapSeq → aoU, putSet → aqm, mapFields → aqW
open PySem.Builtin.Int renaming intBits → ao5, intTooBig → aqu
open PySem.SetTable renaming toList_insertAt → ao7, sizeAbove → apU, fill → aqT
open PySem.SeqAt.ReadsAll renaming length → apw
open PySem.Calls renaming evalArgs_plain → apC, Name_function_global → apQ, callWith_builtin → aqi
open PySem.Builtin.Frozenset renaming oneOther → apT, addrOf → ap5
open PySem.Builtin.SmallTypes renaming nextOf → apX
open PyProof renaming noPylong_of_log2 → ap2
open PySem.Around renaming frames_deeper → aqx
open PySem.SeqAt renaming eqv_refl → aqD
open PyProof.Rows.KTD renaming datumAt → aqH
open PySem.Heap.SameBut renaming update → aqM
open PySem.EntryCells renaming newEntry → aqO
open PySem.Sem renaming wp_mono → aq4
set_option Elab.async false
set_option linter.all false
set_option maxRecDepth 100000
set_option maxHeartbeats 4000000
section
namespace L2
open PySem PySem.Spec PyProof.Rows
abbrev Key := Sum Int Str
def akf : Key -> Value -> Bool
 | .inl k, v => Value.isInt k v
 | .inr x, v => Value.isStrOf x v
def amF (w : World) : Key -> Int
 | .inl k => hashInt k
 | .inr x => hashStr w x
theorem yb : ∀ {k : Key} {v : Value}, akf k v = true -> (∃ i t, k = Sum.inl i /\ v = Value.int i t) \/ (∃ x t, k = Sum.inr x /\ v = Value.str x t)
 | .inl i, v, h => by
  obtain ⟨t, e⟩ := Value.isInt_shape (k := i) (v := v) h
  exact .inl ⟨i, t, rfl, e⟩
 | .inr x, v, h => by
  obtain ⟨t, e⟩ := Value.isStrOf_shape (x := x) (v := v) h
  exact .inr ⟨x, t, rfl, e⟩
theorem akJ (a b : Int) : decide ((Sum.inl a : Key) = Sum.inl b) = (a == b) := by
 by_cases e : a = b
 ·subst e; simp
 ·have h : ¬ (Sum.inl a : Key) = Sum.inl b := fun q => e (Sum.inl.inj q)
  rw [decide_eq_false h]
  exact (beq_eq_false_iff_ne.mpr e).symm
theorem akK (a b : Str) : decide ((Sum.inr a : Key) = Sum.inr b) = decide (a = b) := by
 by_cases e : a = b
 ·subst e; simp
 ·have h : ¬ (Sum.inr a : Key) = Sum.inr b := fun q => e (Sum.inr.inj q)
  rw [decide_eq_false h, decide_eq_false e]
theorem akL (a : Int) (b : Str) : decide ((Sum.inl a : Key) = Sum.inr b) = false := decide_eq_false (fun q => nomatch q)
theorem akM (a : Str) (b : Int) : decide ((Sum.inr a : Key) = Sum.inl b) = false := decide_eq_false (fun q => nomatch q)
def abQ (prog : Program) (w : World) : PySem.KeyKind prog w Key where
 is := akf
 hash := amF w
 inj := fun v a b ha hb => by
  rcases yb ha with ⟨i, t, rfl, rfl⟩ | ⟨x, t, rfl, rfl⟩
  ·rcases yb hb with ⟨j, u, rfl, e⟩ | ⟨y, u, rfl, e⟩
   ·injection e with e1 _; rw [e1]
   ·exact nomatch e
  ·rcases yb hb with ⟨j, u, rfl, e⟩ | ⟨y, u, rfl, e⟩
   ·exact nomatch e
   ·injection e with e1 _; rw [e1]
 byValue := fun k v h => by
  rcases yb h with ⟨i, t, rfl, rfl⟩ | ⟨x, t, rfl, rfl⟩ <;> rfl
 pyHash := fun hv h => by
  rcases yb hv with ⟨i, t, rfl, rfl⟩ | ⟨x, t, rfl, rfl⟩
  ·exact wpAny_pyHash_int h
  ·exact wpAny_pyHash_str h
 eqBool := fun hu hv h => by
  rcases yb hu with ⟨i, t, rfl, rfl⟩ | ⟨x, t, rfl, rfl⟩
  ·rcases yb hv with ⟨j, u, rfl, rfl⟩ | ⟨y, u, rfl, rfl⟩
   ·rw [akJ] at h; exact wpAny_eqBool_int h
   ·rw [akL] at h; exact SeqAt.EqAt.int_str i t y u _ _ _ _ h
  ·rcases yb hv with ⟨j, u, rfl, rfl⟩ | ⟨y, u, rfl, rfl⟩
   ·rw [akM] at h; exact SeqAt.EqAt.str_int x t j u _ _ _ _ h
   ·rw [akK] at h; exact wpAny_eqBool_str h
 «strs» := fun k x t v h => by
  rcases yb h with ⟨i, u, rfl, e⟩ | ⟨y, u, rfl, e⟩
  ·exact nomatch e
  ·injection e with e1 _
   subst e1
   cases v <;> rfl
end L2
namespace L2
open PySem PySem.Spec PyProof.Rows
inductive V where
 | non | bl (b : Bool) | int (i : Int) | str (x : Str) | byt (b : Array UInt8) | flt (b : UInt64) | ref (a : Addr) | ty (n : String)
 deriving DecidableEq
def RelV : V -> Value -> Prop
 | .non, u => u = Value.none
 | .bl b, u => u = Value.bool b
 | .int i, u => ∃ t, u = Value.int i t
 | .str x, u => ∃ t, u = Value.str x t
 | .byt b, u => ∃ t, u = Value.bytes b t
 | .flt b, u => ∃ t, u = Value.float b t
 | .ref a, u => u = Value.ref a
 | .ty n, u => u = Value.type n
abbrev Vals : List V -> List Value -> Prop := Paired RelV
theorem Vals.length {xs : List V} {us : List Value} (r : Vals xs us) : xs.length = us.length := Paired.length r
theorem Vals.get : ∀ {xs : List V} {us : List Value} {i : Nat} {x : V}, Vals xs us -> xs[i]? = some x -> ∃ u, us[i]? = some u /\ RelV x u
 | _, _, _, _, .nil, e => by simp at e
 | _, _, 0, _, .cons r _, e => by simp at e; subst e; exact ⟨_, rfl, r⟩
 | _, _, i + 1, x, .cons _ t, e => by
  obtain ⟨u, h1, h2⟩ := Vals.get (i := i) (x := x) t (by simpa using e)
  exact ⟨u, by simpa using h1, h2⟩
theorem Vals.set {x : V} {u : Value} (r : RelV x u) : ∀ {xs : List V} {us : List Value} (i : Nat), Vals xs us -> Vals (xs.set i x) (us.set i u)
 | _, _, _, .nil => .nil
 | _, _, 0, .cons _ t => .cons r t
 | _, _, i + 1, .cons q t => .cons q (Vals.set r i t)
theorem Vals.append : ∀ {xs ys : List V} {us ws : List Value}, Vals xs us -> Vals ys ws -> Vals (xs ++ ys) (us ++ ws)
 | _, _, _, _, .nil, s => s
 | _, _, _, _, .cons r t, s => .cons r (Vals.append t s)
theorem Vals.take : ∀ {xs : List V} {us : List Value} (n : Nat), Vals xs us -> Vals (xs.take n) (us.take n)
 | _, _, 0, _ => .nil
 | _, _, _ + 1, .nil => .nil
 | _, _, n + 1, .cons r t => .cons r (Vals.take n t)
theorem Vals.drop : ∀ {xs : List V} {us : List Value} (n : Nat), Vals xs us -> Vals (xs.drop n) (us.drop n)
 | _, _, 0, r => r
 | _, _, _ + 1, .nil => .nil
 | _, _, n + 1, .cons _ t => Vals.drop n t
def al5 : Option V -> Option Value -> Prop
 | some v, some u => RelV v u
 | none, none => True
 | _, _ => False
def KV {κ : Type} : List (κ × V) -> List (κ × Value) -> Prop := Paired fun (p : κ × V) (q : κ × Value) => p.1 = q.1 /\ RelV p.2 q.2
def kV : Key -> V
 | .inl i => .int i
 | .inr x => .str x
inductive HO where
  | lst (xs : List V)
  | tup (xs : List V)
  | dK (kvs : List (Key × V)) | dT (kvs : List (List Key × V))
  | set (S : Int -> Bool) (n : Nat)
  | ins (C dx : Addr) (fs : List (Str × V))
  | own (x : Addr)
  | xd (fs : List (Str × V))
  | met (f x : Addr)
  | rng (lo hi : Int)
  | frz (o : Obj) (u : HO)
  | tbl (ps : Array Value)
  | ext (φ : Heap -> Prop)
abbrev Hp := Addr -> Option HO
def upd (H : Hp) (a : Addr) (o : HO) : Hp := fun b => if b = a then some o else H b
theorem zz {H : Hp} {a : Addr} {o : HO} : upd H a o a = some o := by unfold upd; rw [if_pos rfl]
theorem zy {H : Hp} {a b : Addr} {o : HO} (h : b ≠ a) : upd H a o b = H b := by unfold upd; rw [if_neg h]
theorem zK {H : Hp} {a b : Addr} {o : HO} (h : H a = some o) (h' : H b = none) : a ≠ b := by
 intro e; subst e; rw [h] at h'; cases h'
section
variable (P : Program) (w : World)
def ObjOk (H : Hp) (h : Heap) (a : Addr) : HO -> Prop
 | .lst xs => xs.length <= sizeLine /\ ∃ (its : List Value) (n : Nat), Vals xs its /\ h.get? a = some { cls := .type "list", data := .seq its.toArray n }
 | .tup xs => xs.length <= sizeLine /\ ∃ its : List Value, Vals xs its /\ IsTup h a its.toArray
 | .dK kvs => kvs.length <= sizeLine /\ (a == sysModules) = false /\ ∃ vs, KV kvs vs /\ h.DictOf (abQ P w) a vs
 | .dT kvs => kvs.length <= sizeLine /\ (a == sysModules) = false /\ ∃ xs : List (List Key × Addr × Value),
   Paired (fun (p : List Key × V) (q : List Key × Addr × Value) => p.1 = q.1 /\ H q.2.1 = some (.tup (p.1.map kV)) /\ RelV p.2 q.2.2) kvs xs /\
   ∃ o es ep, h.get? a = some o /\ o.ExactDict /\ o.data = .dict es ep /\ es.toList = xs.map (entryOfKey (tupleKind (abQ P w))) /\ (xs.map (·.1)).Nodup
 | .set S n => h.SetOf (intKind P w) a S n
 | .ins C dx fs => H dx = some (.own a) /\ fs.length <= 1000 /\ dx ≠ a /\ h.get? a = some (PySem.W.instObj C dx) /\
   ∃ mA, h.Ns1 dx mA /\ (∀ f, al5 (fs.lookup f) (mA f)) /\ PySem.Within mA (fs.map (·.1))
 | .own _ => ∃ o, h.get? a = some o
 | .xd fs => ∃ mA, h.Ns1 a mA /\ ∀ f, al5 (fs.lookup f) (mA f)
 | .rng lo hi => ∃ t u v, h.get? a = some { cls := .type "range", data := .fields #[.int lo t, .int hi u, .int 1 v] }
 | .frz o u => h.get? a = some o /\ ObjOk H h a u
 | .tbl ps => h.get? a = some { cls := .none, data := .fields ps }
 | .met f x => h.get? a = some (apZ (.ref f) (.ref x))
 | .ext φ => φ h /\ (∃ o, h.get? a = some o) /\ ∀ h1 h2 : Heap, φ h1 -> (∀ o, h1.get? a = some o -> h2.get? a = some o) -> φ h2
def HOk (H : Hp) (h : Heap) : Prop := ∀ a o, H a = some o -> ObjOk P w H h a o
end
section
variable {P : Program} {w : World} {H H' : Hp} {h h' : Heap} {a : Addr} {o : HO}
theorem ObjOk.lt (x : ObjOk P w H h a o) : a < h.objs.size := by
 cases o with
 | lst xs => obtain ⟨_, _, _, _, e⟩ := x; exact amZ e
 | tup xs => obtain ⟨_, _, _, p⟩ := x; exact p.lt
 | dK kvs => obtain ⟨_, _, _, _, o, _, _, e, _⟩ := x; exact amZ e
 | dT kvs => obtain ⟨_, _, _, _, o, _, _, e, _⟩ := x; exact amZ e
 | set S n => obtain ⟨o, _, _, _, e, _⟩ := x; exact amZ e
 | ins C dx fs => obtain ⟨_, _, _, e, _⟩ := x; exact amZ e
 | own y => obtain ⟨_, e⟩ := x; exact amZ e
 | xd fs => obtain ⟨_, ⟨_, _, _, e, _⟩, _⟩ := x; exact amZ e
 | rng lo hi => obtain ⟨_, _, _, e⟩ := x; exact amZ e
 | frz ob u => obtain ⟨e, _⟩ := x; exact amZ e
 | tbl ps => exact amZ (show h.get? a = some _ from x)
 | met f y => exact amZ (show h.get? a = some _ from x)
 | ext φ => obtain ⟨_, ⟨_, e⟩, _⟩ := x; exact amZ e
theorem Paired.mapP {α β : Type} {F G : α -> β -> Prop} : ∀ {l₁ : List α} {l₂ : List β}, Paired F l₁ l₂ -> (∀ a b, F a b -> G a b) -> Paired G l₁ l₂
 | _, _, .nil, _ => .nil
 | _, _, .cons r t, f => .cons (f _ _ r) (Paired.mapP t f)
theorem ObjOk.stay (x : ObjOk P w H h a o) (k : ∀ b u, (b = a \/ H b = some (.own a)) -> h.get? b = some u -> h'.get? b = some u)
  (ho : ∀ b, H b = some (.own a) -> H' b = some (.own a)) (ht : ∀ b xs, H b = some (.tup xs) -> H' b = some (.tup xs)) : ObjOk P w H' h' a o := by
 induction o with
 | lst xs => obtain ⟨z, its, n, r, e⟩ := x; exact ⟨z, its, n, r, k _ _ (.inl rfl) e⟩
 | tup xs => obtain ⟨z, its, r, ob, e, c⟩ := x; exact ⟨z, its, r, ob, k _ _ (.inl rfl) e, c⟩
 | dK kvs => obtain ⟨z, y, vs, r, ob, es, ep, e, c⟩ := x; exact ⟨z, y, vs, r, ob, es, ep, k _ _ (.inl rfl) e, c⟩
 | dT kvs =>
  obtain ⟨z, y, xs, r, ob, es, ep, e, c⟩ := x
  exact ⟨z, y, xs, Paired.mapP r fun p q z => ⟨z.1, ht _ _ z.2.1, z.2.2⟩, ob, es, ep, k _ _ (.inl rfl) e, c⟩
 | set S n => obtain ⟨ob, es, ep, t, e, c⟩ := x; exact ⟨ob, es, ep, t, k _ _ (.inl rfl) e, c⟩
 | ins C dx fs =>
  obtain ⟨d, z, ne, e, mA, ⟨od, es, ep, e2, c⟩, r⟩ := x
  exact ⟨ho _ d, z, ne, k _ _ (.inl rfl) e, mA, ⟨od, es, ep, k _ _ (.inr d) e2, c⟩, r⟩
 | own y => obtain ⟨ob, e⟩ := x; exact ⟨ob, k _ _ (.inl rfl) e⟩
 | xd fs => obtain ⟨mA, ⟨od, es, ep, e, c⟩, r⟩ := x; exact ⟨mA, ⟨od, es, ep, k _ _ (.inl rfl) e, c⟩, r⟩
 | rng lo hi => obtain ⟨t, u, v, e⟩ := x; exact ⟨t, u, v, k _ _ (.inl rfl) e⟩
 | frz ob u ih => obtain ⟨e, q⟩ := x; exact ⟨k _ _ (.inl rfl) e, ih q⟩
 | tbl ps =>
  have e : h.get? a = some { cls := .none, data := .fields ps } := x
  show h'.get? a = some { cls := .none, data := .fields ps }
  exact k a _ (.inl rfl) e
 | met f y =>
  have e : h.get? a = some (apZ (.ref f) (.ref y)) := x
  show h'.get? a = some (apZ (.ref f) (.ref y))
  exact k a _ (.inl rfl) e
 | ext φ => obtain ⟨p, ⟨o, e⟩, st⟩ := x; exact ⟨st _ _ p fun o q => k _ _ (.inl rfl) q, ⟨o, k _ _ (.inl rfl) e⟩, st⟩
theorem HOk.lt (x : HOk P w H h) (e : H a = some o) : a < h.objs.size := (x a o e).lt
theorem HOk.fresh (x : HOk P w H h) (e : h.objs.size <= a) : H a = none := by
 cases q : H a with
 | none => rfl
 | some u => exact absurd (ane (x.lt q) e) (aoi _)
theorem HOk.kept (x : HOk P w H h) (k : ∀ b u, h.get? b = some u -> h'.get? b = some u) : HOk P w H h' := fun a o e =>
 (x a o e).stay (fun b u _ q => k b u q) (fun _ q => q) fun _ _ q => q
theorem HOk.laid (x : HOk P w H h) (k : ∀ b u, h.get? b = some u -> h'.get? b = some u) (hp : h.objs.size <= a) (new : ObjOk P w (upd H a o) h' a o) : HOk P w (upd H a o) h' := fun b u e => by
 have hn := x.fresh hp
 by_cases hb : b = a
 ·subst hb; rw [zz] at e; cases e; exact new
 ·rw [zy hb] at e
  exact (x b u e).stay (fun c v _ q => k c v q) (fun c q => by rw [zy (zK q hn)]; exact q) fun c xs q => by rw [zy (zK q hn)]; exact q
end
def Rd (H : Hp) (a : Addr) (u : HO) : Prop := H a = some u \/ ∃ o, H a = some (.frz o u)
theorem Rd.ok {P : Program} {w : World} {H : Hp} {h : Heap} {a : Addr} {u : HO} (r : Rd H a u) (x : HOk P w H h) : ObjOk P w H h a u := by
 rcases r with r | ⟨o, r⟩
 ·exact x a u r
 ·obtain ⟨_, q⟩ := x a _ r
  exact q
def Mut : Option HO -> Prop
 | some (.lst _) => True
 | some (.dK _) => True
 | some (.dT _) => True
 | some (.set _ _) => True
 | some (.ins _ _ _) => True
 | some (.ext _) => True
 | _ => False
section
variable {P : Program} {w : World} {H : Hp} {h h' : Heap} {x e : Addr} {o' : HO}
theorem HOk.write (ok : HOk P w H h) (mu : Mut (H x)) (he : e = x \/ H e = some (.own x)) (k : ∀ b u, b ≠ e -> h.get? b = some u -> h'.get? b = some u) (heo : ∃ u, h'.get? e = some u)
  (new : ObjOk P w (upd H x o') h' x o') : HOk P w (upd H x o') h' := fun b u q => by
 have nown : ∀ c y, H c = some (.own y) -> c ≠ x := fun c y r z => by subst z; rw [r] at mu; exact mu
 have ntup : ∀ c xs, H c = some (.tup xs) -> c ≠ x := fun c xs r z => by subst z; rw [r] at mu; exact mu
 by_cases hb : b = x
 ·subst hb; rw [zz] at q; cases q; exact new
 ·rw [zy hb] at q
  by_cases hbe : b = e
  ·have q' : H b = some (.own x) := by
    rcases he with z | z
    ·exact absurd (hbe.trans z) hb
    ·rw [hbe]; exact z
   rw [q] at q'; cases q'
   obtain ⟨v, hv⟩ := heo
   exact ⟨v, by rw [hbe]; exact hv⟩
  ·refine (ok b u q).stay (fun c v hc r => k c v ?_ r) (fun c r => by rw [zy (nown c b r)]; exact r) fun c xs r => by rw [zy (ntup c xs r)]; exact r
   rcases hc with rfl | hc
   ·exact hbe
   ·rintro rfl
    rcases he with z | z
    ·exact nown c b hc z
    ·rw [hc] at z; cases z; exact hb rfl
end
structure Un (fs ex : List Addr) (H H' : Hp) (h h' : Heap) : Prop where
 keep : ∀ b o, h.get? b = some o -> H b = none -> b ∉ fs -> b ∉ ex -> h'.get? b = some o
 slot : ∀ b o, h.get? b = some o -> H b = none -> b ∈ fs -> b ∉ ex -> ∃ sl, h'.get? b = some { o with slots := sl }
 free : ∀ b o, h.get? b = some o -> H b = none -> b ∉ ex -> H' b = none
 there : ∀ b o, h.get? b = some o -> b ∉ ex -> ∃ o', h'.get? b = some o'
 tups : ∀ b xs, H b = some (.tup xs) -> H' b = some (.tup xs)
 frzs : ∀ b o u, H b = some (.frz o u) -> H' b = some (.frz o u)
 tbls : ∀ b ps, H b = some (.tbl ps) -> ∃ more, H' b = some (.tbl (ps ++ more))
section
variable {fs fs' ex ex' : List Addr} {H H1 H2 : Hp} {h h1 h2 h' : Heap} {a x e : Addr} {o : HO}
theorem Un.any (u : Un fs ex H H1 h h1) {b : Addr} {ob : Obj} (q : h.get? b = some ob) (n : H b = none) (hx : b ∉ ex) : ∃ sl, h1.get? b = some { ob with slots := sl } := by
 by_cases hb : b ∈ fs
 ·exact u.slot b ob q n hb hx
 ·exact ⟨ob.slots, u.keep b ob q n hb hx⟩
theorem Un.kept (k : ∀ b u, h.get? b = some u -> h'.get? b = some u) : Un fs ex H H h h' :=
 ⟨fun b ob q _ _ _ => k b ob q, fun b ob q _ _ _ => ⟨ob.slots, k b ob q⟩, fun _ _ _ n _ => n, fun b ob q _ => ⟨ob, k b ob q⟩, fun _ _ q => q, fun _ _ _ q => q, fun _ ps q => ⟨#[], by rw [q]; simp⟩⟩
theorem Un.refl : Un fs ex H H h h := Un.kept fun _ _ q => q
theorem Un.laid (k : ∀ b u, h.get? b = some u -> h'.get? b = some u) (hp : h.objs.size <= a) (hn : H a = none) : Un fs ex H (upd H a o) h h' where
 keep := fun b u q _ _ _ => k b u q
 slot := fun b u q _ _ _ => ⟨u.slots, k b u q⟩
 free := fun b u q n _ => by rw [zy (ano (ane (amZ q) hp))]; exact n
 there := fun b u q _ => ⟨u, k b u q⟩
 tups := fun b xs q => by rw [zy (zK q hn)]; exact q
 frzs := fun b u xs q => by rw [zy (zK q hn)]; exact q
 tbls := fun b ps q => ⟨#[], by rw [zy (zK q hn), q]; simp⟩
theorem Un.write (mu : Mut (H x)) (he : e = x \/ H e = some (.own x)) (k : ∀ b u, b ≠ e -> h.get? b = some u -> h'.get? b = some u) (heo : ∃ u, h'.get? e = some u) : Un fs ex H (upd H x o) h h' := by
 have hx : ∀ b, H b = none -> b ≠ x := fun b n z => by subst z; rw [n] at mu; exact mu
 have hb : ∀ b, H b = none -> b ≠ e := fun b n z => by
  subst z
  rcases he with r | r
  ·exact hx b n r
  ·rw [n] at r; cases r
 have hm : ∀ b u, H b = some u -> ¬ Mut (some u) -> b ≠ x := fun b u q nm z => by subst z; rw [q] at mu; exact nm mu
 refine ⟨fun b u q n _ _ => k b u (hb b n) q, fun b u q n _ _ => ⟨u.slots, k b u (hb b n) q⟩, fun b u q n _ => by rw [zy (hx b n)]; exact n, fun b u q _ => ?_,
  fun b xs q => by rw [zy (hm b _ q fun z => z)]; exact q, fun b u xs q => by rw [zy (hm b _ q fun z => z)]; exact q, fun b ps q => ⟨#[], by rw [zy (hm b _ q fun z => z), q]; simp⟩⟩
 by_cases hbe : b = e
 ·subst hbe; exact heo
 ·exact ⟨u, k b u hbe q⟩
end
def trk (h : Heap) (H : Hp) : List Addr := (am8 h.objs.size).filter fun a => (H a).isSome
def abR (h : Heap) (H : Hp) : Heap := apH h (trk h H)
theorem afW (h : Heap) (H : Hp) : (abR h H).objs.size = h.objs.size := PySem.W.hideAll_size _ _
theorem agR {h : Heap} {H : Hp} {b : Addr} {o : Obj} (e : h.get? b = some o) (n : H b = none) : (abR h H).get? b = some o :=
 ao2 _ e fun hm => by
  have q : (H b).isSome = true := (aoD.mp hm).2
  rw [n] at q; simp at q
theorem aiQ {h : Heap} {H : Hp} {b : Addr} {o : Obj} (e : (abR h H).get? b = some o) : h.get? b = some o /\ H b = none := by
 have e' : h.get? b = some o := PySem.W.of_hideAll (trk h H) e
 refine ⟨e', ?_⟩
 cases q : H b with
 | none => rfl
 | some x =>
  have hm : b ∈ trk h H := aoD.mpr ⟨ans.mpr (amZ e'), by simp [q]⟩
  have z : (abR h H).get? b = none := PySem.W.hideAll_none (trk h H) hm
  rw [z] at e; cases e
def aiR (g h : Heap) (L : Addr) : List (Addr × Obj) := (am8 h.objs.size).filterMap fun a => if a = L \/ (g.get? a).isSome = true then none else (h.get? a).map fun o => (a, o)
def rest (g h : Heap) (L d : Addr) : List (Addr × Obj) := (aiR g h L).filter fun p => decide (p.1 ≠ d)
end L2
namespace L2
open PySem PySem.Spec PyProof.Rows
structure Mod (K : amR) (mg : Str -> Option Value) (base : Heap) : Prop where
 kin : K.In base
 glob : base.Ns mainGlobals mg
 blt : ∃ mb, base.Ns builtinsNs mb /\ ∀ x : Str, x ≠ "__name__" -> mb x = bootBuiltins x
 nolimit : base.NoLimit
structure Cx where
 prog : Program
 w : World
 K : amR
 mg : Str -> Option Value
 base : Heap
 A : Around
 N : List Str
 s₀ : Shared
 H₀ : Hp
 env : Env
 outer : List Env
 stack : List Env
 ex : List Addr
 fn : Str -> Bool
 calm : Bool
 pn : List (Addr × Obj)
 xe : Value -> Shared -> Prop
def frs (l : List Env) : List Addr := l.filterMap (·.frame)
abbrev Cx.fs (X : Cx) : List Addr := frs X.outer
def Vis (sc : Scope) (x : Str) : Prop := sc.names.lookup x = some .local \/ sc.names.lookup x = some .cell \/ sc.names.lookup x = some .free
def Loc (sc : Scope) (x : Str) : Prop := sc.names.lookup x = some .local \/ sc.names.lookup x = some .cell
def Look (env : Env) (h : Heap) (m : Str -> Option Value) (x : Str) (u : Value) : Prop :=
 (env.kindOf x = some .local /\ m x = some u) \/ ((env.kindOf x = some .cell \/ env.kindOf x = some .free) /\ ∃ c, env.cells.lookup x = some c /\ h.IsCell c (some u))
structure Cx.Ok (X : Cx) : Prop where
 mod : Mod X.K X.mg X.base
 kind : X.env.scope.kind = .function
 glob : X.env.globals = mainGlobals
 blt : X.env.builtins = builtinsNs
 above : X.s₀.heap.objs.size <= X.env.locals
 inj : ∀ x y c, X.env.cells.lookup x = some c -> X.env.cells.lookup y = some c -> x = y
 has : ∀ x, (X.env.kindOf x = some .cell \/ X.env.kindOf x = some .free) -> ∃ c, X.env.cells.lookup x = some c
 cab : ∀ x c, X.fn x = true -> X.env.cells.lookup x = some c -> X.s₀.heap.objs.size <= c
 hd : X.calm = true -> X.A.handled = none
 frames : X.A.frames = some X.stack
 stk : X.stack = X.outer \/ (X.stack = X.env :: X.outer /\ X.env.frame = some X.env.locals)
 exf : ∀ b ∈ X.ex, b ≠ X.env.locals /\ ∀ x c, X.env.cells.lookup x = some c -> c ≠ b
 bs : ∀ b o, X.base.get? b = some o -> X.s₀.heap.get? b = some o /\ X.H₀ b = none
 bsz : X.base.objs.size <= X.s₀.heap.objs.size
 noex : ∀ b o, X.base.get? b = some o -> b ∉ X.ex
 exfs : ∀ b ∈ X.ex, b ∉ X.fs
 funs : X.s₀.heap.FunFrames X.base X.outer
 frf : ∀ b ∈ X.fs, X.H₀ b = none
structure Inv (X : Cx) (pins : List (Addr × Obj)) (σ : List (Option V)) (H : Hp) (s : Shared) : Prop where
 ok : X.Ok
 os : s.os = X.s₀.os
 bare : AllBare s.gens
 base : Un X.fs X.ex X.H₀ H X.s₀.heap s.heap
 loc : ∃ m, s.heap.Ns X.env.locals m /\ ∀ (i : Nat) (x : Str) (v : V), X.N[i]? = some x -> σ[i]? = some (some v) -> Vis X.env.scope x -> ∃ u, RelV v u /\ Look X.env s.heap m x u
 cell : ∀ x c, X.env.cells.lookup x = some c -> ∃ v, s.heap.IsCell c v
 free : H X.env.locals = none
 freeC : ∀ x c, X.env.cells.lookup x = some c -> H c = none
 pin : ∀ p ∈ X.pn ++ pins, s.heap.get? p.1 = some p.2 /\ H p.1 = none /\ p.1 ≠ X.env.locals /\ p.1 ∉ X.fs /\ ∀ v, p.2.data ≠ .cell v
 hok : HOk X.prog X.w H s.heap
 len : σ.length = X.N.length
section
variable {X : Cx} {pins : List (Addr × Obj)} {σ : List (Option V)} {H H' : Hp} {s : Shared} {h' : Heap}
theorem Cx.Ok.nofr (ok : X.Ok) {b : Addr} {o : Obj} (e : X.base.get? b = some o) : b ∉ X.fs := fun hb => by
 have := (ok.funs.mem hb).1
 rw [e] at this; cases this
theorem Inv.bs (I : Inv X pins σ H s) : ∀ b o, X.base.get? b = some o -> s.heap.get? b = some o /\ H b = none := fun b o e =>
 ⟨I.base.keep b o (I.ok.bs b o e).1 (I.ok.bs b o e).2 (I.ok.nofr e) (I.ok.noex b o e), I.base.free b o (I.ok.bs b o e).1 (I.ok.bs b o e).2 (I.ok.noex b o e)⟩
theorem Inv.bk (I : Inv X pins σ H s) : ∀ b o, X.base.get? b = some o -> s.heap.get? b = some o := fun b o e => (I.bs b o e).1
theorem Inv.mod (I : Inv X pins σ H s) : Mod X.K X.mg X.base := I.ok.mod
theorem Inv.kIn (I : Inv X pins σ H s) : X.K.In s.heap := I.ok.mod.kin.keeps I.bk
theorem Inv.fr (I : Inv X pins σ H s) : ∃ m, Fr X.base X.env.locals s.heap m :=
 let ⟨m, hn, _⟩ := I.loc
 ⟨m, hn, I.bk, ank I.ok.bsz I.ok.above⟩
theorem Inv.lt (I : Inv X pins σ H s) : X.env.locals < s.heap.objs.size := let ⟨_, hn, _⟩ := I.loc; hn.lt
theorem Inv.sz (I : Inv X pins σ H s) : X.s₀.heap.objs.size <= s.heap.objs.size := ank I.ok.above (anE I.lt)
theorem Inv.nofs (I : Inv X pins σ H s) {a : Addr} (h : s.heap.objs.size <= a) : a ∉ X.fs := fun hb => by
 obtain ⟨_, o, ho, _⟩ := I.ok.funs.mem hb
 exact absurd (ane (amZ ho) (ank I.sz h)) (aoi _)
theorem Inv.cne (I : Inv X pins σ H s) : ∀ x c, X.env.cells.lookup x = some c -> c ≠ X.env.locals := fun x c e z => by
 obtain ⟨v, o, ho, hd⟩ := I.cell x c e
 obtain ⟨m, ⟨o', es, ep, ho', hd', _⟩, _⟩ := I.loc
 rw [z, ho'] at ho; cases ho; rw [hd'] at hd; cases hd
theorem Inv.funs (I : Inv X pins σ H s) : s.heap.FunFrames X.base X.outer := by
 have all : ∀ (l : List Env), (∀ b ∈ frs l, b ∈ X.fs) -> X.s₀.heap.FunFrames X.base l -> s.heap.FunFrames X.base l := by
  intro l
  induction l with
  | nil => intro _ _; trivial
  | cons env r ih =>
   intro hs hl
   obtain ⟨hk, ⟨L, o, hf, hn, ho, hd⟩, hr⟩ := hl
   have hL : L ∈ X.fs := hs L (by unfold frs; rw [aoq, hf]; exact am6)
   obtain ⟨sl, e⟩ := I.base.slot L o ho (I.ok.frf L hL) hL fun z => I.ok.exfs L z hL
   exact ⟨hk, ⟨L, _, hf, hn, e, hd⟩, ih (fun b hb => hs b (by unfold frs; rw [aoq, hf]; exact amY _ hb)) hr⟩
 exact all X.outer (fun _ hb => hb) I.ok.funs
theorem Inv.stack (I : Inv X pins σ H s) : s.heap.FunFrames X.base X.stack := by
 rcases I.ok.stk with e | ⟨e, hf⟩
 ·rw [e]; exact I.funs
 ·rw [e]
  obtain ⟨m, hn, _⟩ := I.loc
  refine .cons (by rw [I.ok.kind]; decide) hf hn ?_ I.funs
  exact Heap.get?_none_of_le (ank I.ok.bsz I.ok.above)
theorem Inv.stkSub (I : Inv X pins σ H s) : ∀ b ∈ frs X.stack, b ∈ X.env.locals :: X.fs := fun b hb => by
 rcases I.ok.stk with e | ⟨e, hf⟩
 ·rw [e] at hb; exact amY _ hb
 ·rw [e] at hb
  unfold frs at hb
  rw [aoq, hf] at hb
  exact hb
theorem Inv.stkFree (I : Inv X pins σ H s) : ∀ b ∈ frs X.stack, H b = none := fun b hb => by
 rcases am2.mp (I.stkSub b hb) with e | hb
 ·rw [e]; exact I.free
 ·obtain ⟨_, o, ho, _⟩ := I.ok.funs.mem hb
  exact I.base.free b o ho (I.ok.frf b hb) fun z => I.ok.exfs b z hb
theorem Inv.step {g' : Array GenState} {t' : Nat} {d' : Drawn} {ch : List Addr} (I : Inv X pins σ H s)
  (hch : ∀ b ∈ ch, (b ∈ X.ex \/ X.s₀.heap.objs.size <= b) /\ b ≠ X.env.locals /\ (∀ x c, X.env.cells.lookup x = some c -> c ≠ b) /\ ∀ p ∈ X.pn ++ pins, p.1 ≠ b)
  (keep : ∀ b o, b ≠ X.env.locals -> b ∉ X.fs -> b ∉ ch -> s.heap.get? b = some o -> H b = none -> h'.get? b = some o)
  (slot : ∀ b o, b ≠ X.env.locals -> b ∈ X.fs -> b ∉ ch -> s.heap.get? b = some o -> H b = none -> ∃ sl, h'.get? b = some { o with slots := sl }) (free : ∀ b o, b ∉ ch -> s.heap.get? b = some o -> H b = none -> H' b = none)
  (there : ∀ b o, b ∉ ch -> s.heap.get? b = some o -> ∃ o', h'.get? b = some o')
  (tups : ∀ b xs, H b = some (.tup xs) -> H' b = some (.tup xs)) (frzs : ∀ b o u, H b = some (.frz o u) -> H' b = some (.frz o u)) (tbls : ∀ b ps, H b = some (.tbl ps) -> ∃ more, H' b = some (.tbl (ps ++ more)))
  (ns : ∀ m, s.heap.Ns X.env.locals m -> h'.Ns X.env.locals m) (hok : HOk X.prog X.w H' h') (hg : AllBare g') :
  Inv X pins σ H' { s with heap := h', gens := g', drawn := d', toks := t' } := by
 have neL : ∀ b o, X.s₀.heap.get? b = some o -> b ≠ X.env.locals := fun b o e => ano (ane (amZ e) I.ok.above)
 have neC : ∀ b o, X.s₀.heap.get? b = some o -> b ∉ X.ex -> b ∉ ch := fun b o e hx hb => by
  rcases (hch b hb).1 with z | z
  ·exact hx z
  ·exact absurd (ane (amZ e) z) (aoi _)
 have cellK : ∀ x c, X.env.cells.lookup x = some c -> ∀ v, s.heap.IsCell c v -> h'.IsCell c v := fun x c e v ⟨o, ho, hd⟩ => by
  have nch : c ∉ ch := fun z => (hch c z).2.2.1 x c e rfl
  by_cases hc : c ∈ X.fs
  ·obtain ⟨sl, q⟩ := slot c o (I.cne x c e) hc nch ho (I.freeC x c e)
   exact ⟨_, q, hd⟩
  ·exact ⟨o, keep c o (I.cne x c e) hc nch ho (I.freeC x c e), hd⟩
 refine ⟨I.ok, I.os, hg, ⟨fun b o e n hb hx => ?_, fun b o e n hb hx => ?_, fun b o e n hx => ?_, fun b o e hx => ?_, fun b xs e => tups b xs (I.base.tups b xs e), fun b o xs e => frzs b o xs (I.base.frzs b o xs e), fun b ps e => ?_⟩, ?_, fun x c e => ?_, ?_, fun x c e => ?_, fun p hp => ?_, hok, I.len⟩
 ·exact keep b o (neL b o e) hb (neC b o e hx) (I.base.keep b o e n hb hx) (I.base.free b o e n hx)
 ·obtain ⟨sl, e1⟩ := I.base.slot b o e n hb hx
  obtain ⟨sl', e2⟩ := slot b _ (neL b o e) hb (neC b o e hx) e1 (I.base.free b o e n hx)
  exact ⟨sl', e2⟩
 ·obtain ⟨o', e1⟩ := I.base.there b o e hx
  exact free b o' (neC b o e hx) e1 (I.base.free b o e n hx)
 ·obtain ⟨o', e1⟩ := I.base.there b o e hx
  exact there b o' (neC b o e hx) e1
 ·obtain ⟨m1, e1⟩ := I.base.tbls b ps e
  obtain ⟨m2, e2⟩ := tbls b _ e1
  exact ⟨m1 ++ m2, by rw [e2, Array.append_assoc]⟩
 ·obtain ⟨m, hn, hl⟩ := I.loc
  refine ⟨m, ns m hn, fun i x v e1 e2 e3 => ?_⟩
  obtain ⟨u, r, l⟩ := hl i x v e1 e2 e3
  refine ⟨u, r, ?_⟩
  rcases l with l | ⟨k, c, e, z⟩
  ·exact .inl l
  ·exact .inr ⟨k, c, e, cellK x c e _ z⟩
 ·obtain ⟨v, z⟩ := I.cell x c e
  exact ⟨v, cellK x c e v z⟩
 ·obtain ⟨m, ⟨o, _, _, ho, _⟩, _⟩ := I.loc
  exact free _ o (fun z => (hch _ z).2.1 rfl) ho I.free
 ·obtain ⟨v, o, ho, hd⟩ := I.cell x c e
  exact free c o (fun z => (hch c z).2.2.1 x c e rfl) ho (I.freeC x c e)
 ·obtain ⟨e, n, ne, nf, d⟩ := I.pin p hp
  have nch : p.1 ∉ ch := fun z => (hch p.1 z).2.2.2 p hp rfl
  exact ⟨keep p.1 p.2 ne nf nch e n, free p.1 p.2 nch e n, ne, nf, d⟩
theorem Inv.un {t' : Nat} (I : Inv X pins σ H s) (u : Un X.fs [] H H' s.heap h') (hok : HOk X.prog X.w H' h') : Inv X pins σ H' { s with heap := h', toks := t' } := by
 obtain ⟨m, ⟨o, es, ep, ho, r⟩, _⟩ := id I.loc
 obtain ⟨sl, hL⟩ := u.any ho I.free (by simp)
 exact I.step (g' := s.gens) (d' := s.drawn) (ch := []) (fun _ z => nomatch z) (fun b o _ hb _ e n => u.keep b o e n hb (by simp)) (fun b o _ hb _ e n => u.slot b o e n hb (by simp)) (fun b o _ e n => u.free b o e n (by simp)) (fun b o _ e => u.there b o e (by simp)) u.tups u.frzs u.tbls (fun m' hm => by
  obtain ⟨o', es', ep', ho', r'⟩ := hm
  rw [ho] at ho'; cases ho'
  exact ⟨_, es', ep', hL, r'⟩) hok I.bare
theorem Inv.call {g' : Array GenState} {t' : Nat} {d' : Drawn} {ch : List Addr} (I : Inv X pins σ H s) (u : Un (frs X.stack) ch H H' s.heap h') (hok : HOk X.prog X.w H' h') (hg : AllBare g')
  (hch : ∀ b ∈ ch, (b ∈ X.ex \/ X.s₀.heap.objs.size <= b) /\ b ≠ X.env.locals /\ (∀ x c, X.env.cells.lookup x = some c -> c ≠ b) /\ ∀ p ∈ X.pn ++ pins, p.1 ≠ b) :
  Inv X pins σ H' { s with heap := h', gens := g', drawn := d', toks := t' } := by
 obtain ⟨m, ⟨o, es, ep, ho, r⟩, _⟩ := id I.loc
 obtain ⟨sl, hL⟩ := u.any ho I.free fun z => (hch _ z).2.1 rfl
 exact I.step (ch := ch) hch (fun b o hL hb hc e n => u.keep b o e n (fun z => (am2.mp (I.stkSub b z)).elim hL hb) hc) (fun b o _ _ hc e n => u.any e n hc) (fun b o hc e n => u.free b o e n hc) (fun b o hc e => u.there b o e hc) u.tups u.frzs u.tbls (fun m' hm => by
  obtain ⟨o', es', ep', ho', r'⟩ := hm
  rw [ho] at ho'; cases ho'
  exact ⟨_, es', ep', hL, r'⟩) hok hg
theorem Inv.turned {t' : Nat} {it : Addr} (I : Inv X pins σ H s) (k : ∀ b o, b ≠ it -> s.heap.get? b = some o -> h'.get? b = some o) (hn : H it = none) (hL : it ≠ X.env.locals)
  (h1 : it ∈ X.ex \/ X.s₀.heap.objs.size <= it) (h2 : ∀ x c, X.env.cells.lookup x = some c -> c ≠ it) (h3 : ∀ p ∈ X.pn ++ pins, p.1 ≠ it) : Inv X pins σ H { s with heap := h', toks := t' } := by
 have nit : ∀ b u, H b = some u -> b ≠ it := fun b u e z => by rw [z, hn] at e; cases e
 refine I.step (g' := s.gens) (d' := s.drawn) (ch := [it]) (fun b hb => ?_) (fun b o _ _ hc e _ => k b o (fun z => hc (by simp [z])) e) (fun b o _ _ hc e _ => ⟨o.slots, k b o (fun z => hc (by simp [z])) e⟩) (fun _ _ _ _ n => n)
  (fun b o hc e => ⟨o, k b o (fun z => hc (by simp [z])) e⟩) (fun _ _ e => e) (fun _ _ _ e => e) (fun b ps e => ⟨#[], by rw [e]; simp⟩) (fun m hm => ?_) (fun b u e => ?_) I.bare
 ·have e : b = it := by simpa using hb
  subst e
  exact ⟨h1, hL, h2, h3⟩
 ·obtain ⟨o, es, ep, ho, r⟩ := hm
  exact ⟨o, es, ep, k _ o (anU hL) ho, r⟩
 ·refine (I.hok b u e).stay (fun c v hc q => k c v ?_ q) (fun _ q => q) fun _ _ q => q
  rcases hc with z | z
  ·rw [z]; exact nit b u e
  ·exact nit c _ z
theorem Inv.tok (I : Inv X pins σ H s) (t : Nat) : Inv X pins σ H { s with toks := t } := I.un (h' := s.heap) (t' := t) Un.refl I.hok
theorem Inv.kept {t' : Nat} (I : Inv X pins σ H s) (k : ∀ b u, s.heap.get? b = some u -> h'.get? b = some u) : Inv X pins σ H { s with heap := h', toks := t' } := I.un (Un.kept k) (I.hok.kept k)
theorem Inv.laid {a : Addr} {o : HO} {t' : Nat} (I : Inv X pins σ H s) (k : ∀ b u, s.heap.get? b = some u -> h'.get? b = some u) (hp : s.heap.objs.size <= a) (new : ObjOk X.prog X.w (upd H a o) h' a o) :
  Inv X pins σ (upd H a o) { s with heap := h', toks := t' } := I.un (Un.laid k hp (I.hok.fresh hp)) (I.hok.laid k hp new)
theorem Inv.write {x e : Addr} {o : HO} {t' : Nat} (I : Inv X pins σ H s) (mu : Mut (H x)) (he : e = x \/ H e = some (.own x)) (k : ∀ b u, b ≠ e -> s.heap.get? b = some u -> h'.get? b = some u) (heo : ∃ u, h'.get? e = some u)
  (new : ObjOk X.prog X.w (upd H x o) h' x o) : Inv X pins σ (upd H x o) { s with heap := h', toks := t' } := I.un (Un.write mu he k heo) (I.hok.write mu he k heo new)
theorem Inv.pins_of {pins' : List (Addr × Obj)} (I : Inv X pins σ H s) (h : ∀ p ∈ pins', s.heap.get? p.1 = some p.2 /\ H p.1 = none /\ p.1 ≠ X.env.locals /\ p.1 ∉ X.fs /\ ∀ v, p.2.data ≠ .cell v) : Inv X pins' σ H s :=
 ⟨I.ok, I.os, I.bare, I.base, I.loc, I.cell, I.free, I.freeC, fun p hp => (anF.mp hp).elim (fun z => I.pin p (anQ _ z)) (h p), I.hok, I.len⟩
theorem aaq {N : List Str} (hN : N.Nodup) {i j : Nat} {x : Str} (a : N[i]? = some x) (b : N[j]? = some x) : i = j := by
 obtain ⟨h1, e1⟩ := amU.mp a
 obtain ⟨h2, e2⟩ := amU.mp b
 exact (apx hN).mp (e1.trans e2.symm)
theorem abh {M : Model} {A : Around} {E : Value -> Shared -> Prop} {i : Nat} {x : Str} {v : V} {u : Value} {Q : Unit -> Shared -> Prop} (I : Inv X pins σ H s) (hN : X.N.Nodup) (hi : X.N[i]? = some x) (hx : Loc X.env.scope x) (r : RelV v u)
  (h : ∀ s', Inv X pins (σ.set i (some v)) H s' -> (∃ a, aoL a s.heap s'.heap /\ (a = X.env.locals \/ X.env.cells.lookup x = some a)) -> Q () s') (hf : X.fn x = true \/ X.env.scope.names.lookup x = some .local := by first | exact .inl rfl | exact .inr rfl | assumption) : wpAny M A (storeName X.env x u) Q E s := by
 obtain ⟨m, hn, hl⟩ := id I.loc
 have hcls : (X.env.scope.kind == .class || (X.env.scope.kind == .module && X.env.locals != X.env.globals)) = false := by rw [I.ok.kind]; rfl
 have hiσ : i < σ.length := by rw [I.len]; exact (amU.mp hi).1
 have cne := I.cne
 have tracked : ∀ {a : Addr} {h' : Heap}, (∃ o, s.heap.get? a = some o /\ H a = none) -> aoL a s.heap h' -> HOk X.prog X.w H h' := fun {a h'} ha hs b ob e => by
  obtain ⟨_, _, hfree⟩ := ha
  refine (I.hok b ob e).stay (fun c w' hc q => (hs.2 c ?_).trans q) (fun _ q => q) fun _ _ q => q
  rintro rfl
  rcases hc with rfl | hc
  ·rw [hfree] at e; cases e
  ·rw [hfree] at hc; cases hc
 rcases hx with hk | hk
 ·refine wpAny_storeName_local hk hn (fun h' hn' hs => ?_) hcls
  obtain ⟨oL, _, _, hoL, _⟩ := id hn
  refine h _ ⟨I.ok, I.os, I.bare, ⟨fun b o e n hb hx => ?_, fun b o e n hb hx => ?_, I.base.free, fun b o e hx => ?_, I.base.tups, I.base.frzs, I.base.tbls⟩, ⟨_, hn', fun j y v' e1 e2 e3 => ?_⟩, fun y c e => ?_, I.free, I.freeC, fun p hp => ?_, tracked ⟨oL, hoL, I.free⟩ hs, by simpa using I.len⟩ ⟨_, hs, .inl rfl⟩
  ·exact (hs.2 b (ano (ane (amZ e) I.ok.above))).trans (I.base.keep b o e n hb hx)
  ·obtain ⟨sl, e1⟩ := I.base.slot b o e n hb hx
   exact ⟨sl, (hs.2 b (ano (ane (amZ e) I.ok.above))).trans e1⟩
  ·obtain ⟨o', e1⟩ := I.base.there b o e hx
   exact ⟨o', (hs.2 b (ano (ane (amZ e) I.ok.above))).trans e1⟩
  ·by_cases hj : j = i
   ·subst hj
    rw [hi] at e1; cases e1
    rw [aob hiσ] at e2
    cases e2
    exact ⟨u, r, .inl ⟨hk, by simp⟩⟩
   ·rw [aol (anU hj)] at e2
    obtain ⟨u', r', q⟩ := hl j y v' e1 e2 e3
    refine ⟨u', r', ?_⟩
    rcases q with ⟨k, e⟩ | ⟨k, c, e, z⟩
    ·refine .inl ⟨k, ?_⟩
     have : y ≠ x := fun e => hj (aaq hN e1 (e ▸ hi))
     simp [this, e]
    ·exact .inr ⟨k, c, e, z.sameBut hs (cne y c e)⟩
  ·obtain ⟨w', z⟩ := I.cell y c e
   exact ⟨w', z.sameBut hs (cne y c e)⟩
  ·obtain ⟨e, n, ne, nf, d⟩ := I.pin p hp
   exact ⟨(hs.2 p.1 ne).trans e, n, ne, nf, d⟩
 ·have hfn : X.fn x = true := by
   rcases hf with z | z
   ·exact z
   ·rw [z] at hk; cases hk
  obtain ⟨c, hc⟩ := I.ok.has x (.inl hk)
  obtain ⟨w', z⟩ := I.cell x c hc
  refine wpAny_storeName_cell I.ok.kind hk hc z (fun h' hc' hs => ?_)
  obtain ⟨oc, hoc, hocd⟩ := id z
  refine h { s with heap := h' } ⟨I.ok, I.os, I.bare, ⟨fun b o e n hb hx => ?_, fun b o e n hb hx => ?_, I.base.free, fun b o e hx => ?_, I.base.tups, I.base.frzs, I.base.tbls⟩, ⟨m, hn.sameBut hs (anU (cne x c hc)), fun j y v' e1 e2 e3 => ?_⟩, fun y c' e => ?_, I.free, I.freeC, fun p hp => ?_, tracked ⟨oc, hoc, I.freeC x c hc⟩ hs, by simpa using I.len⟩ ⟨c, hs, .inr hc⟩
  ·exact (hs.2 b (ano (ane (amZ e) (I.ok.cab x c hfn hc)))).trans (I.base.keep b o e n hb hx)
  ·obtain ⟨sl, e1⟩ := I.base.slot b o e n hb hx
   exact ⟨sl, (hs.2 b (ano (ane (amZ e) (I.ok.cab x c hfn hc)))).trans e1⟩
  ·obtain ⟨o', e1⟩ := I.base.there b o e hx
   exact ⟨o', (hs.2 b (ano (ane (amZ e) (I.ok.cab x c hfn hc)))).trans e1⟩
  ·by_cases hj : j = i
   ·subst hj
    rw [hi] at e1; cases e1
    rw [aob hiσ] at e2
    cases e2
    exact ⟨u, r, .inr ⟨.inl hk, c, hc, hc'⟩⟩
   ·rw [aol (anU hj)] at e2
    obtain ⟨u', r', q⟩ := hl j y v' e1 e2 e3
    refine ⟨u', r', ?_⟩
    rcases q with q | ⟨k, c', e, z'⟩
    ·exact .inl q
    ·refine .inr ⟨k, c', e, z'.sameBut hs ?_⟩
     rintro rfl
     exact hj (aaq hN e1 (I.ok.inj _ _ _ e hc ▸ hi))
  ·by_cases hcc : c' = c
   ·subst hcc; exact ⟨_, hc'⟩
   ·obtain ⟨w2, z2⟩ := I.cell y c' e
    exact ⟨w2, z2.sameBut hs hcc⟩
  ·obtain ⟨e, n, ne, nf, d⟩ := I.pin p hp
   refine ⟨(hs.2 p.1 ?_).trans e, n, ne, nf, d⟩
   intro q
   rw [q, hoc] at e
   have q' : oc = p.2 := Option.some.inj e
   exact d w' (by rw [<- q']; exact hocd)
theorem je {M : Model} {A : Around} {E : Value -> Shared -> Prop} {i : Nat} {x : Str} {v : V} {u : Value} {Q : Unit -> Shared -> Prop} (I : Inv X pins σ H s) (hN : X.N.Nodup) (hi : X.N[i]? = some x) (hx : Loc X.env.scope x) (r : RelV v u)
  (h : ∀ s', Inv X pins (σ.set i (some v)) H s' -> Q () s') (hf : X.fn x = true \/ X.env.scope.names.lookup x = some .local := by first | exact .inl rfl | exact .inr rfl | assumption) : wpAny M A (storeName X.env x u) Q E s :=
 abh I hN hi hx r (fun s' I' _ => h s' I') hf
theorem Inv.call' {s' : Shared} {ch : List Addr} (I : Inv X pins σ H s) (ho : s'.os = s.os) (u : Un (frs X.stack) ch H H' s.heap s'.heap) (hok : HOk X.prog X.w H' s'.heap) (hg : AllBare s'.gens)
  (hch : ∀ b ∈ ch, (b ∈ X.ex \/ X.s₀.heap.objs.size <= b) /\ b ≠ X.env.locals /\ (∀ x c, X.env.cells.lookup x = some c -> c ≠ b) /\ ∀ p ∈ X.pn ++ pins, p.1 ≠ b) : Inv X pins σ H' s' := by
 obtain ⟨h', g', d', t', o'⟩ := s'
 have e : o' = s.os := ho
 subst e
 exact I.call (g' := g') (t' := t') (d' := d') u hok hg hch
end
abbrev XK := Value -> Option Addr -> Hp -> Prop
abbrev St := List (Option V)
abbrev VK := V -> Hp -> Prop
abbrev TE := St -> Hp -> VK -> Prop
abbrev TT := St -> Hp -> (Bool -> Hp -> Prop) -> Prop
abbrev TA := St -> Hp -> (List V -> Hp -> Prop) -> Prop
structure Ends where
 nx : St -> Hp -> Prop
 rt : VK
 bk : St -> Hp -> Prop := fun _ _ => False
 ct : St -> Hp -> Prop := fun _ _ => False
abbrev TS := Ends -> St -> Hp -> Prop
def EP (X : Cx) (pins : List (Addr × Obj)) (σ : St) (Q : VK) (u : Value) (s' : Shared) : Prop := ∃ v H', Inv X pins σ H' s' /\ RelV v u /\ Q v H'
def TP (X : Cx) (pins : List (Addr × Obj)) (σ : St) (Q : Bool -> Hp -> Prop) (b : Bool) (s' : Shared) : Prop := ∃ H', Inv X pins σ H' s' /\ Q b H'
def AP (X : Cx) (pins : List (Addr × Obj)) (σ : St) (Q : List V -> Hp -> Prop) (us : List Value) (s' : Shared) : Prop := ∃ vs H', Inv X pins σ H' s' /\ Vals vs us /\ Q vs H'
def SP (X : Cx) (pins : List (Addr × Obj)) (D : Ends) (f : Flow) (s' : Shared) : Prop :=
 match f with
 | .next => ∃ σ' H', Inv X pins σ' H' s' /\ D.nx σ' H'
 | .brk => ∃ σ' H', Inv X pins σ' H' s' /\ D.bk σ' H'
 | .cont => ∃ σ' H', Inv X pins σ' H' s' /\ D.ct σ' H'
 | .ret u => ∃ v σ' H', Inv X pins σ' H' s' /\ RelV v u /\ D.rt v H'
def PE (X : Cx) (e : Expr) (t : TE) : Prop :=
 ∀ (pins : List (Addr × Obj)) (s : Shared) (σ : St) (H : Hp) (Q : VK), Inv X pins σ H s -> t σ H Q -> wpAny (model X.prog X.w) X.A (eval e X.env) (EP X pins σ Q) X.xe s
def PT (X : Cx) (e : Expr) (t : TT) : Prop :=
 ∀ (pins : List (Addr × Obj)) (s : Shared) (σ : St) (H : Hp) (Q : Bool -> Hp -> Prop), Inv X pins σ H s -> t σ H Q -> wpAny (model X.prog X.w) X.A (isTrue e X.env (eval e X.env)) (TP X pins σ Q) X.xe s
def PW (X : Cx) (e : Expr) (t : TT) : Prop :=
 ∀ (whole : Sem Value) (pins : List (Addr × Obj)) (s : Shared) (σ : St) (H : Hp) (Q : Bool -> Hp -> Prop), Inv X pins σ H s -> t σ H Q -> wpAny (model X.prog X.w) X.A (isTrue e X.env whole) (TP X pins σ Q) X.xe s
theorem PW.pt {X : Cx} {e : Expr} {t : TT} (h : PW X e t) : PT X e t := h _
def PA (X : Cx) (es : List Expr) (t : TA) : Prop :=
 ∀ (pos : Pos) (pins : List (Addr × Obj)) (s : Shared) (σ : St) (H : Hp) (Q : List V -> Hp -> Prop), Inv X pins σ H s -> t σ H Q -> wpAny (model X.prog X.w) X.A (spliced (backTo pos (starEach es X.env))) (AP X pins σ Q) X.xe s
def PS (X : Cx) (st : Stmt) (t : TS) : Prop :=
 ∀ (pins : List (Addr × Obj)) (s : Shared) (σ : St) (H : Hp) (D : Ends), Inv X pins σ H s -> t D σ H -> wpAny (model X.prog X.w) X.A (exec st X.env) (SP X pins D) X.xe s
def PSs (X : Cx) (st : List Stmt) (t : TS) : Prop :=
 ∀ (pins : List (Addr × Obj)) (s : Shared) (σ : St) (H : Hp) (D : Ends), Inv X pins σ H s -> t D σ H -> wpAny (model X.prog X.w) X.A (execs st X.env) (SP X pins D) X.xe s
theorem thn {α : Type} {t : Sem α} {Q Q' : α -> Shared -> Prop} {M : Model} {A : Around} {E : Value -> Shared -> Prop} {s : Shared} (h : wpAny M A t Q E s) (hQ : ∀ a s, Q a s -> Q' a s) : wpAny M A t Q' E s := wpAny_mono h hQ fun _ _ x => x
end L2
namespace L2
open PySem PySem.Spec PyProof.Rows
section
variable {X : Cx}
def yn (i : Nat) : TE := fun σ H Q => ∃ v, σ[i]? = some (some v) /\ Q v H
def tC (v : V) : TE := fun _ H Q => Q v H
theorem akN {i : Nat} {x : Str} {pos : Pos} (hN : X.N[i]? = some x) (hv : Vis X.env.scope x) (hd : (x == ("__debug__" : Str)) = false := by decide) (hcd : (x == ("__classdict__" : Str)) = false := by decide) : PE X (.Name x pos) (yn i) := by
 intro pins s σ H Q I h
 obtain ⟨v, e, h⟩ := h
 obtain ⟨m, hn, hl⟩ := I.loc
 obtain ⟨u, r, l⟩ := hl i x v hN e hv
 have fin : EP X pins σ Q u s := ⟨v, H, I, r, h⟩
 rcases l with ⟨hk, hm⟩ | ⟨hk, c, hc, hcell⟩
 ·exact wpAny_Name (wpAny_loadName_local I.ok.kind hk hn hm fin) hd
 ·rcases hk with hk | hk
  ·exact wpAny_Name (wpAny_loadName_cell I.ok.kind hk hc hcell fin) hd
  ·exact wpAny_Name (wpAny_loadName_free I.ok.kind hk hc hcell fin hcd) hd
theorem zg {i j pos} : PE X (.Constant (.int i) j pos) (tC (.int i)) := fun _ _ _ H _ I h => wpAny_Constant_int ⟨.int i, H, I.tok _, ⟨_, rfl⟩, h⟩
theorem abi {b j pos} : PE X (.Constant (.bool b) j pos) (tC (.bl b)) := fun _ _ _ H _ I h => Constant_bool ⟨.bl b, H, I, rfl, h⟩
theorem adQ {j pos} : PE X (.Constant .none j pos) (tC .non) := fun _ _ _ H _ I h => Constant_none ⟨.non, H, I, rfl, h⟩
theorem yR {x j pos} : PE X (.Constant (.str x) j pos) (tC (.str x)) := fun _ _ _ H _ I h => Calls.Constant_str ⟨.str x, H, I.tok _, ⟨_, rfl⟩, h⟩
def Gl (X : Cx) (x : Str) : Prop := X.env.kindOf x = some .globalImplicit
theorem jQ {E : Value -> Shared -> Prop} {pins : List (Addr × Obj)} {s : Shared} {σ : St} {H : Hp} {x : Str} {u : Value} {pos : Pos} {Q : Value -> Shared -> Prop} (I : Inv X pins σ H s) (hg : Gl X x) (hm : X.mg x = some u) (h : Q u s)
  (hd : (x == ("__debug__" : Str)) = false := by decide) : wpAny (model X.prog X.w) X.A (eval (.Name x pos) X.env) Q E s :=
 apQ I.ok.kind hg (Calls.loadGlobal_global (by rw [I.ok.glob]; exact I.mod.glob.keeps I.bk) hm h) hd
theorem qR {E : Value -> Shared -> Prop} {pins : List (Addr × Obj)} {s : Shared} {σ : St} {H : Hp} {x : Str} {u : Value} {pos : Pos} {Q : Value -> Shared -> Prop} (I : Inv X pins σ H s) (hg : Gl X x) (hm : X.mg x = none) (hv : bootBuiltins x = some u) (h : Q u s)
  (hn : x ≠ "__name__" := by decide) (hd : (x == ("__debug__" : Str)) = false := by decide) : wpAny (model X.prog X.w) X.A (eval (.Name x pos) X.env) Q E s := by
 obtain ⟨mb, h1, h2⟩ := I.mod.blt
 exact apQ I.ok.kind hg (Calls.loadGlobal_builtin (by rw [I.ok.glob]; exact I.mod.glob.keeps I.bk) hm (by rw [I.ok.blt]; exact h1.keeps I.bk) ((h2 x hn).trans hv) h) hd
theorem yI {x : Str} {v : V} {u : Value} {pos : Pos} (hg : Gl X x) (hm : X.mg x = some u) (r : RelV v u) (hd : (x == ("__debug__" : Str)) = false := by decide) : PE X (.Name x pos) (tC v) :=
 fun _ _ _ H _ I h => jQ I hg hm ⟨v, H, I, r, h⟩ hd
theorem aiS {x : Str} {v : V} {u : Value} {pos : Pos} (hg : Gl X x) (hm : X.mg x = none) (hv : bootBuiltins x = some u) (r : RelV v u) (hn : x ≠ "__name__" := by decide) (hd : (x == ("__debug__" : Str)) = false := by decide) : PE X (.Name x pos) (tC v) :=
 fun _ _ _ H _ I h => qR I hg hm hv ⟨v, H, I, r, h⟩ hn hd
variable {a b : Expr} {ta tb : TE} {pos : Pos}
def tB (t : TE) : TT := fun σ H Q => t σ H fun x H1 => ∃ c, x = .bl c /\ Q c H1
variable {tA tB' : TT} {rest : List Expr}
def al6 (t u : TT) : TT := fun σ H Q => t σ H fun c H1 => if c = true then u σ H1 Q else Q false H1
def tOr (t u : TT) : TT := fun σ H Q => t σ H fun c H1 => if c = true then Q true H1 else u σ H1 Q
def al7 (t : TT) : TT := fun σ H Q => t σ H fun c H1 => Q (!c) H1
theorem aiT (ha : PT X a tA) : PW X (.BoolOp .And [a] pos) tA := by
 intro wh pins s σ H Q I h
 refine isTrue_and (thn (ha pins s σ H Q I h) fun c s1 e => ?_)
 cases c with
 | true => exact isTrue_and_nil e
 | false => exact e
theorem agS (ha : PT X a tA) : PW X (.BoolOp .Or [a] pos) tA := by
 intro wh pins s σ H Q I h
 refine isTrue_or (thn (ha pins s σ H Q I h) fun c s1 e => ?_)
 cases c with
 | false => exact isTrue_or_nil e
 | true => exact e
theorem akO (ha : PT X a tA) (hb : PW X (.BoolOp .And (b :: rest) pos) tB') : PW X (.BoolOp .And (a :: b :: rest) pos) (al6 tA tB') := by
 intro wh pins s σ H Q I h
 refine isTrue_and (thn (ha pins s σ H _ I h) fun c s1 ⟨H1, I1, q1⟩ => ?_)
 cases c with
 | true => exact hb wh pins s1 σ H1 Q I1 q1
 | false => exact ⟨H1, I1, q1⟩
theorem akg (ha : PT X a tA) (hb : PW X (.BoolOp .Or (b :: rest) pos) tB') : PW X (.BoolOp .Or (a :: b :: rest) pos) (tOr tA tB') := by
 intro wh pins s σ H Q I h
 refine isTrue_or (thn (ha pins s σ H _ I h) fun c s1 ⟨H1, I1, q1⟩ => ?_)
 cases c with
 | true => exact ⟨H1, I1, q1⟩
 | false => exact hb wh pins s1 σ H1 Q I1 q1
theorem aar (ha : PT X a tA) : PT X (.UnaryOp .Not a pos) (al7 tA) := by
 intro pins s σ H Q I h
 exact isTrue_not (ha pins s σ H (fun c H1 => Q (!c) H1) I h)
def akh (ta tb : TE) : TE := fun σ H Q => ta σ H fun x H1 => ∃ c, x = .bl c /\ if c = true then tb σ H1 Q else Q (.bl false) H1
def aki (ta : TE) : TE := fun σ H Q => ta σ H fun x H1 => ∃ c, x = .bl c /\ Q (.bl (!c)) H1
theorem abS {op} {t : TE} (h : PE X a t) : PE X (.BoolOp op [a] pos) t := fun pins s σ H Q I hw => BoolOp_one (h pins s σ H Q I hw)
theorem vC (ha : PE X a ta) (hb : PE X (.BoolOp .And (b :: rest) pos) tb) : PE X (.BoolOp .And (a :: b :: rest) pos) (akh ta tb) := by
 intro pins s σ H Q I h
 refine BoolOp_and (thn (ha pins s σ H _ I h) fun v s1 ⟨x, H1, I1, r1, q1⟩ => ?_)
 obtain ⟨c, rfl, q1⟩ := q1
 cases r1
 refine wpAny_truthy_bool ?_
 cases c with
 | true => exact hb pins s1 σ H1 Q I1 q1
 | false => exact ⟨.bl false, H1, I1, rfl, q1⟩
theorem agT (ha : PE X a ta) : PE X (.UnaryOp .Not a pos) (aki ta) := by
 intro pins s σ H Q I h
 refine UnaryOp_ (thn (ha pins s σ H _ I h) fun v s1 ⟨x, H1, I1, r1, q1⟩ => ?_)
 obtain ⟨c, rfl, q1⟩ := q1
 cases r1
 exact not_of (wpAny_truthy_bool ⟨.bl (!c), H1, I1, rfl, q1⟩)
def tIf (t : TT) (ta tb : TE) : TE := fun σ H Q => t σ H fun c H1 => if c = true then ta σ H1 Q else tb σ H1 Q
theorem qZ {c : Expr} (hc : PT X c tA) (ha : PE X a ta) (hb : PE X b tb) : PE X (.IfExp c a b pos) (tIf tA ta tb) := by
 intro pins s σ H Q I h
 refine wpAny_IfExp (thn (hc pins s σ H _ I h) fun d s1 ⟨H1, I1, q1⟩ => ?_)
 cases d with
 | true => exact ha pins s1 σ H1 Q I1 q1
 | false => exact hb pins s1 σ H1 Q I1 q1
end
end L2
namespace L2
open PySem PySem.Spec PyProof.Rows
def SqL (K : amR) (H : Hp) (a : Addr) (xs : List V) : Prop :=
 Rd H a (.lst xs) \/
  ∃ (o : Obj) (its : Array Value) (n : Nat), K.lookup a = some o /\ o.cls = .type "list" /\ o.dict = none /\ o.data = .seq its n /\ its.size <= sizeLine /\ Vals xs its.toList
def SqT (K : amR) (H : Hp) (a : Addr) (xs : List V) : Prop :=
 Rd H a (.tup xs) \/
  ∃ (o : Obj) (its : Array Value) (n : Nat), K.lookup a = some o /\ o.cls = .type "tuple" /\ o.data = .seq its n /\ its.size <= sizeLine /\ Vals xs its.toList
def amG : Value -> Option V
 | .none => some .non
 | .bool b => some (.bl b)
 | .int i _ => some (.int i)
 | .str x _ => some (.str x)
 | .bytes b _ => some (.byt b)
 | .float b _ => some (.flt b)
 | .ref a => some (.ref a)
 | .type n => some (.ty n)
 | _ => none
theorem RelV.abs {x : V} {u : Value} (r : RelV x u) : amG u = some x := by
 cases x with
 | non => cases r; rfl
 | bl _ => cases r; rfl
 | int _ => obtain ⟨t, rfl⟩ := r; rfl
 | str _ => obtain ⟨t, rfl⟩ := r; rfl
 | byt _ => obtain ⟨t, rfl⟩ := r; rfl
 | flt _ => obtain ⟨t, rfl⟩ := r; rfl
 | ref _ => cases r; rfl
 | ty _ => cases r; rfl
theorem RelV.inj {x y : V} {u : Value} (r : RelV x u) (q : RelV y u) : x = y := Option.some.inj (r.abs.symm.trans q.abs)
theorem Vals.inj : ∀ {xs ys : List V} {us : List Value}, Vals xs us -> Vals ys us -> xs = ys
 | _, _, _, .nil, .nil => rfl
 | _, _, _, .cons r t, .cons r' t' => by rw [r.inj r', Vals.inj t t']
section
variable {X : Cx} {pins : List (Addr × Obj)} {σ : St} {H : Hp} {s : Shared} {a : Addr} {xs ys : List V}
theorem SqL.of {K : amR} (h : H a = some (.lst xs)) : SqL K H a xs := .inl (.inl h)
theorem SqT.of {K : amR} (h : H a = some (.tup xs)) : SqT K H a xs := .inl (.inl h)
theorem Inv.list (I : Inv X pins σ H s) (h : SqL X.K H a xs) : ∃ its : List Value, Vals xs its /\ PlainL s.heap a its.toArray /\ xs.length <= sizeLine := by
 rcases h with h | ⟨o, its, n, hk, hc, hd, hs, hz, r⟩
 ·obtain ⟨z, its, n, r, e⟩ := h.ok I.hok
  exact ⟨its, r, ⟨_, n, e, rfl, rfl, rfl⟩, z⟩
 ·refine ⟨its.toList, r, ⟨o, n, I.kIn a o hk, hc, hd, by simpa using hs⟩, ?_⟩
  have e := r.length
  simp only [am5] at e
  omega
theorem Inv.tuple (I : Inv X pins σ H s) (h : SqT X.K H a xs) : ∃ its : List Value, Vals xs its /\ IsTup s.heap a its.toArray /\ xs.length <= sizeLine := by
 rcases h with h | ⟨o, its, n, hk, hc, hs, hz, r⟩
 ·obtain ⟨z, its, r, p⟩ := h.ok I.hok
  exact ⟨its, r, p, z⟩
 ·refine ⟨its.toList, r, ⟨o, I.kIn a o hk, hc, n, by simpa using hs⟩, ?_⟩
  have e := r.length
  simp only [am5] at e
  omega
theorem Inv.list_inj (I : Inv X pins σ H s) (h : SqL X.K H a xs) (h' : SqL X.K H a ys) : xs = ys := by
 obtain ⟨its, r, ⟨o, n, e, _, _, d⟩, _⟩ := I.list h
 obtain ⟨its', r', ⟨o', n', e', _, _, d'⟩, _⟩ := I.list h'
 rw [e] at e'; cases e'
 rw [d] at d'
 injection d' with d1 _
 have : its = its' := by simpa using congrArg Array.toList d1
 subst this
 exact r.inj r'
theorem Inv.tuple_inj (I : Inv X pins σ H s) (h : SqT X.K H a xs) (h' : SqT X.K H a ys) : xs = ys := by
 obtain ⟨its, r, ⟨o, e, _, n, d⟩, _⟩ := I.tuple h
 obtain ⟨its', r', ⟨o', e', _, n', d'⟩, _⟩ := I.tuple h'
 rw [e] at e'; cases e'
 rw [d] at d'
 injection d' with d1 _
 have : its = its' := by simpa using congrArg Array.toList d1
 subst this
 exact r.inj r'
end
abbrev Cx.wish (X : Cx) (E : Value -> Shared -> Prop) : Cx := { X with xe := E }
abbrev Cx.nox (X : Cx) : Cx := X.wish fun _ _ => False
theorem Cx.Ok.wish {X : Cx} (ok : X.Ok) (E : Value -> Shared -> Prop) : (X.wish E).Ok :=
 ⟨ok.mod, ok.kind, ok.glob, ok.blt, ok.above, ok.inj, ok.has, ok.cab, ok.hd, ok.frames, ok.stk, ok.exf, ok.bs, ok.bsz, ok.noex, ok.exfs, ok.funs, ok.frf⟩
theorem Cx.Ok.unwish {X : Cx} {E : Value -> Shared -> Prop} (ok : (X.wish E).Ok) : X.Ok :=
 ⟨ok.mod, ok.kind, ok.glob, ok.blt, ok.above, ok.inj, ok.has, ok.cab, ok.hd, ok.frames, ok.stk, ok.exf, ok.bs, ok.bsz, ok.noex, ok.exfs, ok.funs, ok.frf⟩
section
variable {X : Cx} {pins : List (Addr × Obj)} {σ : St} {H : Hp} {s : Shared} {E : Value -> Shared -> Prop}
theorem Inv.wish (I : Inv X pins σ H s) (E : Value -> Shared -> Prop) : Inv (X.wish E) pins σ H s := ⟨I.ok.wish E, I.os, I.bare, I.base, I.loc, I.cell, I.free, I.freeC, I.pin, I.hok, I.len⟩
theorem Inv.unwish (I : Inv (X.wish E) pins σ H s) : Inv X pins σ H s := ⟨I.ok.unwish, I.os, I.bare, I.base, I.loc, I.cell, I.free, I.freeC, I.pin, I.hok, I.len⟩
theorem SP.unwish {D : Ends} {f : Flow} {s' : Shared} (h : SP (X.wish E) pins D f s') : SP X pins D f s' := by
 cases f with
 | next => obtain ⟨σ', H', I, q⟩ := h; exact ⟨σ', H', I.unwish, q⟩
 | brk => obtain ⟨σ', H', I, q⟩ := h; exact ⟨σ', H', I.unwish, q⟩
 | cont => obtain ⟨σ', H', I, q⟩ := h; exact ⟨σ', H', I.unwish, q⟩
 | ret u => obtain ⟨v, σ', H', I, r, q⟩ := h; exact ⟨v, σ', H', I.unwish, r, q⟩
theorem PSs.nox {st : List Stmt} {t : TS} (h : PSs X.nox st t) : PSs X st t := fun pins s σ H D I hw =>
 wpAny_mono (h pins s σ H D (I.wish _) hw) (fun _ _ q => q.unwish) fun _ _ z => anN z
end
section
variable {X : Cx} {st : Stmt} {rest : List Stmt} {t u : TS} {e : Expr} {te : TE} {pos : Pos}
def aeG : TS := fun D σ H => D.nx σ H
def v7 (t u : TS) : TS := fun D σ H => t { D with nx := u D } σ H
theorem zR : PSs X [] aeG := fun _ _ σ H _ I h => wpAny_execs_nil ⟨σ, H, I, h⟩
theorem zc (h1 : PS X st t) (h2 : PSs X rest u) : PSs X (st :: rest) (v7 t u) := by
 intro pins s σ H D I h
 refine wpAny_execs_cons (thn (h1 pins s σ H { D with nx := u D } I h) fun f s1 q => ?_)
 cases f with
 | next =>
  obtain ⟨σ', H', I', q⟩ := q
  exact h2 pins s1 σ' H' D I' q
 | ret v => exact q
 | brk => exact q
 | cont => exact q
theorem zj (h1 : PS X st t) : PSs X [st] t := by
 intro pins s σ H D I h
 refine wpAny_execs_cons (thn (h1 pins s σ H D I h) fun f s1 q => ?_)
 cases f with
 | next => exact wpAny_execs_nil q
 | ret v => exact q
 | brk => exact q
 | cont => exact q
theorem Inv.quiet {pins : List (Addr × Obj)} {σ : St} {H : Hp} {s : Shared} (I : Inv X pins σ H s) : interactive X.env = false := by simp [interactive, I.ok.kind]
def aeH (te : TE) : TS := fun D σ H => te σ H fun _ H1 => D.nx σ H1
theorem jl (he : PE X e te) (hs : swapsWith e none pos.line X.env = pure false := by rfl) : PS X (.Expr e pos) (aeH te) := by
 intro pins s σ H D I h
 exact wpAny_Expr_any (thn (he pins s σ H _ I h) fun v s1 ⟨x, H1, I1, r1, q1⟩ => ⟨σ, H1, I1, q1⟩) I.quiet hs
def adR (te : TE) : TS := fun D σ H => te σ H D.rt
theorem zv (he : PE X e te) : PS X (.Return (some e) pos) (adR te) := by
 intro pins s σ H D I h
 exact wpAny_Return_some (thn (he pins s σ H _ I h) fun v s1 ⟨x, H1, I1, r1, q1⟩ => ⟨x, σ, H1, I1, r1, q1⟩)
def afX (c : TT) (t u : TS) : TS := fun D σ H => c σ H fun b H1 => if b = true then t D σ H1 else u D σ H1
theorem yC {c : Expr} {a b : List Stmt} {tc : TT} (hc : PT X c tc) (ha : PSs X a t) (hb : PSs X b u) : PS X (.If c a b pos) (afX tc t u) := by
 intro pins s σ H D I h
 refine wpAny_If (thn (hc pins s σ H _ I h) fun d s1 ⟨H1, I1, q1⟩ => ?_)
 cases d with
 | true => exact ha pins s1 σ H1 D I1 q1
 | false => exact hb pins s1 σ H1 D I1 q1
def akP : TS := fun _ _ _ => False
theorem aas : PS X st akP := fun _ _ _ _ _ _ h => h.elim
end
abbrev TG := V -> St -> Hp -> (St -> Hp -> Prop) -> Prop
abbrev TGs := List V -> St -> Hp -> (St -> Hp -> Prop) -> Prop
def PG (X : Cx) (target : Expr) (t : TG) : Prop :=
 ∀ (pins : List (Addr × Obj)) (s : Shared) (σ : St) (H : Hp) (v : V) (u : Value) (Q : St -> Hp -> Prop), Inv X pins σ H s -> RelV v u -> t v σ H Q ->
  wpAny (model X.prog X.w) X.A (assign target X.env u) (fun _ s' => ∃ σ' H', Inv X pins σ' H' s' /\ Q σ' H') X.xe s
def PGs (X : Cx) (ts : List Expr) (t : TGs) : Prop :=
 ∀ (pins : List (Addr × Obj)) (s : Shared) (σ : St) (H : Hp) (vs : List V) (us : List Value) (Q : St -> Hp -> Prop), Inv X pins σ H s -> Vals vs us -> t vs σ H Q ->
  wpAny (model X.prog X.w) X.A (assignInOrder ((assignEach ts X.env).map (·.2)) us) (fun _ s' => ∃ σ' H', Inv X pins σ' H' s' /\ Q σ' H') X.xe s
abbrev akQ := V -> V -> V -> Hp -> (Hp -> Prop) -> Prop
def aiU (X : Cx) (t : akQ) : Prop :=
 ∀ (pins : List (Addr × Obj)) (s : Shared) (σ : St) (H : Hp) (o i v : V) (ov iv u : Value) (Q : Hp -> Prop), Inv X pins σ H s -> RelV o ov -> RelV i iv -> RelV v u -> t o i v H Q ->
  wpAny (model X.prog X.w) X.A (setItem ov iv u) (fun _ s' => ∃ H', Inv X pins σ H' s' /\ Q H') X.xe s
section
variable {X : Cx} {pos : Pos}
def jf (i : Nat) : TG := fun v σ H Q => Q (σ.set i (some v)) H
theorem zd {i : Nat} {x : Str} (hN : X.N.Nodup) (hi : X.N[i]? = some x) (hx : Loc X.env.scope x) (hf : X.fn x = true \/ X.env.scope.names.lookup x = some .local := by first | exact .inl rfl | exact .inr rfl | assumption) : PG X (.Name x pos) (jf i) := by
 intro pins s σ H v u Q I r h
 exact wpAny_assign_Name (je I hN hi hx r (fun s' I' => ⟨_, H, I', h⟩) hf)
def akR : TGs := fun vs σ H Q => vs = [] /\ Q σ H
def acL (t : TG) (u : TGs) : TGs := fun vs σ H Q => ∃ v r, vs = v :: r /\ t v σ H fun σ' H' => u r σ' H' Q
theorem zA : PGs X [] akR := by
 intro pins s σ H vs us Q I r h
 obtain ⟨e, h⟩ := h
 subst e
 cases r
 exact assignInOrder_nil ⟨σ, H, I, h⟩
theorem zf {e : Expr} {es : List Expr} {t : TG} {u : TGs} (h1 : PG X e t) (h2 : PGs X es u)
  (hs : (assignEach (e :: es) X.env).map (·.2) = assign e X.env :: (assignEach es X.env).map (·.2) := by rfl) : PGs X (e :: es) (acL t u) := by
 intro pins s σ H vs us Q I r h
 obtain ⟨v, vr, e1, h⟩ := h
 subst e1
 cases r with
 | cons r rr =>
  rw [hs]
  refine assignInOrder_cons (thn (h1 pins s σ H _ _ _ I r h) fun _ s1 ⟨σ1, H1, I1, q1⟩ => ?_)
  exact h2 pins s1 σ1 H1 _ _ Q I1 rr q1
def aiV (K : amR) (n : Nat) (t : TGs) : TG := fun v σ H Q => ∃ a xs, v = .ref a /\ SqT K H a xs /\ xs.length = n /\ t xs σ H Q
theorem akS {es : List Expr} {k : Nat} {t : TGs} {n : Nat} (hc : X.calm = true) (h : PGs X es t)
  (hn : (assignEach es X.env).length = n := by rfl) (hst : (assignEach es X.env).findIdx? (·.1) = none := by rfl) : PG X (.Tuple es k pos) (aiV X.K n t) := by
 intro pins s σ H v u Q I r hw
 obtain ⟨a, xs, e1, hq, hl, hw⟩ := hw
 subst e1
 cases r
 obtain ⟨its, rv, ht, hz⟩ := I.tuple hq
 refine assign_Tuple_tuple (I.ok.hd hc) ht (by simp [hn, <- hl, rv.length]) hst fun h' hx => ?_
 have I1 : Inv X pins σ H { s with heap := h' } := I.kept (t' := s.toks) fun b o e => hx b o (ano (amZ e)) e
 exact h pins _ σ H xs _ Q I1 (by simpa using rv) hw
def acM (to ti : TE) (t : akQ) : TG := fun v σ H Q => to σ H fun o H1 => ti σ H1 fun i H2 => t o i v H2 fun H3 => Q σ H3
theorem abT {o i : Expr} {to ti : TE} {t : akQ} (ho : PE X o to) (hi : PE X i ti) (hs : aiU X t)
  (ha : ∀ v, assign (.Subscript o i pos) X.env v = (do
   let ov <- holding [v] (eval o X.env)
   let iv <- holding [v, ov] (eval i X.env)
   standAt pos
   holding [v, ov, iv] (setItem ov iv v)
   release [v, ov, iv] []) := by intro _; rfl) : PG X (.Subscript o i pos) (acM to ti t) := by
 intro pins s σ H v u Q I r h
 rw [ha]
 refine wpAny_bind (wpAny_holding (thn (ho pins s σ H _ I h) fun ov s1 ⟨x, H1, I1, r1, q1⟩ => ?_))
 refine wpAny_bind (wpAny_holding (thn (hi pins s1 σ H1 _ I1 q1) fun iv s2 ⟨y, H2, I2, r2, q2⟩ => ?_))
 refine wpAny_bind (wpAny_standAt (wpAny_bind (wpAny_holding (thn (hs pins s2 σ H2 x y v ov iv u _ I2 r1 r2 r q2) fun _ s3 ⟨H3, I3, q3⟩ => ?_))))
 exact wpAny_release ⟨σ, H3, I3, q3⟩
def qJ (te : TE) (g : TG) : TS := fun D σ H => te σ H fun x H1 => g x σ H1 D.nx
theorem zT {tg e : Expr} {te : TE} {g : TG} (he : PE X e te) (hg : PG X tg g) (hs : swapsWithSole [tg] e pos.line X.env = pure false := by rfl) (hw : swappedStores [tg] e X.env = pure none := by rfl)
  (h1 : (assignEach [tg] X.env).map (·.2) = [assign tg X.env] := by rfl) : PS X (.Assign [tg] e pos) (qJ te g) := by
 intro pins s σ H D I h
 refine wpAny_Assign_stores (thn (he pins s σ H _ I h) fun v s1 ⟨x, H1, I1, r1, q1⟩ => ?_) hs hw
 rw [h1]
 exact thn (hg pins s1 σ H1 x v _ I1 r1 q1) fun _ s2 q => q
theorem zE {i : Nat} {x : Str} {e : Expr} {te : TE} {pos' : Pos} (hN : X.N.Nodup) (hi : X.N[i]? = some x) (hx : Loc X.env.scope x) (he : PE X e te) (hs : swapsWith e (some (.Name x pos')) pos.line X.env = pure false := by rfl) (hf : X.fn x = true \/ X.env.scope.names.lookup x = some .local := by first | exact .inl rfl | exact .inr rfl | assumption) :
  PS X (.Assign [.Name x pos'] e pos) (qJ te (jf i)) := by
 intro pins s σ H D I h
 refine wpAny_Assign_Name (thn (he pins s σ H _ I h) fun v s1 ⟨y, H1, I1, r1, q1⟩ => ?_) hs
 exact je I1 hN hi hx r1 (fun s2 I2 => ⟨_, H1, I2, q1⟩) hf
def al8 (i j : Nat) (ta : TA) : TS := fun D σ H => ta σ H fun vs H1 => ∃ v w, vs = [v, w] /\ D.nx ((σ.set i (some v)).set j (some w)) H1
theorem abU {i j : Nat} {x y : Str} {a b : Expr} {ta : TA} {px py pt : Pos} {kt k2 pt2} (hc : X.calm = true) (hN : X.N.Nodup) (hi : X.N[i]? = some x) (hj : X.N[j]? = some y) (hij : i ≠ j)
  (hx : X.env.scope.names.lookup x = some .local) (hy : X.env.scope.names.lookup y = some .local) (ha : PA X [a, b] ta)
  (hw : swappedStores [.Tuple [.Name x px, .Name y py] kt pt] (.Tuple [a, b] k2 pt2) X.env = pure (some [x, y]))
  (hs : swapsWithSole [.Tuple [.Name x px, .Name y py] kt pt] (.Tuple [a, b] k2 pt2) pos.line X.env = pure false := by rfl) :
  PS X (.Assign [.Tuple [.Name x px, .Name y py] kt pt] (.Tuple [a, b] k2 pt2) pos) (al8 i j ta) := by
 intro pins s σ H D I h
 rw [exec_Assign_arm]
 refine wpAny_bind (wpAny_standAt ?_)
 rw [hs]
 refine wpAny_bind (wpAny_pure ?_)
 rw [if_neg (by decide)]
 refine wpAny_bind (Tuple_ (thn (ha _ pins s σ H _ I h) fun us s1 ⟨vs, H1, I1, r1, q1⟩ => ?_))
 obtain ⟨v, w, e1, q1⟩ := q1
 subst e1
 obtain ⟨u1, u2, rfl, rv, rw'⟩ : ∃ u1 u2, us = [u1, u2] /\ RelV v u1 /\ RelV w u2 := by
  cases r1 with
  | cons p q =>
   cases q with
   | cons p' q' =>
    cases q'
    exact ⟨_, _, rfl, p, p'⟩
 refine wpAny_newObj_type ?_ (by show 2 <= sizeLine; decide)
 have I2 : Inv X pins σ H1 { s1 with heap := s1.heap.push { cls := .type "tuple", data := .seq [u1, u2].toArray } } := I1.kept (t' := s1.toks) fun b o e => amW _ e
 rw [hw]
 refine wpAny_bind (wpAny_pure ?_)
 show wpAny (model X.prog X.w) X.A (do rule "assign.swapped-stores"; let items <- unpackItems (.ref s1.heap.objs.size) 2 none; assignInOrder [fun v => bindName X.env y v, fun v => bindName X.env x v] items.reverse; pure Flow.next) _ _ _
 refine wpAny_bind (wpAny_rule (wpAny_bind (unpackItems_tuple (items := #[u1, u2]) (I.ok.hd hc) (IsTup.new s1.heap _) fun h' hx' => ?_)))
 have I3 := I2.kept (h' := h') (t' := s1.toks) fun b o e => hx' b o (ano (amZ e)) e
 show wpAny _ _ (assignInOrder [fun v => bindName X.env y v, fun v => bindName X.env x v] [u2, u1] >>= fun _ => pure Flow.next) _ _ _
 refine wpAny_bind (assignInOrder_cons (wpAny_bindName (je I3 hN hj (.inl hy) rw' (fun s2 I4 => ?_) (.inr hy))))
 refine assignInOrder_cons (wpAny_bindName (je I4 hN hi (.inl hx) rv (fun s3 I5 => assignInOrder_nil (wpAny_pure ?_)) (.inr hx)))
 rw [List.set_comm _ _ (anU hij)] at I5
 exact ⟨_, H1, I5, q1⟩
end
section
variable {X : Cx} {pos : Pos}
def adS (c : TT) (tb : TS) : TS := fun D σ H => ∃ W : Nat -> St -> Hp -> Prop, (∃ m, W m σ H) /\ ∀ m σ H, W m σ H ->
 c σ H fun b H1 => if b = true then ∃ N : St -> Hp -> Prop, (∀ σ' H', N σ' H' -> ∃ m', m' < m /\ W m' σ' H') /\ tb { D with nx := N, ct := N, bk := D.nx } σ H1 else D.nx σ H1
theorem aat {c : Expr} {body : List Stmt} {tc : TT} {tb : TS} (hp : PassesOwn (model X.prog X.w) X.A X.env X.xe) (hc : PT X c tc) (hb : PSs X body tb) : PS X (.While c body [] pos) (adS tc tb) := by
 intro pins s σ H D I h
 obtain ⟨W, ⟨m0, w0⟩, turn⟩ := h
 refine wpAny_While (codeAny_whileLoop (fun n s' => ∃ σ' H', Inv X pins σ' H' s' /\ W n σ' H') ?_ m0 ⟨σ, H, I, w0⟩)
 rintro n s1 ⟨σ1, H1, I1, w1⟩
 refine wpAny_passesOwn hp (thn (hc pins s1 σ1 H1 _ I1 (turn n σ1 H1 w1)) fun b s2 ⟨H2, I2, q2⟩ => ?_)
 cases b with
 | true =>
  obtain ⟨N, hN, q2⟩ := q2
  rw [if_pos rfl]
  refine wpAny_passesOwn hp (thn (hb pins s2 σ1 H2 _ I2 q2) fun f s3 q3 => ?_)
  cases f with
  | next =>
   obtain ⟨σ3, H3, I3, n3⟩ := q3
   obtain ⟨m', hm, w3⟩ := hN σ3 H3 n3
   exact ⟨m', hm, σ3, H3, I3, w3⟩
  | cont =>
   obtain ⟨σ3, H3, I3, n3⟩ := q3
   obtain ⟨m', hm, w3⟩ := hN σ3 H3 n3
   exact ⟨m', hm, σ3, H3, I3, w3⟩
  | brk => exact q3
  | ret v => exact q3
 | false =>
  rw [if_neg amQ]
  exact wpAny_execs_nil ⟨σ1, H2, I2, q2⟩
end
structure It where
 go : Nat -> Hp -> Prop
 yld : Nat -> Hp -> V -> Hp -> Prop
 stop : Nat -> Hp -> Prop
def va (X : Cx) (pins : List (Addr × Obj)) (H : Hp) (b : Addr) : Prop :=
 H b = none /\ b ≠ X.env.locals /\ b ∉ X.fs /\ (b ∈ X.ex \/ X.s₀.heap.objs.size <= b) /\ (∀ x c, X.env.cells.lookup x = some c -> c ≠ b) /\ ∀ p ∈ X.pn ++ pins, p.1 ≠ b
theorem Inv.fpOk {X : Cx} {pins : List (Addr × Obj)} {σ : St} {H H' : Hp} {s : Shared} {b : Addr} (I : Inv X pins σ H s) (hb : s.heap.objs.size <= b) (hn : H' b = none) : va X pins H' b := by
 refine ⟨hn, aoW (ane I.lt hb), I.nofs hb, .inr (ank I.sz hb), fun x c e z => ?_, fun p hp z => ?_⟩
 ·obtain ⟨v, q⟩ := I.cell x c e
  exact absurd (ane q.lt (by rw [z]; exact hb)) (aoi _)
 ·exact absurd (ane (amZ (I.pin p hp).1) (by rw [z]; exact hb)) (aoi _)
structure Turn (P : Program) (w : World) (K : amR) (tg : Expr) (J : It) (fp : List Addr) (it : Addr) (tn : Nat -> Heap -> Prop) : Prop where
 mem : it ∈ fp
 obj : ∀ i h, tn i h -> ∀ b ∈ fp, ∃ o, h.get? b = some o /\ ∀ v, o.data ≠ .cell v
 keep : ∀ i h h', tn i h -> (∀ b ∈ fp, ∀ o, h.get? b = some o -> h'.get? b = some o) -> tn i h'
 item : ∀ (X : Cx), X.prog = P -> X.w = w -> X.K = K -> X.calm = true -> ∀ (i : Nat) (pins : List (Addr × Obj)) (s : Shared) (σ : St) (H : Hp) (E : Value -> Shared -> Prop), Inv X pins σ H s -> (∀ b ∈ fp, va X pins H b) -> tn i s.heap -> J.go i H ->
  wpAny (model P w) X.A (pyNext (.ref it)) (fun r s1 => ∃ u, r = some u /\
   wpAny (model P w) X.A (letOwnedTupleGo tg (.ref it) u) (fun _ s2 => ∃ x H', Inv X pins σ H' s2 /\ RelV x u /\ J.yld i H x H' /\ tn (i + 1) s2.heap /\ ∀ b ∈ fp, H' b = none) E s1) E s
 done : ∀ (X : Cx), X.prog = P -> X.w = w -> X.K = K -> X.calm = true -> ∀ (i : Nat) (pins : List (Addr × Obj)) (s : Shared) (σ : St) (H : Hp) (E : Value -> Shared -> Prop), Inv X pins σ H s -> (∀ b ∈ fp, va X pins H b) -> tn i s.heap -> J.stop i H ->
  wpAny (model P w) X.A (pyNext (.ref it)) (fun r s1 => r = none /\ Inv X pins σ H s1) E s
 self : ∀ (A : Around) (i : Nat) (s : Shared) (Q : Value -> Shared -> Prop) (E : Value -> Shared -> Prop), tn i s.heap -> Q (.ref it) s -> wpAny (model P w) A (pyIter (.ref it)) Q E s
abbrev TI := St -> Hp -> (It -> Hp -> Prop) -> Prop
def PIE (X : Cx) (pins : List (Addr × Obj)) (σ : St) (tg : Expr) (R : It -> Hp -> Prop) (itv : Value) (s2 : Shared) : Prop :=
 ∃ (it : Addr) (fp : List Addr) (tn : Nat -> Heap -> Prop) (J : It) (H' : Hp), itv = .ref it /\ Inv X pins σ H' s2 /\ Turn X.prog X.w X.K tg J fp it tn /\ tn 0 s2.heap /\ (∀ b ∈ fp, va X pins H' b) /\ R J H'
def PI (X : Cx) (tg iter : Expr) (wi : TI) : Prop :=
 ∀ (pins : List (Addr × Obj)) (s : Shared) (σ : St) (H : Hp) (R : It -> Hp -> Prop), Inv X pins σ H s -> wi σ H R ->
  wpAny (model X.prog X.w) X.A (eval iter X.env) (fun v s1 => wpAny (model X.prog X.w) X.A (pyIter v) (PIE X pins σ tg R) X.xe s1) X.xe s
theorem agU {M : Model} {A : Around} {E : Value -> Shared -> Prop} {s : Shared} {tg : Expr} {it : Addr} {u : Value} {o : Obj} {n : String} {vs : Array Value} {Q : Unit -> Shared -> Prop} (ho : s.heap.get? it = some o) (hc : o.cls = .type n) (hd : o.data = .fields vs)
  (hn : ["enumerate", "zip", "dict_itemiterator", "dict_reverseitemiterator", "odict_iterator", "itertools.zip_longest", "itertools.pairwise"].contains n = false) (hQ : Q () s) : wpAny M A (letOwnedTupleGo tg (.ref it) u) Q E s := by
 unfold letOwnedTupleGo
 cases tg <;> first
  | exact wpAny_pure hQ
  | (cases u <;> first
    | exact wpAny_pure hQ
    | (refine wpAny_bind (wpAny_load ho ?_)
       rw [hc, hd]
       show wpAny M A (if (["enumerate", "zip", "dict_itemiterator", "dict_reverseitemiterator", "odict_iterator", "itertools.zip_longest", "itertools.pairwise"].contains n && vs[0]? == some (rawInt _)) = true then _ else _) Q E s
       rw [if_neg (by intro h; rw [hn, aoS] at h; cases h)]
       exact wpAny_pure hQ))
def Itl (K : amR) (a : Addr) : It :=
 ⟨fun i H => ∃ xs x, SqL K H a xs /\ xs[i]? = some x, fun i H x H' => H' = H /\ ∀ xs, SqL K H a xs -> xs[i]? = some x, fun i H => ∃ xs, SqL K H a xs /\ xs.length <= i⟩
def Itt (K : amR) (a : Addr) : It :=
 ⟨fun i H => ∃ xs x, SqT K H a xs /\ xs[i]? = some x, fun i H x H' => H' = H /\ ∀ xs, SqT K H a xs -> xs[i]? = some x, fun i H => ∃ xs, SqT K H a xs /\ xs.length <= i⟩
def Itr (lo : Int) (n : Nat) : It := ⟨fun i _ => i < n, fun i H x H' => H' = H /\ x = .int (lo + i), fun i _ => n <= i⟩
theorem afY {P : Program} {w : World} {K : amR} {tg : Expr} (a it : Addr) : Turn P w K tg (Itl K a) [it] it (fun i h => h.IsListIter it a i) where
 mem := by simp
 obj := fun i h st b hb => by
  have e : b = it := by simpa using hb
  subst e
  obtain ⟨o, e, c, d⟩ := st
  exact ⟨o, e, fun v z => by rw [d] at z; cases z⟩
 keep := fun i h h' st k => st.at fun o e => k it (by simp) o e
 item := by
  intro X hP hw hK hc i pins s σ H E I hf st hg
  subst hP hw hK
  obtain ⟨xs, x, hq, hx⟩ := hg
  obtain ⟨its, rv, p, hz⟩ := I.list hq
  obtain ⟨u, hu, ru⟩ := rv.get hx
  obtain ⟨f0, f1, f2, f3, f4, f5⟩ := hf it (by simp)
  refine wpAny_pyNext_list_item st p.isList (x := u) (by simpa using hu) fun h' st' sb => ?_
  have I1 : Inv X pins σ H { s with heap := h' } := I.turned (t' := s.toks) (fun b o hb e => (sb.2 b hb).trans e) f0 f1 f3 f4 f5
  obtain ⟨o, e, c, d⟩ := id st'
  exact ⟨u, rfl, agU (s := { s with heap := h' }) e c d (by decide) ⟨x, H, I1, ru, ⟨rfl, fun ys hy => by rw [I.list_inj hy hq]; exact hx⟩, st', fun b hb => (hf b hb).1⟩⟩
 done := by
  intro X hP hw hK hc i pins s σ H E I hf st hg
  subst hP hw hK
  obtain ⟨xs, hq, hx⟩ := hg
  obtain ⟨its, rv, p, hz⟩ := I.list hq
  obtain ⟨f0, f1, f2, f3, f4, f5⟩ := hf it (by simp)
  have hl := rv.length
  exact wpAny_pyNext_list_end (I.ok.hd hc) st p.isList (by simp; omega) fun h' eb => ⟨rfl, I.turned (t' := s.toks) (fun b o hb e => eb b o hb e) f0 f1 f3 f4 f5⟩
 self := fun _ _ _ _ _ st h => wpAny_pyIter_listiter st h
theorem adT {P : Program} {w : World} {K : amR} {tg : Expr} (a it : Addr) : Turn P w K tg (Itt K a) [it] it (fun i h => h.IsTupleIter it a i) where
 mem := by simp
 obj := fun i h st b hb => by
  have e : b = it := by simpa using hb
  subst e
  obtain ⟨o, e, c, d⟩ := st
  exact ⟨o, e, fun v z => by rw [d] at z; cases z⟩
 keep := fun i h h' st k => st.at fun o e => k it (by simp) o e
 item := by
  intro X hP hw hK hc i pins s σ H E I hf st hg
  subst hP hw hK
  obtain ⟨xs, x, hq, hx⟩ := hg
  obtain ⟨its, rv, p, hz⟩ := I.tuple hq
  obtain ⟨u, hu, ru⟩ := rv.get hx
  obtain ⟨f0, f1, f2, f3, f4, f5⟩ := hf it (by simp)
  refine wpAny_pyNext_tuple_item st (show s.heap.IsTuple a its.toArray from p) (x := u) (by simpa using hu) fun h' st' sb => ?_
  have I1 : Inv X pins σ H { s with heap := h' } := I.turned (t' := s.toks) (fun b o hb e => (sb.2 b hb).trans e) f0 f1 f3 f4 f5
  obtain ⟨o, e, c, d⟩ := id st'
  exact ⟨u, rfl, agU (s := { s with heap := h' }) e c d (by decide) ⟨x, H, I1, ru, ⟨rfl, fun ys hy => by rw [I.tuple_inj hy hq]; exact hx⟩, st', fun b hb => (hf b hb).1⟩⟩
 done := by
  intro X hP hw hK hc i pins s σ H E I hf st hg
  subst hP hw hK
  obtain ⟨xs, hq, hx⟩ := hg
  obtain ⟨its, rv, p, hz⟩ := I.tuple hq
  obtain ⟨f0, f1, f2, f3, f4, f5⟩ := hf it (by simp)
  have hl := rv.length
  exact wpAny_pyNext_tuple_end (I.ok.hd hc) st (show s.heap.IsTuple a its.toArray from p) (by simp; omega) fun h' eb => ⟨rfl, I.turned (t' := s.toks) (fun b o hb e => eb b o hb e) f0 f1 f3 f4 f5⟩
 self := fun _ _ _ _ _ st h => wpAny_pyIter_tupleiter st h
theorem adU {P : Program} {w : World} {K : amR} {tg : Expr} (it : Addr) (lo : Int) (n : Nat) : Turn P w K tg (Itr lo n) [it] it (fun i h => IsRangeIter h it (lo + (i : Nat) * 1) ((n : Int) - (i : Nat)) 1) where
 mem := by simp
 obj := fun i h st b hb => by
  have e : b = it := by simpa using hb
  subst e
  exact ⟨_, st, fun v z => by
   have z' : Data.fields _ = Data.cell v := z
   cases z'⟩
 keep := fun i h h' st k => k it (by simp) _ st
 item := by
  intro X hP hw hK hc i pins s σ H E I hf st hg
  subst hP hw hK
  obtain ⟨f0, f1, f2, f3, f4, f5⟩ := hf it (by simp)
  have W := Walks.range (prog := X.prog) (w := X.w) (I.ok.hd hc) it lo 1 n
  refine W.item i s _ _ hg st fun v h' tk hv st' kk => ?_
  obtain ⟨t, rfl⟩ := hv
  have I1 : Inv X pins σ H { s with heap := h', toks := tk } := I.turned (fun b o hb e => kk b o (by simpa using hb) e) f0 f1 f3 f4 f5
  refine ⟨_, rfl, agU (s := { s with heap := h', toks := tk }) (n := "range_iterator") st' rfl rfl (by decide) ⟨.int (lo + i), H, I1, ⟨t, ?_⟩, ⟨rfl, rfl⟩, st', fun b hb => (hf b hb).1⟩⟩
  rw [Int.mul_one]
 done := by
  intro X hP hw hK hc i pins s σ H E I hf st hg
  subst hP hw hK
  obtain ⟨f0, f1, f2, f3, f4, f5⟩ := hf it (by simp)
  exact wpAny_pyNext_range_end (I.ok.hd hc) st (by have : n <= i := hg; omega) fun h' eb => ⟨rfl, I.turned (t' := s.toks) (fun b o hb e => eb b o hb e) f0 f1 f3 f4 f5⟩
 self := fun _ _ _ _ _ st h => wpAny_pyIter_rangeiter st h
end L2
namespace L2
open PySem PySem.Spec PyProof.Rows
section
variable {X : Cx} {tg : Expr}
def aeI (K : amR) (tl : TE) : TI := fun σ H R => tl σ H fun x H1 => ∃ a, x = .ref a /\ (∃ xs, SqL K H1 a xs) /\ R (Itl K a) H1
def akT (K : amR) (tl : TE) : TI := fun σ H R => tl σ H fun x H1 => ∃ a, x = .ref a /\ (∃ xs, SqT K H1 a xs) /\ R (Itt K a) H1
theorem aiW {l : Expr} {tl : TE} (hl : PE X l tl) : PI X tg l (aeI X.K tl) := by
 intro pins s σ H R I h
 refine thn (hl pins s σ H _ I h) fun v s1 ⟨x, H1, I1, r1, q1⟩ => ?_
 obtain ⟨a, e, ⟨xs, hq⟩, q⟩ := q1
 subst e
 cases r1
 obtain ⟨its, rv, p, hz⟩ := I1.list hq
 refine wpAny_pyIter_list p.isList ?_
 refine ⟨s1.heap.objs.size, [s1.heap.objs.size], _, _, H1, rfl, I1.kept (t' := s1.toks) fun b o e => amW _ e, afY a _, ⟨_, anr _ rfl, rfl, rfl⟩, fun b hb => ?_, q⟩
 have e : b = s1.heap.objs.size := by simpa using hb
 subst e
 exact I1.fpOk (amV _) (I1.hok.fresh (amV _))
theorem akU {l : Expr} {tl : TE} (hl : PE X l tl) : PI X tg l (akT X.K tl) := by
 intro pins s σ H R I h
 refine thn (hl pins s σ H _ I h) fun v s1 ⟨x, H1, I1, r1, q1⟩ => ?_
 obtain ⟨a, e, ⟨xs, hq⟩, q⟩ := q1
 subst e
 cases r1
 obtain ⟨its, rv, p, hz⟩ := I1.tuple hq
 refine wpAny_pyIter_tuple (show s1.heap.IsTuple a its.toArray from p) ?_
 refine ⟨s1.heap.objs.size, [s1.heap.objs.size], _, _, H1, rfl, I1.kept (t' := s1.toks) fun b o e => amW _ e, adT a _, ⟨_, anr _ rfl, rfl, rfl⟩, fun b hb => ?_, q⟩
 have e : b = s1.heap.objs.size := by simpa using hb
 subst e
 exact I1.fpOk (amV _) (I1.hok.fresh (amV _))
theorem agV {pins : List (Addr × Obj)} {σ : St} {H : Hp} {s : Shared} {R : It -> Hp -> Prop} {E : Value -> Shared -> Prop} {lo hi : Int} {t u v : Tok} {tk : Nat} (I : Inv X pins σ H s) (h1 : -(2 ^ 62) <= lo) (h2 : lo < 2 ^ 62) (h3 : -(2 ^ 62) <= hi) (h4 : hi < 2 ^ 62)
  (q : R (Itr lo (hi - lo).toNat) H) : wpAny (model X.prog X.w) X.A (pyIter (.ref s.heap.objs.size)) (PIE X pins σ tg R) E { s with heap := s.heap.push { cls := .type "range", data := .fields #[.int lo t, .int hi u, .int 1 v] }, toks := tk } := by
 refine wpAny_pyIter_range (IsRange.new ..) (small_one h1 h2 h3 h4) ?_
 have I1 : Inv X pins σ H { s with heap := s.heap.push { cls := .type "range", data := .fields #[.int lo t, .int hi u, .int 1 v] }, toks := tk } := I.kept fun b o e => amW _ e
 refine ⟨(s.heap.push { cls := .type "range", data := .fields #[.int lo t, .int hi u, .int 1 v] }).objs.size, [(s.heap.push { cls := .type "range", data := .fields #[.int lo t, .int hi u, .int 1 v] }).objs.size], _, _, H, rfl,
  I1.kept (t' := tk) fun b o e => amW _ e, adU _ lo (hi - lo).toNat, ?_, fun b hb => ?_, q⟩
 ·have e1 : lo + ((0 : Nat) : Int) * 1 = lo := by simp
  have e2 : (((hi - lo).toNat : Nat) : Int) - ((0 : Nat) : Int) = Builtin.Range.rangeSize lo hi 1 := by rw [rangeSize_one]; split <;> omega
  show IsRangeIter _ _ (lo + ((0 : Nat) : Int) * 1) ((((hi - lo).toNat : Nat) : Int) - ((0 : Nat) : Int)) 1
  rw [e1, e2]
  exact anr _ rfl
 ·have e : b = (s.heap.push { cls := .type "range", data := .fields #[.int lo t, .int hi u, .int 1 v] }).objs.size := by simpa using hb
  subst e
  exact I1.fpOk (amV _) (I1.hok.fresh (amV _))
def aeJ (ta : TA) : TI := fun σ H R => ta σ H fun vs H1 => ∃ j : Int, vs = [.int j] /\ -(2 ^ 62) <= j /\ j < 2 ^ 62 /\ R (Itr 0 j.toNat) H1
theorem yL {a : Expr} {ta : TA} {p pos : Pos} (hg : Gl X "range") (hm : X.mg "range" = none) (ha : PA X [a] ta) (hs : starEach [a] X.env = [(false, eval a X.env)] := by rfl) : PI X tg (.Call (.Name "range" p) [a] [] pos) (aeJ ta) := by
 intro pins s σ H R I h
 refine Call_ (qR I hg hm boot_range (aos (thn (ha pos pins s σ H _ I h) fun us s1 ⟨vs, H1, I1, r1, q1⟩ => ?_) hs rfl))
 obtain ⟨j, e, q1, q2, q⟩ := q1
 subst e
 cases r1 with
 | cons r rr =>
  cases rr
  obtain ⟨t, rfl⟩ := r
  exact call_range_1 (agV I1 (by omega) (by omega) q1 q2 (by simpa using q))
def aiX (wi : TI) (g : TG) (tb : TS) : TS := fun D σ H => wi σ H fun J H1 => ∃ W : Nat -> Nat -> St -> Hp -> Prop, (∃ m, W 0 m σ H1) /\ ∀ i m σ H, W i m σ H ->
 (J.stop i H /\ D.nx σ H) \/ (J.go i H /\ ∃ N : St -> Hp -> Prop, (∀ σ' H', N σ' H' -> ∃ m', m' < m /\ W (i + 1) m' σ' H') /\ ∀ x H', J.yld i H x H' -> g x σ H' fun σ2 H2 => tb { D with nx := N, ct := N, bk := D.nx } σ2 H2)
def aau (fp : List Addr) (h : Heap) : List (Addr × Obj) := fp.filterMap fun b => (h.get? b).map fun o => (b, o)
theorem jR {fp : List Addr} {h : Heap} {b : Addr} {o : Obj} (hb : b ∈ fp) (e : h.get? b = some o) : (b, o) ∈ aau fp h := apa.mpr ⟨b, hb, by rw [e]; rfl⟩
theorem afZ {fp : List Addr} {h : Heap} {p : Addr × Obj} (hp : p ∈ aau fp h) : p.1 ∈ fp /\ h.get? p.1 = some p.2 := by
 obtain ⟨b, hb, e⟩ := apa.mp hp
 cases q : h.get? b with
 | none => rw [q] at e; cases e
 | some o =>
  rw [q] at e
  have e' : (b, o) = p := Option.some.inj e
  subst e'
  exact ⟨hb, q⟩
theorem Inv.pinned {pins : List (Addr × Obj)} {σ : St} {H : Hp} {s : Shared} {fp : List Addr} (I : Inv X pins σ H s) (hf : ∀ b ∈ fp, va X pins H b) (ho : ∀ b ∈ fp, ∃ o, s.heap.get? b = some o /\ ∀ v, o.data ≠ .cell v) : Inv X (pins ++ aau fp s.heap) σ H s :=
 I.pins_of fun p hp => (anF.mp hp).elim (fun z => I.pin p (anc _ z)) fun z => by
  obtain ⟨hb, e⟩ := afZ z
  obtain ⟨f0, f1, f2, _⟩ := hf p.1 hb
  obtain ⟨o, e', d⟩ := ho p.1 hb
  rw [e] at e'; cases e'
  exact ⟨e, f0, f1, f2, d⟩
theorem Inv.unpinned {pins pl : List (Addr × Obj)} {σ : St} {H : Hp} {s : Shared} (I : Inv X (pins ++ pl) σ H s) : Inv X pins σ H s := I.pins_of fun p hp => I.pin p (anc _ (anQ _ hp))
theorem jS {iter : Expr} {body : List Stmt} {wi : TI} {g : TG} {tb : TS} {pos : Pos} (hp : PassesOwn (model X.prog X.w) X.A X.env X.xe) (hc : X.calm = true) (hi : PI X tg iter wi) (hg : PG X tg g) (hb : PSs X body tb)
  (hs : ∀ x, foldedSetIterable iter X.env x = pure x := by intro _; rfl) : PS X (.For tg iter body [] pos) (aiX wi g tb) := by
 intro pins s σ H D I h
 refine wpAny_For (thn (hi pins s σ H _ I h) fun v s1 h1 => thn h1 fun itv s2 h2 => ?_) hs
 obtain ⟨it, fp, tn, J, H2, e, I2, T, st2, f2, W, ⟨m0, w0⟩, turn⟩ := h2
 subst e
 -- what stays true of the iterator's objects through the loop
 have stat : ∀ {H' : Hp}, (∀ b ∈ fp, H' b = none) -> ∀ b ∈ fp, va X pins H' b := fun hn b hb => ⟨hn b hb, (f2 b hb).2⟩
 refine codeAny_forLoop_any (fun n s' => ∃ i σ' H', Inv X pins σ' H' s' /\ tn i s'.heap /\ (∀ b ∈ fp, H' b = none) /\ W i n σ' H') ?_ m0 ⟨0, σ, H2, I2, st2, fun b hb => (f2 b hb).1, w0⟩
 rintro n s3 ⟨i, σ3, H3, I3, st3, fr3, w3⟩
 rcases turn i n σ3 H3 w3 with ⟨stop, qn⟩ | ⟨go, N, hN, step⟩
 ·refine wpAny_passesOwn hp (thn (T.done X rfl rfl rfl hc i pins s3 σ3 H3 X.xe I3 (stat fr3) st3 stop) fun r s4 ⟨hr, I4⟩ => ?_)
  subst hr
  exact wpAny_execs_nil ⟨σ3, H3, I4, qn⟩
 ·refine wpAny_passesOwn hp (thn (T.item X rfl rfl rfl hc i pins s3 σ3 H3 X.xe I3 (stat fr3) st3 go) fun r s4 ⟨u, hr, h4⟩ => ?_)
  subst hr
  refine wpAny_passesOwn hp (thn h4 fun _ s5 ⟨x, H5, I5, r5, y5, st5, fr5⟩ => ?_)
  have I5' := I5.pinned (stat fr5) (T.obj _ _ st5)
  refine wpAny_passesOwn hp (thn (hg _ s5 σ3 H5 x u _ I5' r5 (step x H5 y5)) fun _ s6 ⟨σ6, H6, I6, q6⟩ => ?_)
  refine wpAny_passesOwn hp (thn (hb _ s6 σ6 H6 _ I6 q6) fun f s7 q7 => ?_)
  have again : ∀ {σ7 : St} {H7 : Hp}, Inv X (pins ++ aau fp s5.heap) σ7 H7 s7 -> N σ7 H7 -> ∃ m, m < n /\ ∃ i σ' H', Inv X pins σ' H' s7 /\ tn i s7.heap /\ (∀ b ∈ fp, H' b = none) /\ W i m σ' H' := fun {σ7 H7} I7 n7 => by
   obtain ⟨m', hm, w7⟩ := hN σ7 H7 n7
   refine ⟨m', hm, i + 1, σ7, H7, I7.unpinned, T.keep _ _ _ st5 fun b hb o e => (I7.pin (b, o) (anc _ (anc _ (jR hb e)))).1, fun b hb => ?_, w7⟩
   obtain ⟨o, e, d⟩ := T.obj _ _ st5 b hb
   exact (I7.pin (b, o) (anc _ (anc _ (jR hb e)))).2.1
  cases f with
  | next => obtain ⟨σ7, H7, I7, n7⟩ := q7; exact again I7 n7
  | cont => obtain ⟨σ7, H7, I7, n7⟩ := q7; exact again I7 n7
  | brk => obtain ⟨σ7, H7, I7, q7⟩ := q7; exact ⟨σ7, H7, I7.unpinned, q7⟩
  | ret v => obtain ⟨x7, σ7, H7, I7, r7, q7⟩ := q7; exact ⟨x7, σ7, H7, I7.unpinned, r7, q7⟩
end
end L2
namespace L2
open PySem PySem.Spec PyProof.Rows
abbrev R2 := V -> V -> Hp -> VK -> Prop
def OpR (X : Cx) (f : Value -> Value -> Sem Value) (r : R2) : Prop :=
 ∀ (pins : List (Addr × Obj)) (s : Shared) (σ : St) (H : Hp) (x y : V) (v u : Value) (Q : VK), Inv X pins σ H s -> RelV x v -> RelV y u -> r x y H Q ->
  wpAny (model X.prog X.w) X.A (f v u) (EP X pins σ Q) X.xe s
def UnR (X : Cx) (f : Value -> Sem Value) (r : V -> Hp -> VK -> Prop) : Prop :=
 ∀ (pins : List (Addr × Obj)) (s : Shared) (σ : St) (H : Hp) (x : V) (v : Value) (Q : VK), Inv X pins σ H s -> RelV x v -> r x H Q ->
  wpAny (model X.prog X.w) X.A (f v) (EP X pins σ Q) X.xe s
def yk (X : Cx) (f : Value) (r : List V -> Hp -> VK -> Prop) : Prop :=
 ∀ (pins : List (Addr × Obj)) (s : Shared) (σ : St) (H : Hp) (xs : List V) (us : List Value) (Q : VK), Inv X pins σ H s -> Vals xs us -> r xs H Q ->
  wpAny (model X.prog X.w) X.A (call f us) (EP X pins σ Q) X.xe s
def amH (X : Cx) (r : V -> Hp -> (Bool -> Hp -> Prop) -> Prop) : Prop :=
 ∀ (pins : List (Addr × Obj)) (s : Shared) (σ : St) (H : Hp) (x : V) (v : Value) (Q : Bool -> Hp -> Prop), Inv X pins σ H s -> RelV x v -> r x H Q ->
  wpAny (model X.prog X.w) X.A (truthy v) (TP X pins σ Q) X.xe s
def tOp (r : R2) (ta tb : TE) : TE := fun σ H Q => ta σ H fun x H1 => tb σ H1 fun y H2 => r x y H2 Q
def tUn (r : V -> Hp -> VK -> Prop) (ta : TE) : TE := fun σ H Q => ta σ H fun x H1 => r x H1 Q
def rI (C : Int -> Int -> Prop) (g : Int -> Int -> V) : R2 := fun x y H Q => ∃ i j, x = .int i /\ y = .int j /\ C i j /\ Q (g i j) H
def rI0 (g : Int -> Int -> V) : R2 := fun x y H Q => ∃ i j, x = .int i /\ y = .int j /\ Q (g i j) H
def rU (g : Int -> V) : V -> Hp -> VK -> Prop := fun x H Q => ∃ i, x = .int i /\ Q (g i) H
section
variable {X : Cx} {a b c : Expr} {ta tb tc : TE} {pos : Pos}
theorem akV (ha : PE X a ta) (hb : PE X b tb) {pins : List (Addr × Obj)} {s : Shared} {σ : St} {H : Hp} {R : V -> V -> Hp -> Prop} (I : Inv X pins σ H s)
  (h : ta σ H fun x H1 => tb σ H1 fun y H2 => R x y H2) {Q : Value -> Shared -> Prop} {f : Value -> Value -> Sem Value}
  (hf : ∀ v u s2 x y H2, Inv X pins σ H2 s2 -> RelV x v -> RelV y u -> R x y H2 -> wpAny (model X.prog X.w) X.A (f v u) Q X.xe s2) :
  wpAny (model X.prog X.w) X.A (eval a X.env) (fun v s₁ => wpAny (model X.prog X.w) X.A (eval b X.env) (fun u s₂ => wpAny (model X.prog X.w) X.A (f v u) Q X.xe s₂) X.xe s₁) X.xe s := by
 refine thn (ha pins s σ H _ I h) fun v s1 ⟨x, H1, I1, r1, q1⟩ => ?_
 refine thn (hb pins s1 σ H1 _ I1 q1) fun u s2 ⟨y, H2, I2, r2, q2⟩ => ?_
 exact hf v u s2 x y H2 I2 r1 r2 q2
theorem zq {op : Operator} {r : R2} (ho : OpR X (binaryOp op) r) (ha : PE X a ta) (hb : PE X b tb) : PE X (.BinOp a op b pos) (tOp r ta tb) := by
 intro pins s σ H Q I h
 exact wpAny_BinOp (akV ha hb I h fun v u s2 x y H2 I2 rx ry q => ho pins s2 σ H2 x y v u Q I2 rx ry q)
theorem al9 {op : UnaryOp} {r : V -> Hp -> VK -> Prop} (ho : UnR X (unaryOp op) r) (ha : PE X a ta) : PE X (.UnaryOp op a pos) (tUn r ta) := by
 intro pins s σ H Q I h
 exact UnaryOp_ (thn (ha pins s σ H _ I h) fun v s1 ⟨x, H1, I1, r1, q1⟩ => ho pins s1 σ H1 x v Q I1 r1 q1)
theorem opI {f : Value -> Value -> Sem Value} {C : Int -> Int -> Prop} {g : Int -> Int -> Int}
  (rule : ∀ (i j : Int) (t u : Tok) (s : Shared) (Q : Value -> Shared -> Prop) (E : Value -> Shared -> Prop), C i j -> Q (.int (g i j) s.toks) { s with toks := s.toks + 1 } -> wpAny (model X.prog X.w) X.A (f (.int i t) (.int j u)) Q E s) :
  OpR X f (rI C fun i j => .int (g i j)) := by
 intro pins s σ H x y v u Q I rx ry h
 obtain ⟨i, j, rfl, rfl, hc, q⟩ := h
 obtain ⟨t, rfl⟩ := rx
 obtain ⟨t', rfl⟩ := ry
 exact rule i j t t' s _ _ hc ⟨.int (g i j), H, I.tok _, ⟨_, rfl⟩, q⟩
theorem ama {f : Value -> Value -> Sem Value} {g : Int -> Int -> Int}
  (rule : ∀ (i j : Int) (t u : Tok) (s : Shared) (Q : Value -> Shared -> Prop) (E : Value -> Shared -> Prop), Q (.int (g i j) s.toks) { s with toks := s.toks + 1 } -> wpAny (model X.prog X.w) X.A (f (.int i t) (.int j u)) Q E s) :
  OpR X f (rI0 fun i j => .int (g i j)) := by
 intro pins s σ H x y v u Q I rx ry h
 obtain ⟨i, j, rfl, rfl, q⟩ := h
 obtain ⟨t, rfl⟩ := rx
 obtain ⟨t', rfl⟩ := ry
 exact rule i j t t' s _ _ ⟨.int (g i j), H, I.tok _, ⟨_, rfl⟩, q⟩
theorem aiY {f : Value -> Value -> Sem Value} {g : Int -> Int -> Bool}
  (rule : ∀ (i j : Int) (t u : Tok) (s : Shared) (Q : Value -> Shared -> Prop) (E : Value -> Shared -> Prop), Q (.bool (g i j)) s -> wpAny (model X.prog X.w) X.A (f (.int i t) (.int j u)) Q E s) :
  OpR X f (rI0 fun i j => .bl (g i j)) := by
 intro pins s σ H x y v u Q I rx ry h
 obtain ⟨i, j, rfl, rfl, q⟩ := h
 obtain ⟨t, rfl⟩ := rx
 obtain ⟨t', rfl⟩ := ry
 exact rule i j t t' s _ _ ⟨.bl (g i j), H, I, rfl, q⟩
def amI (i j : Int) : Prop := 0 <= j /\ j <= 1000000 /\ i.natAbs < 2 ^ 64
def CMul (i j : Int) : Prop := (-(2 ^ 64) < i /\ i < 2 ^ 64) \/ (-(2 ^ 64) < j /\ j < 2 ^ 64)
theorem CMul.ok {i j : Int} (h : CMul i j) : IntMulOk i j := by
 rcases h with ⟨h1, h2⟩ | ⟨h1, h2⟩
 ·exact .of_left (intBits_le_64 h1 h2)
 ·exact .of_right (intBits_le_64 h1 h2)
theorem zQ : OpR X (binaryOp .Add) (rI0 fun i j => .int (i + j)) := ama fun _ _ _ _ _ _ _ q => add_int q
theorem jC : OpR X (binaryOp .Sub) (rI0 fun i j => .int (i - j)) := ama fun _ _ _ _ _ _ _ q => sub_int q
theorem aav : OpR X (binaryOp .Mult) (rI CMul fun i j => .int (i * j)) := opI fun _ _ _ _ _ _ _ hc q => mul_int q hc.ok
theorem qk : OpR X (binaryOp .Mod) (rI (fun _ j => 0 < j) fun i j => .int (i % j)) := opI fun i j _ _ _ _ _ hc q => by
 have h1 : (0 : Int) < j := hc
 exact mod_int' (by omega) (by rw [Int.fmod_eq_emod_of_nonneg i (by omega)]; exact q)
theorem aaw : OpR X (binaryOp .Pow) (rI amI fun i j => .int (i ^ j.toNat)) := opI fun _ _ _ _ _ _ _ hc q => pow_int_small hc.1 hc.2.1 hc.2.2 q
theorem unI {f : Value -> Sem Value} {g : Int -> Int}
  (rule : ∀ (i : Int) (t : Tok) (s : Shared) (Q : Value -> Shared -> Prop) (E : Value -> Shared -> Prop), Q (.int (g i) s.toks) { s with toks := s.toks + 1 } -> wpAny (model X.prog X.w) X.A (f (.int i t)) Q E s) :
  UnR X f (rU fun i => .int (g i)) := by
 intro pins s σ H x v Q I rx h
 obtain ⟨i, rfl, q⟩ := h
 obtain ⟨t, rfl⟩ := rx
 exact rule i t s _ _ ⟨.int (g i), H, I.tok _, ⟨_, rfl⟩, q⟩
theorem akW : UnR X (unaryOp .USub) (rU fun i => .int (-i)) := unI fun _ _ _ _ _ q => neg_int q
end
section
variable {X : Cx} {a b c : Expr} {ta tb tc : TE} {pos : Pos}
theorem agW {pins : List (Addr × Obj)} {σ : St} {H : Hp} {s : Shared} {Q : VK} {k k' : Bool} (I : Inv X pins σ H s) (q : Q (.bl k) H) (e : k = k') : EP X pins σ Q (.bool k') s := by
 subst e
 exact ⟨.bl k, H, I, rfl, q⟩
theorem agX : OpR X (compareOp .Lt) (rI0 fun i j => .bl (decide (i < j))) := aiY fun _ _ _ _ _ _ _ q => lt_int q
theorem abj : OpR X (compareOp .LtE) (rI0 fun i j => .bl (decide (i <= j))) := aiY fun _ _ _ _ _ _ _ q => le_int q
theorem aeK : OpR X (compareOp .Gt) (rI0 fun i j => .bl (decide (j < i))) := aiY fun _ _ _ _ _ _ _ q => gt_int q
theorem akj : OpR X (compareOp .GtE) (rI0 fun i j => .bl (decide (j <= i))) := aiY fun _ _ _ _ _ _ _ q => ge_int q
theorem akX : OpR X (compareOp .Is) (fun x y H Q => y = .non /\ Q (.bl (decide (x = .non))) H) := by
 intro pins s σ H x y v u Q I rx ry h
 obtain ⟨rfl, q⟩ := h
 cases ry
 refine is_none_gen (agW I q ?_)
 cases x <;> first
  | (cases rx; rfl)
  | (obtain ⟨t, rfl⟩ := rx; rfl)
theorem aiZ : OpR X (compareOp .IsNot) (fun x y H Q => y = .non /\ Q (.bl (!decide (x = .non))) H) := by
 intro pins s σ H x y v u Q I rx ry h
 obtain ⟨rfl, q⟩ := h
 cases ry
 refine isnot_none_gen (agW I q ?_)
 cases x <;> first
  | (cases rx; rfl)
  | (obtain ⟨t, rfl⟩ := rx; rfl)
theorem z7 (b : Expr) {op : CmpOp} (h : op ≠ .In := by decide) (h2 : op ≠ .NotIn := by decide) : behindInMarks op b = false := by
 have e1 : (op == CmpOp.In) = false := by cases op <;> first | rfl | exact absurd rfl h
 have e2 : (op == CmpOp.NotIn) = false := by cases op <;> first | rfl | exact absurd rfl h2
 cases b <;> simp [behindInMarks, e1, e2]
theorem vb {op : CmpOp} {r : R2} (ho : OpR X (compareOp op) r) (ha : PE X a ta) (hb : PE X b tb) (hm : behindInMarks op b = false) : PE X (.Compare a [op] [b] pos) (tOp r ta tb) := by
 intro pins s σ H Q I h
 exact wpAny_Compare1 (akV ha hb I h fun v u s2 x y H2 I2 rx ry q => ho pins s2 σ H2 x y v u Q I2 rx ry q) hm
def aeL (t : TE) : TT := fun σ H Q => t σ H fun x H' => ∃ k, x = .bl k /\ Q k H'
theorem zW {op : CmpOp} {r : R2} (ho : OpR X (compareOp op) r) (ha : PE X a ta) (hb : PE X b tb) (hm : behindInMarks op b = false) : PT X (.Compare a [op] [b] pos) (aeL (tOp r ta tb)) := by
 intro pins s σ H Q I h
 refine wpAny_isTrue_Compare1 (thn (ha pins s σ H _ I h) fun v s1 ⟨x, H1, I1, r1, q1⟩ => thn (hb pins s1 σ H1 _ I1 q1) fun u s2 ⟨y, H2, I2, r2, q2⟩ =>
  thn (ho pins s2 σ H2 x y v u _ I2 r1 r2 q2) fun c s3 ⟨z, H3, I3, r3, k, e, q3⟩ => ?_) hm
 subst e
 cases r3
 exact wpAny_truthy_bool ⟨H3, I3, q3⟩
def agY (r r' : R2) (ta tb tc : TE) : TE := fun σ H Q => ta σ H fun x H1 => tb σ H1 fun y H2 => r x y H2 fun z H3 => ∃ k, z = .bl k /\
 (if k = true then tc σ H3 fun w' H4 => r' y w' H4 Q else Q (.bl false) H3)
theorem aax {op op' : CmpOp} {r r' : R2} (ho : OpR X (compareOp op) r) (ho' : OpR X (compareOp op') r') (ha : PE X a ta) (hb : PE X b tb) (hc : PE X c tc)
  (hm : lastMarks [op, op'] [b, c] = false := by with_unfolding_all rfl) : PE X (.Compare a [op, op'] [b, c] pos) (agY r r' ta tb tc) := by
 intro pins s σ H Q I h
 refine Compare_chain (thn (ha pins s σ H _ I h) fun v s1 ⟨x, H1, I1, r1, q1⟩ => chain_link (thn (hb pins s1 σ H1 _ I1 q1) fun u s2 ⟨y, H2, I2, r2, q2⟩ =>
  thn (ho pins s2 σ H2 x y v u _ I2 r1 r2 q2) fun d s3 ⟨z, H3, I3, r3, k, e, q3⟩ => ?_)) hm
 subst e
 cases r3
 refine wpAny_truthy_bool ?_
 cases k with
 | false => exact ite_ff ⟨.bl false, H3, I3, rfl, q3⟩
 | true => exact ite_tt (chain_last (thn (hc pins s3 σ H3 _ I3 q3) fun w' s4 ⟨z', H4, I4, r4, q4⟩ => ho' pins s4 σ H4 y z' u w' Q I4 r2 r4 q4))
def akY (K : amR) (x : V) (H : Hp) (k : Bool) : Prop :=
 match x with
 | .non => k = false
 | .bl b => k = b
 | .int i => k = (i != 0)
 | .str y => y.length <= sizeLine /\ k = ((y.length : Int) != 0)
 | .byt y => y.size <= sizeLine /\ k = ((y.size : Int) != 0)
 | .ref p => (∃ xs, SqL K H p xs /\ k = !xs.isEmpty) \/ (∃ xs, SqT K H p xs /\ k = !xs.isEmpty) \/ ∃ kvs, H p = some (.dK kvs) /\ k = !kvs.isEmpty
 | _ => False
theorem adV {κ : Type} {kvs : List (κ × V)} {vs : List (κ × Value)} (r : KV kvs vs) : (!vs.isEmpty) = !kvs.isEmpty := by
 cases r <;> rfl
theorem aay {xs : List V} {its : List Value} (r : Vals xs its) : (!its.toArray.isEmpty) = !xs.isEmpty := by
 cases r <;> simp
theorem aaz : (sizeLine : Nat) < 2 ^ 63 := by rw [sizeLine_eq]; decide
theorem akZ : amH X (fun x H Q => ∃ k, akY X.K x H k /\ Q k H) := by
 intro pins s σ H x v Q I rx h
 obtain ⟨k, e, q⟩ := h
 have hl := aaz
 have hs : sizeLine = 16777216 := sizeLine_eq
 cases x with
 | non =>
  cases rx
  have e' : k = false := e
  subst e'
  exact truthy_none ⟨H, I, q⟩
 | bl b =>
  cases rx
  have e' : k = b := e
  subst e'
  exact wpAny_truthy_bool ⟨H, I, q⟩
 | int i =>
  obtain ⟨t, rfl⟩ := rx
  have e' : k = (i != 0) := e
  subst e'
  exact PySem.P.truthy_int ⟨H, I, q⟩
 | str y =>
  obtain ⟨t, rfl⟩ := rx
  obtain ⟨hy, e'⟩ : y.length <= sizeLine /\ k = ((y.length : Int) != 0) := e
  subst e'
  exact PySem.P.truthy_str (by omega) ⟨H, I.tok _, q⟩
 | byt y =>
  obtain ⟨t, rfl⟩ := rx
  obtain ⟨hy, e'⟩ : y.size <= sizeLine /\ k = ((y.size : Int) != 0) := e
  subst e'
  exact PySem.W.truthy_bytes (by omega) ⟨H, I.tok _, q⟩
 | ref p =>
  cases rx
  have e' : (∃ xs, SqL X.K H p xs /\ k = !xs.isEmpty) \/ (∃ xs, SqT X.K H p xs /\ k = !xs.isEmpty) \/ ∃ kvs, H p = some (.dK kvs) /\ k = !kvs.isEmpty := e
  rcases e' with ⟨xs, hx, e'⟩ | ⟨xs, hx, e'⟩ | ⟨kvs, hx, e'⟩
  ·subst e'
   obtain ⟨its, r, pl, hz⟩ := I.list hx
   have hlen := r.length
   exact wpAny_truthy_list pl.isList (by simp only [am4]; omega) ⟨H, I.tok _, by rw [aay r]; exact q⟩
  ·subst e'
   obtain ⟨its, r, pl, hz⟩ := I.tuple hx
   have hlen := r.length
   exact truthy_tuple pl (by simp only [am4]; omega) ⟨H, I.tok _, by rw [aay r]; exact q⟩
  ·subst e'
   obtain ⟨hz, hS, vs, r, m⟩ : kvs.length <= sizeLine /\ (p == sysModules) = false /\ ∃ vs, KV kvs vs /\ s.heap.DictOf (abQ X.prog X.w) p vs := I.hok p _ hx
   have hlen : kvs.length = vs.length := Paired.length r
   exact wpAny_truthy_dict hS m (by omega) ⟨H, I.tok _, by rw [adV r]; exact q⟩
 | _ => exact (show False from e).elim
theorem agZ (ha : PE X a ta) (he : ∀ whole, isTrue a X.env whole = (do let v <- whole; standAt a.pos; holding [v] (truthy v))) :
  PT X a (fun σ H Q => ta σ H fun x H' => ∃ k, akY X.K x H' k /\ Q k H') := by
 intro pins s σ H Q I h
 exact isTrue_plain (thn (ha pins s σ H _ I h) fun v s1 ⟨x, H1, I1, r1, q1⟩ => akZ pins s1 σ H1 x v Q I1 r1 q1) (he _)
theorem vals1 {x : V} {us : List Value} (r : Vals [x] us) : ∃ u, us = [u] /\ RelV x u := by
 cases r with
 | cons r1 r2 => cases r2; exact ⟨_, rfl, r1⟩
theorem vals2 {x y : V} {us : List Value} (r : Vals [x, y] us) : ∃ u w', us = [u, w'] /\ RelV x u /\ RelV y w' := by
 cases r with
 | cons r1 r2 =>
  cases r2 with
  | cons r3 r4 => cases r4; exact ⟨_, _, rfl, r1, r3⟩
theorem jg : yk X (.builtin "abs") (fun xs H Q => ∃ i, xs = [.int i] /\ Q (.int (if i < 0 then -i else i)) H) := by
 intro pins s σ H xs us Q I r h
 obtain ⟨i, rfl, q⟩ := h
 obtain ⟨u, rfl, t, rfl⟩ := vals1 r
 exact call_abs_int fun u tk => ⟨.int (if i < 0 then -i else i), H, I.tok _, ⟨_, rfl⟩, q⟩
theorem af0 (hc : X.calm = true) : yk X (.builtin "max") (fun xs H Q => ∃ i j, xs = [.int i, .int j] /\ Q (.int (if j > i then j else i)) H) := by
 intro pins s σ H xs us Q I r h
 obtain ⟨i, j, rfl, q⟩ := h
 obtain ⟨u, w', rfl, ⟨t, rfl⟩, ⟨t', rfl⟩⟩ := vals2 r
 refine max_two_ints (I.ok.hd hc) fun h' tk k => ⟨_, H, I.kept k, ?_, q⟩
 by_cases hj : j > i
 ·rw [if_pos hj, if_pos hj]; exact ⟨_, rfl⟩
 ·rw [if_neg hj, if_neg hj]; exact ⟨_, rfl⟩
theorem abk (hc : X.calm = true) : yk X (.builtin "min") (fun xs H Q => ∃ i j, xs = [.int i, .int j] /\ Q (.int (if j < i then j else i)) H) := by
 intro pins s σ H xs us Q I r h
 obtain ⟨i, j, rfl, q⟩ := h
 obtain ⟨u, w', rfl, ⟨t, rfl⟩, ⟨t', rfl⟩⟩ := vals2 r
 refine min_two_ints (I.ok.hd hc) fun h' tk k => ⟨_, H, I.kept k, ?_, q⟩
 by_cases hj : j < i
 ·rw [if_pos hj, if_pos hj]; exact ⟨_, rfl⟩
 ·rw [if_neg hj, if_neg hj]; exact ⟨_, rfl⟩
end
end L2
namespace L2
open PySem PySem.Spec PyProof.Rows
structure ObjM (h : Heap) (x dx C : Addr) (mA : Str -> Option Value) : Prop where
 obj : h.get? x = some (PySem.W.instObj C dx)
 ns : h.Ns1 dx mA
 ne : dx ≠ x
section
variable {prog : Program} {w : World} {A : Around} {E : Value -> Shared -> Prop} {s : Shared} {K : amR} {x dx C f : Addr} {mA : Str -> Option Value} {name : Str} {v : Value}
end
structure Cls (K : amR) (C : Addr) : Prop where
 pg : PySem.W.plainGet K C Str.empty = true
 hd : PySem.W.hasDictIn K C = true
 po : PySem.W.plainOver K C = true
 sa : aoc K (.ref C) "__setattr__" = some (some (.builtin "object.__setattr__"))
structure Con (K : amR) (C : Addr) (f : Str) (v : V) (u : Value) : Prop where
 at_ : aoc K (.ref C) f = some (some u)
 rel : RelV v u
 get : apd K u "__get__" = some none
 cp : PySem.W.copiedNames.contains f = false
structure Meth (K : amR) (C : Addr) (m : Str) (f : Addr) : Prop where
 at_ : aoc K (.ref C) m = some (some (.ref f))
 fn : PySem.W.isFn K (.ref f) = true
 kp : anH K (.ref f) = true
section
variable {X : Cx} {pins : List (Addr × Obj)} {σ : St} {H : Hp} {s : Shared} {a C dx : Addr} {fs : List (Str × V)} {f : Str} {v : V} {A : Around} {E : Value -> Shared -> Prop}
end
section
variable {X : Cx} {pins : List (Addr × Obj)} {σ : St} {H : Hp} {s : Shared} {A : Around} {E : Value -> Shared -> Prop} {Q : Value -> Shared -> Prop} {c : Value} {b : Bool}
inductive TyOf (K : amR) (H : Hp) : V -> Value -> Prop where
 | non : TyOf K H .non (.type "NoneType")
 | bl (x : Bool) : TyOf K H (.bl x) (.type "bool")
 | int (i : Int) : TyOf K H (.int i) (.type "int")
 | str (x : Str) : TyOf K H (.str x) (.type "str")
 | flt (x : UInt64) : TyOf K H (.flt x) (.type "float")
 | lst {a : Addr} {xs : List V} (e : H a = some (.lst xs)) : TyOf K H (.ref a) (.type "list")
 | frz {a : Addr} {o : Obj} {xs : List V} (e : H a = some (.frz o (.lst xs))) : TyOf K H (.ref a) (.type "list")
 | tup {a : Addr} {xs : List V} (e : H a = some (.tup xs)) : TyOf K H (.ref a) (.type "tuple")
 | dK {a : Addr} {kvs : List (Key × V)} (e : H a = some (.dK kvs)) : TyOf K H (.ref a) (.type "dict")
 | dT {a : Addr} {kvs : List (List Key × V)} (e : H a = some (.dT kvs)) : TyOf K H (.ref a) (.type "dict")
 | ins {a C dx : Addr} {fs : List (Str × V)} (e : H a = some (.ins C dx fs)) (cl : Cls K C) (ha : aoc K (.ref C) "__class__" = some (some (.builtin "object.__class__")))
   (hn : apd K (.builtin "object.__class__") "__get__" = some (some (.builtin "getset_descriptor.__get__"))) (htk : PySem.W.takesIn K (.builtin "object.__class__") = some true)
   (hm : ap1 K C (.type "object") = some true) : TyOf K H (.ref a) (.ref C)
end
end L2
namespace L2
open PySem PySem.Spec PyProof.Rows
structure Room (k : Nat) (A : Around) : Prop where
 hd : A.handled = none
 dp : A.depth + 3 * k + 5 < recursionLimit
 un : A.units + 16 * k + 200 < cLine
theorem Room.mono {j k : Nat} {A : Around} (r : Room k A) (h : j <= k) : Room j A := ⟨r.hd, by have := r.dp; omega, by have := r.un; omega⟩
theorem Room.deeper {k : Nat} {A : Around} (r : Room (k + 1) A) (env : Env) : Room k (A.deeper env) :=
 ⟨r.hd, by have := r.dp; show A.depth + 1 + 3 * k + 5 < _; omega, by have := r.un; show A.units + 3 + 16 * k + 200 < _; omega⟩
theorem Room.depth {k : Nat} {A : Around} (r : Room k A) : A.depth < recursionLimit := by have := r.dp; omega
theorem Room.units {k : Nat} {A : Around} (r : Room k A) : A.units + 64 < cLine := by have := r.un; omega
def qj : TA := fun _ H Q => Q [] H
def yo (ta : TE) (tr : TA) : TA := fun σ H Q => ta σ H fun x H1 => tr σ H1 fun xs H2 => Q (x :: xs) H2
section
variable {X : Cx} {e : Expr} {es : List Expr} {te : TE} {t : TA} {pos : Pos}
theorem zb : PA X [] qj := fun _ _ _ _ H Q I h => Calls.spliced_nil ⟨[], H, I, .nil, h⟩
theorem za (ha : PE X e te) (hr : PA X es t) (hs : starEach (e :: es) X.env = (false, eval e X.env) :: starEach es X.env := by rfl) : PA X (e :: es) (yo te t) := by
 intro pos pins s σ H Q I h
 rw [hs]
 show wpAny _ _ (spliced ((false, eval e X.env) :: backTo pos (starEach es X.env))) _ _ s
 refine Calls.spliced_cons (thn (ha pins s σ H _ I h) fun u s1 ⟨x, H1, I1, r1, q1⟩ => ?_)
 exact thn (hr pos pins s1 σ H1 _ I1 q1) fun us s2 ⟨xs, H2, I2, r2, q2⟩ => ⟨x :: xs, H2, I2, .cons r1 r2, q2⟩
def amb (t : TA) : TE := fun σ H Q => t σ H fun xs H1 => xs.length <= sizeLine /\ ∀ p, H1 p = none -> Q (.ref p) (upd H1 p (.tup xs))
def ag0 (t : TA) : TE := fun σ H Q => t σ H fun xs H1 => xs.length <= sizeLine /\ ∀ p, H1 p = none -> Q (.ref p) (upd H1 p (.lst xs))
theorem zI {x1} (h : PA X es t) : PE X (.Tuple es x1 pos) (amb t) := by
 intro pins s σ H Q I hq
 refine wpAny_Tuple_spliced (thn (h pos pins s σ H _ I hq) fun us s1 ⟨xs, H1, I1, r, z, q⟩ => ⟨by rw [<- r.length]; exact z, ?_⟩)
 have hf : H1 s1.heap.objs.size = none := I1.hok.fresh (amV _)
 refine ⟨.ref s1.heap.objs.size, upd H1 s1.heap.objs.size (.tup xs), I1.laid (t' := s1.toks) (fun b u e => amW _ e) (amV _) ?_, rfl, q _ hf⟩
 exact ⟨z, us, r, ⟨_, anr _ rfl, rfl, _, rfl⟩⟩
theorem yz (h : PA X es t) : PE X (.List es pos) (ag0 t) := by
 intro pins s σ H Q I hq
 refine wpAny_List_spliced (thn (h pos pins s σ H _ I hq) fun us s1 ⟨xs, H1, I1, r, z, q⟩ => ⟨by rw [<- r.length]; exact z, ?_⟩)
 have hf : H1 s1.heap.objs.size = none := I1.hok.fresh (amV _)
 refine ⟨.ref s1.heap.objs.size, upd H1 s1.heap.objs.size (.lst xs), I1.laid (t' := s1.toks) (fun b u e => amW _ e) (amV _) ?_, rfl, q _ hf⟩
 exact ⟨z, us, 0, r, anr _ rfl⟩
end
abbrev Sp := List V -> Hp -> VK -> XK -> Prop
abbrev CXT := List Env -> Hp -> Shared -> XK -> Value -> Shared -> Prop
structure Env0 (P : Program) (w : World) (K : amR) (mg : Str -> Option Value) (base : Heap) (A : Around) (outer : List Env) (s : Shared) (H : Hp) : Prop where
 frames : A.frames = some outer
 mod : Mod K mg base
 bs : ∀ b o, base.get? b = some o -> s.heap.get? b = some o /\ H b = none
 bsz : base.objs.size <= s.heap.objs.size
 funs : s.heap.FunFrames base outer
 frf : ∀ b ∈ frs outer, H b = none
 hok : HOk P w H s.heap
 bare : AllBare s.gens
def CE (outer : List Env) (P : Program) (w : World) (H : Hp) (s : Shared) (Q : VK) (u : Value) (s' : Shared) : Prop :=
 ∃ v H', s'.os = s.os /\ AllBare s'.gens /\ Un (frs outer) [] H H' s.heap s'.heap /\ HOk P w H' s'.heap /\ RelV v u /\ Q v H'
def CR (CX : CXT) (outer : List Env) (P : Program) (w : World) (H : Hp) (s : Shared) (Q : VK) (E : XK) (r : Result) (s' : Shared) : Prop :=
 match r with
 | .ok (.ret u) => CE outer P w H s Q u s'
 | .ok _ => False
 | .error e => CX outer H s E e s'
structure FnOk (P : Program) (w : World) (K : amR) (mg : Str -> Option Value) (base : Heap) (CX : CXT) (k : Nat) (f : Addr) (fd : FuncData) (ps : List Str) (sp : Sp) : Prop where
 len : ∀ vs H Q E, sp vs H Q E -> vs.length = ps.length
 run : ∀ (A : Around) (outer : List Env) (s : Shared) (H : Hp) (args : Args) (us : List Value) (vs : List V) (Q : VK) (E : XK), Room k A -> Env0 P w K mg base A outer s H -> BindsTo s fd args (ps.zip us) -> Vals vs us -> sp vs H Q E ->
  codeAny (model P w) A (.call (.ref f) args) (CR CX outer P w H s Q E) s
theorem FnOk.mono {P : Program} {w : World} {K : amR} {mg : Str -> Option Value} {base : Heap} {CX : CXT} {j k : Nat} {f : Addr} {fd : FuncData} {ps : List Str} {sp : Sp} (F : FnOk P w K mg base CX j f fd ps sp) (h : j <= k) :
  FnOk P w K mg base CX k f fd ps sp := ⟨F.len, fun A outer s H args us vs Q E hr => F.run A outer s H args us vs Q E (hr.mono h)⟩
section
variable {X : Cx} {pins : List (Addr × Obj)} {σ : St} {H : Hp} {s s' : Shared}
theorem Inv.env0 (I : Inv X pins σ H s) : Env0 X.prog X.w X.K X.mg X.base X.A X.stack s H :=
 ⟨I.ok.frames, I.ok.mod, I.bs, ank I.ok.bsz I.sz, I.stack, I.stkFree, I.hok, I.bare⟩
theorem Inv.after {Q : VK} {u : Value} (I : Inv X pins σ H s) (h : CE X.stack X.prog X.w H s Q u s') : EP X pins σ Q u s' := by
 obtain ⟨v, H', os, bare, un, hok, r, q⟩ := h
 obtain ⟨hh, g, d, t, os'⟩ := s'
 obtain rfl : os' = s.os := os
 exact ⟨v, H', I.call (h' := hh) (g' := g) (d' := d) (t' := t) (ch := []) un hok bare (fun b z => absurd z (by simp)), r, q⟩
end
def abl (sp : Sp) (dvs : List V) (E : XK) (t : TA) : TE := fun σ H Q => t σ H fun vs H1 => sp (vs ++ dvs) H1 Q E
def Binds (K : amR) (fd : FuncData) (ps : List Str) (ds : List Value) : Prop :=
 ∀ (s : Shared) (us : List Value), K.In s.heap -> (us ++ ds).length = ps.length -> BindsTo s fd ⟨us, []⟩ (ps.zip (us ++ ds))
theorem Binds.all {K : amR} {fd : FuncData} {ps : List Str} (h : ∀ us : List Value, us.length = ps.length -> bindArgs fd ⟨us, []⟩ = pure (ps.zip us)) : Binds K fd ps [] := fun s us _ hl => by
 rw [anG] at hl ⊢
 exact .of_eq (h us hl)
def Passes (CX : CXT) (X : Cx) (E : XK) : Prop := ∀ (pins : List (Addr × Obj)) (σ : St) (H : Hp) (s : Shared) (e : Value) (s' : Shared), Inv X pins σ H s -> CX X.stack H s E e s' -> X.xe e s'
section
variable {X : Cx} {CX : CXT} {k : Nat} {f C : Addr} {fd : FuncData} {ps : List Str} {sp : Sp} {dvs : List V} {ds : List Value} {E : XK} {x m : Str} {p pos apos : Pos} {e o : Expr} {es : List Expr} {ta : TE} {t : TA}
theorem ak0 {pins : List (Addr × Obj)} {σ : St} {H : Hp} {s : Shared} {Q : VK} {us : List Value} {vs : List V} (F : FnOk X.prog X.w X.K X.mg X.base CX k f fd ps sp) (hr : Room k X.A) (hb : Binds X.K fd ps ds) (hd : Vals dvs ds) (hx : Passes CX X E)
  (I : Inv X pins σ H s) (r : Vals vs us) (h : sp (vs ++ dvs) H Q E) : wpAny (model X.prog X.w) X.A (call (.ref f) us) (EP X pins σ Q) X.xe s := by
 have r2 : Vals (vs ++ dvs) (us ++ ds) := r.append hd
 have hl : (us ++ ds).length = ps.length := by rw [<- r2.length]; exact F.len _ _ _ _ h
 refine wpAny_call (codeAny_mono (F.run X.A X.stack s H ⟨us, []⟩ (us ++ ds) (vs ++ dvs) Q E hr I.env0 (hb s us I.kIn hl) r2 h) fun r s' hq => ?_)
 cases r with
 | error e => exact hx pins σ H s e s' I hq
 | ok fl =>
  cases fl with
  | ret u => exact I.after hq
  | next => exact anN hq
  | brk => exact anN hq
  | cont => exact anN hq
theorem ai0 (F : FnOk X.prog X.w X.K X.mg X.base CX k f fd ps sp) (hr : Room k X.A) (hg : Gl X x) (hm : X.mg x = some (.ref f)) (hk : anH X.K (.ref f) = true) (hb : Binds X.K fd ps ds) (hd : Vals dvs ds) (hx : Passes CX X E)
  (ha : PA X (e :: es) t) (hdb : (x == ("__debug__" : Str)) = false := by decide) (he : starEach (e :: es) X.env = (false, eval e X.env) :: starEach es X.env := by rfl) (hpl : (backTo pos (starEach es X.env)).any (·.1) = false := by rfl) :
  PE X (.Call (.Name x p) (e :: es) [] pos) (abl sp dvs E t) := by
 intro pins s σ H Q I h
 refine wpAny_Call_Name_kw (jQ I hg hm ?_ hdb)
 refine apR (h₀ := X.base) I.ok.mod.kin hk (thn (ha pos pins s σ H _ I h) fun us s1 ⟨vs, H1, I1, r, q⟩ => ⟨I1.kIn, ?_⟩) he hpl
 exact ak0 F hr hb hd hx I1 r q
structure Mk (K : amR) (C f : Addr) : Prop where
 makes : PySem.W.makesIn K C = true
 init : aoc K (.ref C) "__init__" = some (some (.ref f))
 fn : PySem.W.isFn K (.ref f) = true
 kp : anH K (.ref C) = true
end
section
variable {X : Cx} {CX : CXT} {k : Nat} {f C : Addr} {fd : FuncData} {ps ks : List Str} {sp : Sp} {E : XK} {x m : Str} {p pos apos kpos : Pos} {e o : Expr} {es : List Expr} {kws : List Keyword} {te ta : TE} {t tk : TA} {nm : Option Str}
structure KBinds (K : amR) (fd : FuncData) (ps ks : List Str) (g : List Value -> List Value -> List Value) (gV : List V -> List V -> List V) : Prop where
 to : ∀ (s : Shared) (us ws : List Value), K.In s.heap -> (g us ws).length = ps.length -> BindsTo s fd ⟨us, ks.zip ws⟩ (ps.zip (g us ws))
 rel : ∀ {vs : List V} {us : List Value} {zs : List V} {ws : List Value}, Vals vs us -> Vals zs ws -> Vals (gV vs zs) (g us ws)
variable {g : List Value -> List Value -> List Value} {gV : List V -> List V -> List V}
end
structure FnScope (N P : List Str) (sc : Scope) : Prop where
 kind : sc.kind = .function
 co : sc.isCoroutine = false
 gen : sc.isGenerator = false
 nd : N.Nodup
 pre : N.take P.length = P
 par : ∀ x ∈ P, sc.names.lookup x = some .local \/ sc.names.lookup x = some .cell
 nofree : ∀ y ∈ sc.names, y.2 ≠ .free
theorem abm {kindOf : Str -> Option NameKind} {x : Str} : ∀ {binds : List (Str × Value)} {m : Str -> Option Value}, (∀ v, (x, v) ∉ binds) -> bindL kindOf binds m x = m x
 | [], _, _ => rfl
 | (n, v) :: r, m, h => by
  unfold bindL
  rw [abm fun w hw => h w (amY _ hw)]
  split
  ·have : x ≠ n := by rintro rfl; exact h v am6
   simp [this]
  ·rfl
theorem abn {kindOf : Str -> Option NameKind} {x : Str} : ∀ {binds : List (Str × Value)} {m : Str -> Option Value}, (∀ v, (x, v) ∉ binds) -> bindC kindOf binds m x = m x
 | [], _, _ => rfl
 | (n, v) :: r, m, h => by
  unfold bindC
  rw [abn fun w hw => h w (amY _ hw)]
  split
  ·rfl
  ·have : x ≠ n := by rintro rfl; exact h v am6
   simp [this]
theorem abo {kindOf : Str -> Option NameKind} {x : Str} {v : Value} : ∀ {P : List Str} {vs : List Value} {i : Nat} {m : Str -> Option Value}, P.Nodup -> P[i]? = some x -> vs[i]? = some v -> kindOf x = some .local ->
  bindL kindOf (P.zip vs) m x = some v
 | [], _, _, _, _, h, _, _ => by simp at h
 | _ :: _, [], _, _, _, _, h, _ => by simp at h
 | p :: P, w :: vs, 0, m, nd, h1, h2, hk => by
  simp at h1 h2; subst h1; subst h2
  show bindL kindOf ((p, w) :: P.zip vs) m p = _
  unfold bindL
  rw [abm fun v hv => (anY.mp nd).1 (aoP hv).1, if_pos hk]
  simp
 | p :: P, w :: vs, i + 1, m, nd, h1, h2, hk => by
  show bindL kindOf ((p, w) :: P.zip vs) m x = _
  unfold bindL
  exact abo (i := i) (anY.mp nd).2 (by simpa using h1) (by simpa using h2) hk
theorem abp {kindOf : Str -> Option NameKind} {x : Str} {v : Value} : ∀ {P : List Str} {vs : List Value} {i : Nat} {m : Str -> Option Value}, P.Nodup -> P[i]? = some x -> vs[i]? = some v -> kindOf x ≠ some .local ->
  bindC kindOf (P.zip vs) m x = some v
 | [], _, _, _, _, h, _, _ => by simp at h
 | _ :: _, [], _, _, _, _, h, _ => by simp at h
 | p :: P, w :: vs, 0, m, nd, h1, h2, hk => by
  simp at h1 h2; subst h1; subst h2
  show bindC kindOf ((p, w) :: P.zip vs) m p = _
  unfold bindC
  rw [abn fun v hv => (anY.mp nd).1 (aoP hv).1, if_neg hk]
  simp
 | p :: P, w :: vs, i + 1, m, nd, h1, h2, hk => by
  show bindC kindOf ((p, w) :: P.zip vs) m x = _
  unfold bindC
  exact abp (i := i) (anY.mp nd).2 (by simpa using h1) (by simpa using h2) hk
def start (N : List Str) (vs : List V) : St := vs.map some ++ aoT (N.length - vs.length) none
def zM (CX : CXT) (P : Program) (w : World) (K : amR) (mg : Str -> Option Value) (base : Heap) (N : List Str) (qual : Str) (scope : Scope) (f : Addr) (cd : Value) (A : Around) (outer : List Env) (s : Shared) (H : Hp) (E : XK) : Cx where
 prog := P
 w := w
 K := K
 mg := mg
 base := base
 A := A.deeper (envOfC qual scope s.heap.objs.size f cd)
 N := N
 s₀ := s
 H₀ := H
 env := envOfC qual scope s.heap.objs.size f cd
 outer := outer
 stack := envOfC qual scope s.heap.objs.size f cd :: outer
 ex := []
 calm := true
 fn := fun _ => true
 pn := []
 xe := fun e s' => wpAny (model P w) (A.deeper (envOfC qual scope s.heap.objs.size f cd)) (leaving (envOfC qual scope s.heap.objs.size f cd) e) (fun _ s'' => CX outer H s E e s'') (fun e' s'' => CX outer H s E e' s'') s'
theorem acN {sc : Scope} {n : Nat} {x : Str} (h : sc.names.lookup x = some .cell) : ∃ c, (cellsFrom n sc.names []).lookup x = some c := by
 have q := aot sc.names n [] (.inl h)
 exact aoj.mp q
theorem abq {CX : CXT} {P : Program} {w : World} {K : amR} {mg : Str -> Option Value} {base : Heap} {N ps : List Str} {qual : Str} {scope : Scope} {f : Addr} {cd : Value} {A : Around} {outer : List Env} {s s1 : Shared} {H : Hp} {E : XK} {us : List Value} {vs : List V}
  (S : FnScope N ps scope) (hd : A.handled = none) (e0 : Env0 P w K mg base A outer s H) (hl : vs.length = ps.length) (r : Vals vs us)
  (x : InCallC s s.heap.objs.size (bindL (envOfC qual scope s.heap.objs.size f cd).kindOf (ps.zip us) fun _ => none) (cellsFrom (s.heap.objs.size + 1) scope.names []) (bindC (envOfC qual scope s.heap.objs.size f cd).kindOf (ps.zip us) fun _ => none) s1) :
  Inv (zM CX P w K mg base N qual scope f cd A outer s H E) [] (start N vs) H s1 := by
 have hpl : ps.length <= N.length := by have := congrArg List.length S.pre; rw [anu] at this; omega
 obtain ⟨h1, tk, rfl, hk⟩ := x.done
 have noA : ∀ b : Addr, b ∉ (zM CX P w K mg base N qual scope f cd A outer s H E).ex := fun b z => absurd (show b ∈ ([] : List Addr) from z) (by simp)
 refine ⟨⟨e0.mod, S.kind, rfl, rfl, amV _, fun y z c h1 h2 => ?_, fun y hy => ?_, fun y c _ h => ?_, fun _ => hd, aqx e0.frames, .inr ⟨rfl, rfl⟩, fun b z => absurd z (noA b), e0.bs, e0.bsz, fun b _ _ => noA b, fun b z => absurd z (noA b), e0.funs, e0.frf⟩,
  rfl, e0.bare, Un.kept hk, ⟨_, x.toInCall.ns, fun i y v h1 h2 h3 => ?_⟩, fun y c h => ⟨_, x.cell y c h⟩, e0.hok.fresh (amV _), fun y c h => ?_, fun p hp => absurd (show p ∈ ([] : List (Addr × Obj)) from hp) (by simp), e0.hok.kept hk, ?_⟩
 ·exact name_of_addr x.apart (aoI h1) (aoI h2)
 ·have hy : scope.names.lookup y = some .cell \/ scope.names.lookup y = some .free := hy
  rcases hy with hy | hy
  ·exact acN hy
  ·exact absurd rfl (S.nofree _ (aoI hy))
 ·exact anE (x.above y c (aoI h))
 ·have hi : i < vs.length := by
   unfold start at h2
   by_cases hi : i < vs.length
   ·exact hi
   ·rw [am7 (by simpa using hi)] at h2
    rw [aoK] at h2
    split at h2 <;> cases h2
  have ha : vs[i]? = some v := by
   unfold start at h2
   rw [am3 (by simpa using hi), am1] at h2
   cases e : vs[i]? with
   | none => rw [e] at h2; cases h2
   | some a => rw [e] at h2; cases h2; rfl
  obtain ⟨u, hu, rv⟩ := r.get ha
  have hp : ps[i]? = some y := by
   rw [<- S.pre, aoH (by omega)]; exact h1
  have ndP : ps.Nodup := by rw [<- S.pre]; exact S.nd.sublist (List.take_sublist _ _)
  refine ⟨u, rv, ?_⟩
  rcases S.par y (ana hp) with k | k
  ·exact .inl ⟨k, abo ndP hp hu k⟩
  ·obtain ⟨c, e⟩ := acN (n := s.heap.objs.size + 1) k
   refine .inr ⟨.inl k, c, e, ?_⟩
   have q := x.cell y c e
   rw [abp ndP hp hu (by show scope.names.lookup y ≠ _; rw [k]; decide)] at q
   exact q
 ·exact e0.hok.fresh (anE (x.above y c (aoI h)))
 ·unfold start
  show _ = N.length
  rw [am9, amT, apu]
  omega
theorem akk {CX : CXT} {P : Program} {w : World} {K : amR} {mg : Str -> Option Value} {base : Heap} {k : Nat} {f : Addr} {name qual : Str} {params : Arguments} {body : List Stmt} {scope : Scope} {dV kV doc pm cdv ct oc : Value} {an od : Option Addr}
  {osl : Array (Option Value)} {N ps : List Str} {sp : Sp} (lk : K.lookup f = some ⟨oc, od, .func (aok name qual params body scope dV kV doc pm an cdv ct), osl⟩) (hcd : ape K cdv qual = true) (S : FnScope N ps scope)
  (len : ∀ vs H Q E, sp vs H Q E -> vs.length = ps.length)
  (hbody : ∀ (A : Around) (outer : List Env) (s : Shared) (H : Hp) (vs : List V) (Q : VK) (E : XK), Room k (A.deeper (envOfC qual scope s.heap.objs.size f cdv)) -> sp vs H Q E ->
   ∃ t, PSs (zM CX P w K mg base N qual scope f cdv A outer s H E) body t /\ t { nx := fun _ H' => Q .non H', rt := Q } (start N vs) H) :
  FnOk P w K mg base CX (k + 1) f (aok name qual params body scope dV kV doc pm an cdv ct) ps sp := by
 refine ⟨len, fun A outer s H args us vs Q E hr e0 hb r hsp => ?_⟩
 have hl := len _ _ _ _ hsp
 have KX : K.In s.heap := e0.mod.kin.keeps fun b o e => (e0.bs b o e).1
 have lim : s.heap.NoLimit := e0.mod.nolimit.keeps fun b o e => (e0.bs b o e).1
 have hkind : ∀ y ∈ ps.zip us, scope.names.lookup y.1 = some .local \/ (scope.names.lookup y.1 = some .cell /\ ((cellsFrom (s.heap.objs.size + 1) scope.names []).lookup y.1).isSome = true) := fun ⟨n, v⟩ hy => by
  rcases S.par n (aoP hy).1 with q | q
  ·exact .inl q
  ·exact .inr ⟨q, aot _ _ _ (.inl q)⟩
 refine codeAny_call_function hr.depth (KX _ _ lk) rfl S.co S.gen rfl (PySem.W.codeRec_of KX hcd) (hb _ _ _ _ ?_)
 refine wpAny_newFunctionEnv_cells S.kind hkind fun env he s1 x => ?_
 subst he
 refine ⟨lim.keeps x.toInCall.keep, codeAny_func ?_⟩
 obtain ⟨t, ht, hq⟩ := hbody A outer s H vs Q E (hr.deeper _) hsp
 have I : Inv (zM CX P w K mg base N qual scope f cdv A outer s H E) [] (start N vs) H s1 := abq S hr.hd e0 hl r x
 refine wpAny_mono (ht [] s1 (start N vs) H _ I hq) (fun fl s' hs => ?_) fun e s' hs => hs
 have fin : ∀ {σ' : St} {H' : Hp} {v : V} {u : Value}, Inv (zM CX P w K mg base N qual scope f cdv A outer s H E) [] σ' H' s' -> RelV v u -> Q v H' -> CE outer P w H s Q u s' :=
  fun {σ' H' v u} J rv q => ⟨v, H', J.os, J.bare, J.base, J.hok, rv, q⟩
 cases fl with
 | ret u =>
  obtain ⟨v, σ', H', J, rv, q⟩ := hs
  exact fin J rv q
 | next =>
  obtain ⟨σ', H', J, q⟩ := hs
  exact fin (v := V.non) (u := Value.none) J rfl q
 | brk =>
  obtain ⟨_, _, _, q⟩ := hs
  exact anN q
 | cont =>
  obtain ⟨_, _, _, q⟩ := hs
  exact anN q
end L2
namespace L2
open PySem PySem.Spec PyProof.Rows
section
variable {X : Cx} {x : Str} {p pos : Pos} {e : Expr} {es : List Expr} {t : TA} {id T : String} {r : List V -> Hp -> VK -> Prop}
def tCB (r : List V -> Hp -> VK -> Prop) (t : TA) : TE := fun σ H Q => t σ H fun vs H1 => r vs H1 Q
theorem zu (hc : yk X (.builtin id) r) (hg : Gl X x) (hm : X.mg x = none) (hv : bootBuiltins x = some (.builtin id)) (ha : PA X (e :: es) t) (hn : x ≠ "__name__" := by decide) (hdb : (x == ("__debug__" : Str)) = false := by decide)
  (he : starEach (e :: es) X.env = (false, eval e X.env) :: starEach es X.env := by rfl) (hpl : (backTo pos (starEach es X.env)).any (·.1) = false := by rfl) : PE X (.Call (.Name x p) (e :: es) [] pos) (tCB r t) := by
 intro pins s σ H Q I h
 refine wpAny_Call_Name_kw (qR I hg hm hv ?_ hn hdb)
 exact PyProof.Rows.callWith_builtin1 (thn (ha pos pins s σ H _ I h) fun us s1 ⟨vs, H1, I1, r1, q1⟩ => hc pins s1 σ H1 vs us Q I1 r1 q1) he hpl
theorem abr (hc : yk X (.type T) r) (hg : Gl X x) (hm : X.mg x = none) (hv : bootBuiltins x = some (.type T)) (ha : PA X (e :: es) t) (hn : x ≠ "__name__" := by decide) (hdb : (x == ("__debug__" : Str)) = false := by decide)
  (he : starEach (e :: es) X.env = (false, eval e X.env) :: starEach es X.env := by rfl) (hpl : (backTo pos (starEach es X.env)).any (·.1) = false := by rfl) : PE X (.Call (.Name x p) (e :: es) [] pos) (tCB r t) := by
 intro pins s σ H Q I h
 refine wpAny_Call_Name_kw (qR I hg hm hv ?_ hn hdb)
 exact aos (thn (ha pos pins s σ H _ I h) fun us s1 ⟨vs, H1, I1, r1, q1⟩ => hc pins s1 σ H1 vs us Q I1 r1 q1) he hpl
theorem adW (hc : yk X (.type T) r) (hg : Gl X x) (hm : X.mg x = none) (hv : bootBuiltins x = some (.type T)) (hn : x ≠ "__name__" := by decide) (hdb : (x == ("__debug__" : Str)) = false := by decide) :
  PE X (.Call (.Name x p) [] [] pos) (tCB r qj) := by
 intro pins s σ H Q I h
 refine wpAny_Call_Name_kw (qR I hg hm hv ?_ hn hdb)
 exact PyProof.Rows.callWith_type0 (hc pins s σ H [] [] Q I .nil h)
end
end L2
namespace HT
open PySem PyProof.Rows
theorem rcLt_int (A : Around) (s : Shared) (a : Int) (t : Tok) (c : Int) (u : Tok) (prog : Program) (w : World) (E : Value -> Shared -> Prop) (Q : Value -> Shared -> Prop) (h : Q (.bool (decide (a < c))) s) :
  wpAny (model prog w) A (richCompare .Lt (.int a t) (.int c u)) Q E s :=
 (PyProof.Rows.lt_int h : wpAny (model prog w) A (compareOp .Lt (.int a t) (.int c u)) Q E s)
section
open PySem.SeqAt
open PySem.AutoSeq1 (wpAny_loadPart')
open PySem.MeetsSeq PySem.MeetsSeq2 PySem.MeetsSeq3
end
section
variable {prog : Program} {w : World} {A : Around} {E : Value -> Shared -> Prop} {s : Shared}
def sIx (n d : Nat) : Option Int -> Nat
 | none => d
 | some v => if v < 0 then (v + (n : Int)).toNat else min v.toNat n
end
end HT
namespace L2
open PySem PySem.Spec PyProof.Rows
abbrev TO := St -> Hp -> (Option Int -> Hp -> Prop) -> Prop
def PO (X : Cx) (e : Option Expr) (t : TO) : Prop :=
 ∀ (pins : List (Addr × Obj)) (s : Shared) (σ : St) (H : Hp) (Q : Option Int -> Hp -> Prop), Inv X pins σ H s -> t σ H Q ->
  wpAny (model X.prog X.w) X.A (evalPart e X.env) (fun u s' => ∃ o H', Inv X pins σ H' s' /\ IsPart u o /\ Q o H') X.xe s
def aeM : TO := fun _ H Q => Q none H
def akl (t : TE) : TO := fun σ H Q => t σ H fun x H1 => ∃ i, x = .int i /\ Q (some i) H1
theorem intsAre_of {ns : List Int} : ∀ {us : List Value}, Vals (ns.map V.int) us -> IntsAre us ns := by
 induction ns with
 | nil => intro us r; rw [apO] at r; cases r; exact .nil
 | cons n ns ih =>
  intro us r
  rw [anh] at r
  cases r with
  | cons r1 r2 =>
   obtain ⟨t, e⟩ := r1
   subst e
   exact .cons n t (ih r2)
section
variable {X : Cx} {e : Expr} {te : TE} {lo hi : Option Expr} {tl th : TO} {pos p2 : Pos}
theorem aeN : PO X none aeM := by
 intro pins s σ H Q I h
 rw [evalPart_none]
 exact wpAny_pure ⟨none, H, I, .none, h⟩
theorem aeO (h : PE X e te) : PO X (some e) (akl te) := by
 intro pins s σ H Q I hw
 rw [evalPart_some]
 refine thn (h pins s σ H _ I hw) fun u s1 ⟨x, H1, I1, r1, q1⟩ => ?_
 obtain ⟨i, rfl, q⟩ := q1
 obtain ⟨t, rfl⟩ := r1
 exact ⟨some i, H1, I1, .int i t, q⟩
def SlR (X : Cx) (r : V -> Option Int -> Option Int -> Hp -> VK -> Prop) : Prop :=
 ∀ (pins : List (Addr × Obj)) (s : Shared) (σ : St) (H : Hp) (x : V) (v vl vu : Value) (lo hi : Option Int) (sl : Addr) (Q : VK), Inv X pins σ H s -> RelV x v -> s.heap.IsSliceOf sl vl vu .none -> IsPart vl lo -> IsPart vu hi -> r x lo hi H Q ->
  ∃ T id, typeLookup (.type T) "__getitem__" = pure (some (.builtin id)) /\ s.TypeIs v T /\ wpAny (model X.prog X.w) X.A (getItem v (.ref sl)) (EP X pins σ Q) X.xe s
def tSl (r : V -> Option Int -> Option Int -> Hp -> VK -> Prop) (te : TE) (tl th : TO) : TE := fun σ H Q => te σ H fun x H1 => tl σ H1 fun l H2 => th σ H2 fun u H3 => r x l u H3 Q
theorem acO {r : V -> Option Int -> Option Int -> Hp -> VK -> Prop} (hr : SlR X r) (he : PE X e te) (hl : PO X lo tl) (hu : PO X hi th) : PE X (.Subscript e (.Slice lo hi none p2) pos) (tSl r te tl th) := by
 intro pins s σ H Q I h
 refine Subscript_ (thn (he pins s σ H _ I h) fun v s1 ⟨x, H1, I1, r1, q1⟩ => ?_)
 refine wpAny_Slice (thn (hl pins s1 σ H1 _ I1 q1) fun vl s2 ⟨l, H2, I2, pl, q2⟩ => thn (hu pins s2 σ H2 _ I2 q2) fun vu s3 ⟨u, H3, I3, pu, q3⟩ => ?_)
 rw [evalPart_none]
 refine wpAny_pure ?_
 have I4 : Inv X pins σ H3 { s3 with heap := s3.heap.push { cls := .type "slice", data := .fields #[vl, vu, .none] } } := I3.kept (t' := s3.toks) fun b ob q => amW _ q
 obtain ⟨T, id, hT, ht, hg⟩ := hr pins { s3 with heap := s3.heap.push { cls := .type "slice", data := .fields #[vl, vu, .none] } } σ H3 x v vl vu l u s3.heap.objs.size Q I4 r1 (Heap.IsSliceOf.new ..) pl pu q3
 show wpAny (model X.prog X.w) X.A (subscriptTail e (.Slice lo hi none p2) v (.ref s3.heap.objs.size)) (EP X pins σ Q) X.xe { s3 with heap := s3.heap.push { cls := .type "slice", data := .fields #[vl, vu, .none] } }
 exact tail_any (ops := [.ref s3.heap.objs.size, v]) ht hT hg (by with_unfolding_all rfl)
def adX (xs : List V) (lo hi : Option Int) : List V := (xs.drop (HT.sIx xs.length 0 lo)).take (HT.sIx xs.length xs.length hi - HT.sIx xs.length 0 lo)
theorem acP (xs : List V) (lo hi : Option Int) : (adX xs lo hi).length <= xs.length := by
 unfold adX
 rw [anu, anZ]
 omega
end
end L2
namespace L2
open PySem PySem.Spec PyProof.Rows
def ixN (n : Nat) (i : Int) : Option Nat := if 0 <= i then (if i < n then some i.toNat else none) else if -(n : Int) <= i then some (i + n).toNat else none
def atI {α : Type} (xs : List α) (i : Int) : Option α := (ixN xs.length i).bind fun j => xs[j]?
theorem aeP {n : Nat} {i : Int} {j : Nat} (h : ixN n i = some j) : seqIndex? i n = some j /\ j < n /\ -(n : Int) <= i /\ i < n := by
 unfold ixN at h
 by_cases h0 : 0 <= i
 ·rw [if_pos h0] at h
  by_cases h1 : i < n
  ·rw [if_pos h1] at h
   have e : i.toNat = j := Option.some.inj h
   exact ⟨by rw [seqIndex_of h0 h1, e], by omega, by omega, h1⟩
  ·rw [if_neg h1] at h; cases h
 ·rw [if_neg h0] at h
  by_cases h1 : -(n : Int) <= i
  ·rw [if_pos h1] at h
   have e : (i + n).toNat = j := Option.some.inj h
   exact ⟨by rw [seqIndex_neg (by omega) h1, e], by omega, h1, by omega⟩
  ·rw [if_neg h1] at h; cases h
theorem aeQ {α : Type} {xs : List α} {i : Int} {v : α} (h : atI xs i = some v) : ∃ j, seqIndex? i xs.length = some j /\ xs[j]? = some v /\ j < xs.length /\ -(xs.length : Int) <= i /\ i < xs.length := by
 unfold atI at h
 cases e : ixN xs.length i with
 | none => rw [e] at h; cases h
 | some j =>
  rw [e] at h
  obtain ⟨h1, h2, h3, h4⟩ := aeP e
  exact ⟨j, h1, h, h2, h3, h4⟩
theorem aeR {α : Type} {xs : List α} {j : Nat} {v : α} (h : xs[j]? = some v) : atI xs (j : Int) = some v := by
 have hj : j < xs.length := (amU.mp h).1
 have e : ixN xs.length (j : Int) = some j := by
  unfold ixN
  rw [if_pos (by omega), if_pos (by omega)]; simp
 unfold atI; rw [e]; exact h
def aeS (b : Expr) : Prop := ∀ o i, subscripted b false o i = operate [o, i] (getItem o i)
def IxR (X : Cx) (r : R2) : Prop :=
 ∀ (value slice : Expr) (pins : List (Addr × Obj)) (s : Shared) (σ : St) (H : Hp) (x y : V) (v u : Value) (Q : VK), Inv X pins σ H s -> RelV x v -> RelV y u -> r x y H Q ->
  subscripted slice false v u = operate [v, u] (getItem v u) -> wpAny (model X.prog X.w) X.A (subscriptTail value slice v u) (EP X pins σ Q) X.xe s
def MtR (X : Cx) (id : String) (r : V -> List V -> Hp -> VK -> Prop) : Prop :=
 ∀ (pins : List (Addr × Obj)) (s : Shared) (σ : St) (H : Hp) (x : V) (xs : List V) (v : Value) (us : List Value) (Q : VK), Inv X pins σ H s -> RelV x v -> Vals xs us -> r x xs H Q ->
  wpAny (model X.prog X.w) X.A (call (.builtin id) (v :: us)) (EP X pins σ Q) X.xe s
section
variable {X : Cx} {a b : Expr} {ta tb : TE} {pos : Pos}
theorem z6 {r : R2} (hr : IxR X r) (ha : PE X a ta) (hb : PE X b tb) (hs : aeS b) : PE X (.Subscript a b pos) (tOp r ta tb) := by
 intro pins s σ H Q I h
 exact Subscript_ (akV ha hb I h fun v u s2 x y H2 I2 rx ry q => hr a b pins s2 σ H2 x y v u Q I2 rx ry q (hs _ _))
def af1 (K : amR) : R2 := fun x y H Q => ∃ p xs i v, x = .ref p /\ y = .int i /\ SqL K H p xs /\ atI xs i = some v /\ Q v H
def ak1 (K : amR) : R2 := fun x y H Q => ∃ p xs i v, x = .ref p /\ y = .int i /\ SqT K H p xs /\ atI xs i = some v /\ Q v H
theorem ai1 : IxR X (af1 X.K) := by
 intro value slice pins s σ H x y v u Q I rx ry h hs
 obtain ⟨p, xs, i, z, rfl, rfl, hq, he, q⟩ := h
 cases rx
 obtain ⟨t, rfl⟩ := ry
 obtain ⟨its, r, pl, hz⟩ := I.list hq
 obtain ⟨j, h1, h2, h3, h4, h5⟩ := aeQ he
 obtain ⟨w, ew, rw'⟩ := r.get h2
 have hl := r.length
 have hn := aaz
 have fin : EP X pins σ Q w s := ⟨z, H, I, rw', q⟩
 by_cases h0 : 0 <= i
 ·have hj : i.toNat = j := by
   rw [seqIndex_of h0 h5] at h1
   exact Option.some.inj h1
  exact item_listR pl.isList h0 (by omega) (by rw [hj]; simpa using ew) fin hs
 ·have hj : (i + (its.toArray.size : Int)).toNat = j := by
   rw [seqIndex_neg (by omega) h4] at h1
   rw [am4, <- hl]
   exact Option.some.inj h1
  exact subscriptTail_builtinR (x := w) pl.isList.typeIs slot_list_getitem.lookup
   (wpAny_getItem_list_neg (Q := fun r s' => r = w /\ EP X pins σ Q r s') pl.isList (by omega) (by rw [am4] <;> omega) (by omega) (by rw [hj]; simpa using ew) ⟨rfl, fin⟩) hs
theorem ak2 : IxR X (ak1 X.K) := by
 intro value slice pins s σ H x y v u Q I rx ry h hs
 obtain ⟨p, xs, i, z, rfl, rfl, hq, he, q⟩ := h
 cases rx
 obtain ⟨t, rfl⟩ := ry
 obtain ⟨its, r, pl, hz⟩ := I.tuple hq
 obtain ⟨j, h1, h2, h3, h4, h5⟩ := aeQ he
 obtain ⟨w, ew, rw'⟩ := r.get h2
 have hl := r.length
 have hn := aaz
 have fin : EP X pins σ Q w s := ⟨z, H, I, rw', q⟩
 exact subscriptTail_builtinR (x := w) pl.typeIs slot_tuple_getitem.lookup
  (getItem_tuple (j := j) (Q := fun r s' => r = w /\ EP X pins σ Q r s') pl (by omega) (by omega) (by rw [am4, <- hl]; exact h1) (by simpa using ew) ⟨rfl, fin⟩) hs
theorem adY (its : List Value) (n j : Nat) (u : Value) : aoU (·.setIfInBounds j u) { cls := .type "list", data := .seq its.toArray n } = { cls := .type "list", data := .seq (its.set j u).toArray n } := by
 simp [aoU]
theorem Inv.lst {pins : List (Addr × Obj)} {σ : St} {H : Hp} {s : Shared} {p : Addr} {xs : List V} (I : Inv X pins σ H s) (h : H p = some (.lst xs)) :
  ∃ (its : List Value) (n : Nat), Vals xs its /\ s.heap.get? p = some { cls := .type "list", data := .seq its.toArray n } /\ xs.length <= sizeLine := by
 obtain ⟨z, its, n, r, e⟩ := I.hok p _ h
 exact ⟨its, n, r, e, z⟩
theorem Inv.lstUpd {pins : List (Addr × Obj)} {σ : St} {H : Hp} {s : Shared} {p : Addr} {xs ys : List V} {its its' : List Value} {n n' : Nat} {f : Obj -> Obj} (I : Inv X pins σ H s) (h : H p = some (.lst xs))
  (ho : s.heap.get? p = some { cls := .type "list", data := .seq its.toArray n }) (hf : f { cls := .type "list", data := .seq its.toArray n } = { cls := .type "list", data := .seq its'.toArray n' }) (r : Vals ys its') (hz : ys.length <= sizeLine) (t : Nat) :
  Inv X pins σ (upd H p (.lst ys)) { s with heap := s.heap.update p f, toks := t } := by
 have e : (s.heap.update p f).get? p = some { cls := .type "list", data := .seq its'.toArray n' } := by
  rw [aoz f ho (by rw [hf] <;> rfl), hf]
 refine I.write (x := p) (e := p) (by rw [h]; trivial) (.inl rfl) (fun b u hb q => (anz _ _ (anU hb)).trans q) ⟨_, e⟩ ?_
 exact ⟨hz, its', n', r, e⟩
def aaA : V -> V -> V -> Hp -> (Hp -> Prop) -> Prop := fun o i v H Q => ∃ p xs k j, o = .ref p /\ i = .int k /\ H p = some (.lst xs) /\ ixN xs.length k = some j /\ Q (upd H p (.lst (xs.set j v)))
theorem set_list : aiU X aaA := by
 intro pins s σ H o i v ov iv u Q I ro ri rv h
 obtain ⟨p, xs, k, j, rfl, rfl, hp, hj, q⟩ := h
 cases ro
 obtain ⟨t, rfl⟩ := ri
 obtain ⟨its, n, r, ho, hz⟩ := I.lst hp
 obtain ⟨h1, h2, h3, h4⟩ := aeP hj
 have hl := r.length
 have hn := aaz
 have I' : Inv X pins σ (upd H p (.lst (xs.set j v))) { s with heap := s.heap.update p (aoU (·.setIfInBounds j u)) } :=
  I.lstUpd hp ho (adY its n j u) (r.set rv j) (by rw [aoo]; exact hz) s.toks
 by_cases h0 : 0 <= k
 ·have hk : k.toNat = j := by
   rw [seqIndex_of h0 h4] at h1
   exact Option.some.inj h1
  exact PySem.W.ki_setAt ho h0 (by omega) (by rw [am4, <- hl]; exact h4) (by rw [hk]; exact ⟨_, I', q⟩)
 ·have hk : (k + (its.toArray.size : Int)).toNat = j := by
   rw [seqIndex_neg (by omega) h3] at h1
   rw [am4, <- hl]
   exact Option.some.inj h1
  exact PySem.W.ki_setBack ho (by omega) (by rw [am4, <- hl]; exact h3) (by omega) (by rw [hk]; exact ⟨_, I', q⟩)
theorem abV (lo hi : Option Int) (n : Nat) : (sliceBounds lo hi none n).1 = ((HT.sIx n 0 lo : Nat) : Int) /\ (sliceBounds lo hi none n).2.1 = ((HT.sIx n n hi : Nat) : Int) /\ (sliceBounds lo hi none n).2.2 = 1 := by
 refine ⟨?_, ?_, rfl⟩
 ·cases lo with
  | none => simp [sliceBounds, HT.sIx]
  | some i =>
   simp only [sliceBounds, HT.sIx, Option.getD_none, show (1 : Int) > 0 by decide, if_true]
   by_cases h : i < 0
   ·simp only [h, if_true] <;> omega
   ·simp only [h, if_false] <;> omega
 ·cases hi with
  | none => simp [sliceBounds, HT.sIx]
  | some i =>
   simp only [sliceBounds, HT.sIx, Option.getD_none, show (1 : Int) > 0 by decide, if_true]
   by_cases h : i < 0
   ·simp only [h, if_true] <;> omega
   ·simp only [h, if_false] <;> omega
theorem aa5 (its : List Value) (lo hi : Option Int) : slicePick its.toArray lo hi none = ((its.drop (HT.sIx its.length 0 lo)).take (HT.sIx its.length its.length hi - HT.sIx its.length 0 lo)).toArray := by
 obtain ⟨h1, h2, h3⟩ := abV lo hi its.toArray.size
 unfold slicePick
 rw [h1, h2, h3]
 simp only [sliceRange_one, pick_run, am4] <;> rfl
def ai2 (K : amR) : V -> Option Int -> Option Int -> Hp -> VK -> Prop := fun x lo hi H Q => ∃ a xs, x = .ref a /\ SqL K H a xs /\ ∀ p, H p = none -> Q (.ref p) (upd H p (.lst (adX xs lo hi)))
theorem ai3 : SlR X (ai2 X.K) := by
 intro pins s σ H x v vl vu lo hi sl Q I rx hs pl pu h
 obtain ⟨a, xs, rfl, hx, q⟩ := h
 cases rx
 obtain ⟨its, r, ht, hz⟩ := I.list hx
 have hlen := r.length
 refine ⟨"list", _, slot_list_getitem.lookup, ht.isList.typeIs, ?_⟩
 refine wpAny_getItem_list_slice ht.isList hs pl pu .none (by simp) ?_ (by rw [am4] <;> omega)
 rw [aa5, <- hlen]
 refine ⟨.ref s.heap.objs.size, _, I.laid (t' := s.toks) (o := .lst (adX xs lo hi)) (fun b ob q => amW _ q) (amV _) ?_, rfl, q _ (I.hok.fresh (amV _))⟩
 exact ⟨ank (acP xs lo hi) hz, _, 0, (r.drop (HT.sIx xs.length 0 lo)).take (HT.sIx xs.length xs.length hi - HT.sIx xs.length 0 lo), anr _ rfl⟩
def vR : V -> Bool
 | .non => true
 | .bl _ => true
 | .int _ => true
 | .str _ => true
 | _ => false
def eqV : V -> V -> Bool
 | .non, .non => true
 | .bl a, .bl b => a == b
 | .bl a, .int b => (if a then 1 else 0) == b
 | .int a, .bl b => a == (if b then 1 else 0)
 | .int a, .int b => a == b
 | .str a, .str b => a == b
 | _, _ => false
theorem ak3 {A : Around} {s : Shared} {y x : V} {u v : Value} (ry : RelV y u) (rx : RelV x v) (fy : vR y = true) (fx : vR x = true) : SeqAt.EqAt A s u v (eqV y x) := by
 cases y with
 | non =>
  cases ry
  cases x with
  | non => cases rx; exact SeqAt.EqAt.same _
  | bl b => cases rx; exact SeqAt.EqAt.none_bool b
  | int b => obtain ⟨t, rfl⟩ := rx; exact SeqAt.EqAt.none_int b t
  | str b => obtain ⟨t, rfl⟩ := rx; exact SeqAt.EqAt.none_str b t
  | _ => exact absurd (show false = true from fx) amQ
 | bl a =>
  cases ry
  cases x with
  | non => cases rx; exact SeqAt.EqAt.bool_none a
  | bl b => cases rx; exact SeqAt.EqAt.bool_bool a b
  | int b => obtain ⟨t, rfl⟩ := rx; exact SeqAt.EqAt.bool_int a b t
  | str b => obtain ⟨t, rfl⟩ := rx; exact SeqAt.EqAt.bool_str a b t
  | _ => exact absurd (show false = true from fx) amQ
 | int a =>
  obtain ⟨t', rfl⟩ := ry
  cases x with
  | non => cases rx; exact SeqAt.EqAt.int_none a t'
  | bl b => cases rx; exact SeqAt.EqAt.int_bool a t' b
  | int b => obtain ⟨t, rfl⟩ := rx; exact SeqAt.EqAt.int_int a t' b t
  | str b => obtain ⟨t, rfl⟩ := rx; exact SeqAt.EqAt.int_str a t' b t
  | _ => exact absurd (show false = true from fx) amQ
 | str a =>
  obtain ⟨t', rfl⟩ := ry
  cases x with
  | non => cases rx; exact SeqAt.EqAt.str_none a t'
  | bl b => cases rx; exact SeqAt.EqAt.str_bool a t' b
  | int b => obtain ⟨t, rfl⟩ := rx; exact SeqAt.EqAt.str_int a t' b t
  | str b => obtain ⟨t, rfl⟩ := rx; exact SeqAt.EqAt.str_str a t' b t
  | _ => exact absurd (show false = true from fx) amQ
 | _ => exact absurd (show false = true from fy) amQ
def eqU (x : V) (u : Value) : Bool := match u with
 | .none => eqV .non x
 | .bool b => eqV (.bl b) x
 | .int i _ => eqV (.int i) x
 | .str z _ => eqV (.str z) x
 | _ => false
theorem ag1 {x y : V} {u : Value} (r : RelV y u) (f : vR y = true) : eqU x u = eqV y x := by
 cases y with
 | non => cases r; rfl
 | bl b => cases r; rfl
 | int i => obtain ⟨t, rfl⟩ := r; rfl
 | str z => obtain ⟨t, rfl⟩ := r; rfl
 | _ => exact absurd (show false = true from f) amQ
theorem abW {x : V} : ∀ {xs : List V} {us : List Value}, Vals xs us -> xs.all vR = true -> us.any (eqU x) = xs.any fun y => eqV y x
 | _, _, .nil, _ => rfl
 | y :: xs, u :: us, .cons r t, f => by
  rw [aqS, amX] at f
  rw [List.any_cons, List.any_cons, ag1 r f.1, abW t f.2]
theorem aaB {A : Around} {s : Shared} {x : V} {v : Value} (rx : RelV x v) (fx : vR x = true) : ∀ {xs : List V} {us : List Value}, Vals xs us -> xs.all vR = true -> ∀ u ∈ us, SeqAt.EqAt A s u v (eqU x u)
 | _, _, .nil, _ => fun u hu => by cases hu
 | y :: xs, u :: us, .cons r t, f => fun u' hu => by
  rw [aqS, amX] at f
  rcases am2.mp hu with rfl | hu
  ·rw [ag1 r f.1]; exact ak3 r rx f.1 fx
  ·exact aaB rx fx t f.2 u' hu
def inV (x : V) (xs : List V) : Bool := xs.any fun y => eqV y x
def rIn (K : amR) (neg : Bool) : R2 := fun x y H Q => ∃ p xs, y = .ref p /\ (SqL K H p xs \/ SqT K H p xs) /\ vR x = true /\ xs.all vR = true /\ Q (.bl (if neg then !inV x xs else inV x xs)) H
theorem abX : OpR X (compareOp .NotIn) (rIn X.K true) := by
 intro pins s σ H x y v u Q I rx ry h
 obtain ⟨p, xs, rfl, hq, fx, fs, q⟩ := h
 cases ry
 rcases hq with hq | hq
 ·obtain ⟨its, r, pl, hz⟩ := I.list hq
  refine SeqAt.notIn_listAt (eqU x) pl.isList (fun w hw => aaB rx fx r fs w (by simpa using hw)) ⟨.bl _, H, I, rfl, ?_⟩
  rw [show its.toArray.any (eqU x) = its.any (eqU x) by simp, abW r fs]
  exact q
 ·obtain ⟨its, r, pl, hz⟩ := I.tuple hq
  refine SeqAt.notIn_tupleAt (eqU x) pl (fun w hw => aaB rx fx r fs w (by simpa using hw)) ⟨.bl _, H, I, rfl, ?_⟩
  rw [show its.toArray.any (eqU x) = its.any (eqU x) by simp, abW r fs]
  exact q
theorem abY : yk X (.builtin "len") (fun xs H Q => ∃ p ys, xs = [.ref p] /\ (SqL X.K H p ys \/ SqT X.K H p ys) /\ Q (.int ys.length) H) := by
 intro pins s σ H xs us Q I r h
 obtain ⟨p, ys, rfl, hq, q⟩ := h
 obtain ⟨u, rfl, rx⟩ := vals1 r
 cases rx
 have hn := aaz
 rcases hq with hq | hq
 ·obtain ⟨its, r', pl, hz⟩ := I.list hq
  have hlen := r'.length
  exact Calls.call_len_list pl.isList (by simp only [am4] <;> omega) ⟨.int ys.length, H, I.tok _, ⟨s.toks + 1, by rw [am4, hlen]⟩, q⟩
 ·obtain ⟨its, r', pl, hz⟩ := I.tuple hq
  have hlen := r'.length
  exact len_tuple pl (by simp only [am4] <;> omega) ⟨.int ys.length, H, I.tok _, ⟨s.toks + 1, by rw [am4, hlen]⟩, q⟩
theorem abZ : yk X (.type "list") (fun xs H Q => ∃ p ys, xs = [.ref p] /\ (SqL X.K H p ys \/ SqT X.K H p ys) /\ ∀ l, H l = none -> Q (.ref l) (upd H l (.lst ys))) := by
 intro pins s σ H xs us Q I r h
 obtain ⟨p, ys, rfl, hq, q⟩ := h
 obtain ⟨u, rfl, rx⟩ := vals1 r
 cases rx
 have fin : ∀ (its : List Value), Vals ys its -> ys.length <= sizeLine -> ∀ (h' : Heap) (c' : Nat), (∀ b o', s.heap.get? b = some o' -> h'.get? b = some o') ->
   h'.get? s.heap.objs.size = some { cls := .type "list", dict := none, data := .seq its.toArray c', slots := #[] } -> EP X pins σ Q (.ref s.heap.objs.size) { s with heap := h' } := fun its r' hz h' c' kp e =>
  ⟨.ref s.heap.objs.size, _, I.laid (t' := s.toks) kp (amV _) (show ObjOk X.prog X.w _ h' _ (.lst ys) from ⟨hz, its, c', r', e⟩), rfl, q _ (I.hok.fresh (amV _))⟩
 rcases hq with hq | hq
 ·obtain ⟨its, r', pl, hz⟩ := I.list hq
  have hlen := r'.length
  obtain ⟨o, ho, hc, n, hd⟩ := pl.isList
  exact call_list_seq p (.inl rfl) ho hc hd (fun h' c' kp e => fin its r' hz h' c' kp e) (by simp only [am4] <;> omega)
 ·obtain ⟨its, r', pl, hz⟩ := I.tuple hq
  have hlen := r'.length
  obtain ⟨o, ho, hc, n, hd⟩ := pl
  exact call_list_seq p (.inr rfl) ho hc hd (fun h' c' kp e => fin its r' hz h' c' kp e) (by simp only [am4] <;> omega)
theorem aa6 : yk X (.type "tuple") (fun xs H Q => ∃ p ys, xs = [.ref p] /\ ((SqL X.K H p ys /\ ∀ l, H l = none -> Q (.ref l) (upd H l (.tup ys))) \/ (SqT X.K H p ys /\ Q (.ref p) H))) := by
 intro pins s σ H xs us Q I r h
 obtain ⟨p, ys, rfl, h⟩ := h
 obtain ⟨u, rfl, rx⟩ := vals1 r
 cases rx
 rcases h with ⟨hq, q⟩ | ⟨hq, q⟩
 ·obtain ⟨its, r', pl, hz⟩ := I.list hq
  have hlen := r'.length
  refine call_tuple_list pl.isList (fun h' kp => ?_) (by simp only [am4] <;> omega)
  have I1 : Inv X pins σ H { s with heap := h' } := I.kept (t' := s.toks) kp
  have I2 : Inv X pins σ (upd H h'.objs.size (.tup ys)) { s with heap := h'.push { cls := .type "tuple", data := .seq its.toArray } } :=
   I1.laid (t' := s.toks) (fun b o e => amW _ e) (amV _) (show ObjOk X.prog X.w _ _ _ (.tup ys) from ⟨hz, its, r', IsTup.new _ _⟩)
  exact ⟨.ref h'.objs.size, _, I2, rfl, q _ (I1.hok.fresh (amV _))⟩
 ·obtain ⟨its, r', pl, hz⟩ := I.tuple hq
  exact call_tuple_same pl ⟨.ref p, H, I, rfl, q⟩
def tyV (K : amR) (T : String) (x : V) (H : Hp) : Prop := match x with
 | .str _ => T = "str"
 | .int _ => T = "int"
 | .ref p => (T = "list" /\ ∃ xs, SqL K H p xs) \/ (T = "tuple" /\ ∃ o, K.lookup p = some o /\ o.cls = .type "tuple" /\ o.dict = none) \/
   (T = "dict" /\ ((∃ kvs, H p = some (.dK kvs)) \/ ∃ kvs, H p = some (.dT kvs))) \/ (T = "set" /\ ∃ S n, H p = some (.set S n))
 | _ => False
theorem ak4 {pins : List (Addr × Obj)} {σ : St} {H : Hp} {s : Shared} {T : String} {x : V} {v : Value} (I : Inv X pins σ H s) (r : RelV x v) (ty : tyV X.K T x H) :
  s.TypeIs v T /\ ∀ a, v = .ref a -> ∃ ob, s.heap.get? a = some ob /\ ob.dict = none := by
 cases x with
 | str z =>
  obtain ⟨t, rfl⟩ := r
  cases (show T = "str" from ty)
  exact ⟨typeIs_str s z t, fun _ e => nomatch e⟩
 | int i =>
  obtain ⟨t, rfl⟩ := r
  cases (show T = "int" from ty)
  exact ⟨typeIs_int s i t, fun _ e => nomatch e⟩
 | ref p =>
  cases r
  rcases ty with ⟨rfl, xs, hq⟩ | ⟨rfl, o, hk, hc, hd⟩ | ⟨rfl, hk⟩ | ⟨rfl, S, n, hk⟩
  ·obtain ⟨its, _, pl, _⟩ := I.list hq
   refine ⟨pl.isList.typeIs, fun a e => ?_⟩
   cases e
   obtain ⟨o, n, e, c, hd, _⟩ := pl
   exact ⟨o, e, hd⟩
  ·refine ⟨⟨o, I.kIn p o hk, hc⟩, fun a e => ?_⟩
   cases e
   exact ⟨o, I.kIn _ o hk, hd⟩
  ·have z : ∃ o, s.heap.get? p = some o /\ o.ExactDict := by
    rcases hk with ⟨kvs, hk⟩ | ⟨kvs, hk⟩
    ·obtain ⟨_, _, _, _, o, _, _, e, ex, _⟩ := I.hok p _ hk
     exact ⟨o, e, ex⟩
    ·obtain ⟨_, _, _, _, o, _, _, e, ex, _⟩ := I.hok p _ hk
     exact ⟨o, e, ex⟩
   obtain ⟨o, e, ex⟩ := z
   refine ⟨⟨o, e, ex.1⟩, fun a e2 => ?_⟩
   cases e2
   exact ⟨o, e, ex.2.1⟩
  ·obtain ⟨o, _, _, _, e, ex, _⟩ := I.hok p _ hk
   refine ⟨⟨o, e, ex.1⟩, fun a e2 => ?_⟩
   cases e2
   exact ⟨o, e, ex.2.1⟩
 | _ => exact anN ty
def tBM (K : amR) (T : String) (r : V -> List V -> Hp -> VK -> Prop) (to : TE) (t : TA) : TE := fun σ H Q => to σ H fun x H1 => tyV K T x H1 /\ t σ H1 fun xs H2 => r x xs H2 Q
variable {o e : Expr} {es : List Expr} {to : TE} {t : TA} {name : Str} {apos cpos : Pos} {T id : String} {r : V -> List V -> Hp -> VK -> Prop}
theorem akm (pa : PlainAttrs T) (slot : Slot T name id) (hty : typeOf (.builtin id) = pure (.type "method_descriptor")) (hm : MtR X id r) (ho : PE X o to) (ha : PA X (e :: es) t)
  (hbase : attributeBase o name X.env (eval o X.env) = eval o X.env := by rfl)
  (hfew : ((backTo cpos (starEach (e :: es) X.env)).all (fun x => !x.1) && (backToKw cpos (keywordEach [] X.env)).all (fun x => x.1.isSome)
   && decide ((e :: es).length + ([] : List Keyword).length + (if ([] : List Keyword).isEmpty then 0 else 1) < 30)) = true := by rfl)
  (hline : (apos.endLine == cpos.line) = true := by rfl) (hs : starEach (e :: es) X.env = (false, eval e X.env) :: starEach es X.env := by rfl) (hplain : (backTo cpos (starEach es X.env)).any (·.1) = false := by rfl) :
  PE X (.Call (.Attribute o name apos) (e :: es) [] cpos) (tBM X.K T r to t) := by
 intro pins s σ H Q I h
 refine wpAny_Call_method_late hbase hfew hline rfl (thn (ho pins s σ H _ I h) fun v s1 ⟨x, H1, I1, r1, ty, q1⟩ => ?_)
 obtain ⟨h1, h2⟩ := ak4 I1 r1 ty
 refine ⟨T, id, pa, slot, hty, h1, h2, ?_⟩
 have hA := ha cpos pins s1 σ H1 _ I1 q1
 rw [hs] at hA ⊢
 refine aqi (by show (false || (backTo cpos (starEach es X.env)).any (·.1)) = false; rw [hplain] <;> rfl) (apC ?_)
 exact thn hA fun us s2 ⟨vs, H2, I2, r2, q2⟩ => hm pins s2 σ H2 x vs v us Q I2 r1 r2 q2
/- xs.append(e), list.index on a module's tuple .. are MtR facts of 06m -/
end
end L2
namespace L2
open PySem PySem.Spec PyProof.Rows
def MtM (X : Cx) (id : String) (r : V -> List V -> Hp -> VK -> Prop) : Prop :=
 ∀ (pins : List (Addr × Obj)) (s : Shared) (σ : St) (H : Hp) (x : V) (xs : List V) (v : Value) (us : List Value) (Q : VK), Inv X pins σ H s -> RelV x v -> Vals xs us -> r x xs H Q ->
  wpAny (model X.prog X.w) X.A (call (.builtin id) (v :: us)) (EP X pins σ Q) X.xe s
theorem Vals.one : ∀ {x : V} {us : List Value}, Vals [x] us -> ∃ u, us = [u] /\ RelV x u
 | _, _, .cons r .nil => ⟨_, rfl, r⟩
section
variable {X : Cx} {pins : List (Addr × Obj)} {σ : St} {H : Hp} {s : Shared} {l b : Addr} {xs ys zs : List V}
theorem Inv.lset {its its' : List Value} {n : Nat} {f : Array Value -> Array Value} {t' : Nat} (I : Inv X pins σ H s) (hH : H l = some (.lst xs))
  (e : s.heap.get? l = some { cls := .type "list", data := .seq its.toArray n }) (hf : f its.toArray = its'.toArray) (hv : Vals ys its') (hz : ys.length <= sizeLine) :
  Inv X pins σ (upd H l (.lst ys)) { s with heap := s.heap.update l (aoU f), toks := t' } := by
 have q := PySem.IsL.update e f
 rw [hf] at q
 refine I.write (x := l) (e := l) (by rw [hH]; exact trivial) (.inl rfl) (fun b' u hb hu => (anz s.heap (aoU f) (anU hb)).trans hu) ⟨_, q⟩ ?_
 exact ⟨hz, its', _, hv, q⟩
theorem Inv.lnew {its : List Value} {t' : Nat} (I : Inv X pins σ H s) (hv : Vals ys its) (hz : ys.length <= sizeLine) :
  Inv X pins σ (upd H s.heap.objs.size (.lst ys)) { s with heap := s.heap.push { cls := .type "list", data := .seq its.toArray }, toks := t' } :=
 I.laid (fun _ _ q => amW _ q) (amV _) ⟨hz, its, 0, hv, anr _ rfl⟩
theorem Inv.fresh (I : Inv X pins σ H s) : H s.heap.objs.size = none := I.hok.fresh (amV _)
theorem Inv.lstM (I : Inv X pins σ H s) (hH : H l = some (.lst xs)) : xs.length <= sizeLine /\ ∃ (its : List Value) (n : Nat), Vals xs its /\ xs.length = its.length /\ s.heap.get? l = some { cls := .type "list", data := .seq its.toArray n } := by
 obtain ⟨z, its, n, r, e⟩ := I.hok l _ hH
 exact ⟨z, its, n, r, r.length, e⟩
end
section
variable {X : Cx}
def aeT : V -> List V -> Hp -> VK -> Prop := fun x vs H Q => ∃ l xs y, x = .ref l /\ vs = [y] /\ H l = some (.lst xs) /\ xs.length < sizeLine /\ Q .non (upd H l (.lst (xs ++ [y])))
theorem abt : MtM X "list.append" aeT := by
 intro pins s σ H x vs v us Q I rx rv h
 obtain ⟨l, xs, y, rfl, rfl, hH, hz, q⟩ := h
 cases rx
 obtain ⟨u, rfl, ru⟩ := rv.one
 obtain ⟨z, its, n, r, hl, e⟩ := I.lstM hH
 refine call_meets F.slot_list_append ⟨_, e, rfl⟩ aqL (aqy _ _) (PySem.list_append l its.toArray n u (by rw [am4]; omega)) ⟨e, ?_⟩
 refine ⟨.non, _, I.lset (its' := its ++ [u]) hH e (by simp) (r.append (.cons ru .nil)) ?_, rfl, q⟩
 rw [am9, anD]
 omega
end
end L2
namespace Att
open PySem PySem.W PySem.Calls PyProof.Rows
theorem v8 {P : Params} {h : Heap} : ∀ (ns : List Int) (vs : List Value), WellAll P h vs (ns.map WData.int) -> IntsAre vs ns := by
 intro ns
 induction ns with
 | nil =>
  intro vs w
  rw [apO] at w
  cases w
  exact .nil
 | cons n ns ih =>
  intro vs w
  rw [anh] at w
  cases w with
  | cons a b =>
   cases a
   exact .cons _ _ (ih _ b)
theorem af2 {l : OpenLaw} {n : Nat} (hn : l.most = some n) {P : Params} {h : Heap} {args : List WData} {vals : List Value}
  (hpre : l.row.toRowW.claim.pre args = true) (hwl : WellAll P h vals args) :
  ∃ a vs ns, vals = [Value.ref a] /\ args = [WData.list (ns.map WData.int)] /\ h.get? a = some { cls := .type "list", data := .seq vs.toArray } /\ IntsAre vs ns /\ ns.length <= n := by
 have hsh : WShape.hasAll [] args [.list .int] = true := (pre_splitW hpre).1
 have hc : l.pre.holds [] { args := args } = true := (pre_splitW hpre).2
 obtain ⟨d, r, rfl, h1, h2⟩ := hasAllW_cons hsh
 obtain rfl := hasAllW_nil h2
 obtain ⟨xs, rfl, h3⟩ := hasW_list h1
 obtain ⟨ns, rfl⟩ := items_int h3
 have hlen : ns.length <= n := by
  unfold OpenLaw.pre at hc
  have h4 : (WTm.not (.lt (.lit (.int (n : Int))) (.len (.arg 0)))).holds [] { args := [.list (ns.map .int)] } = true := by
   have h4 := (holds_andW hc).1
   rw [hn] at h4
   exact h4
  have h5 := condW_of h4 (w_not (w_lt w_lit (w_len_list (w_arg rfl))))
  rw [amT] at h5
  refine Nat.le_of_not_lt fun q => ?_
  have q' : (n : Int) < ((ns.length : Nat) : Int) := by omega
  first
   | (rw [decide_eq_true q'] at h5; exact absurd h5 (by decide))
   | (simp at h5; omega)
 cases hwl with
 | cons w1 w2 =>
  cases w2
  cases w1 with
  | list ho hall => exact ⟨_, _, ns, rfl, rfl, ho, v8 ns _ hall, hlen⟩
theorem af3 (l : OpenLaw) (args : List WData) : l.row.toRowW.claim.post args (.bool true) args = true :=
 postW_of (r := l.row.toRowW) (X := (true == true))
  (show WShape.has [] (.bool true) .bool = true by first | rfl | decide | simp [WShape.has, WShape.arms, WShape.armsAll])
  (show (WTm.eq .res (.lit (.bool true))).value [] { args := args, res := some (.bool true), after := args } = some (.bool (true == true)) from w_eq_bool (w_res rfl) w_lit) rfl
theorem attach_call {l : OpenLaw} {n : Nat} {q : Program} {loose : List Str} {XP : (Str -> Option Value) -> Heap -> Prop} {YP : World -> Heap -> Prop} {d : DefRec}
  (hn : l.most = some n) (hdf : d.params.defaults = [])
  (call : ∀ (w : World) (s₀ s₁ : Shared) (mg mb : Str -> Option Value) (fa : Addr) (o : Obj) (pm cd doc : Value) (a : Addr) (vs : List Value) (ns : List Int),
   Ground q loose [] XP w s₀ mg mb s₁.heap -> YP w s₁.heap ->
   s₁.heap.get? fa = some o -> o.data = .func (docDef d.name d.params d.body d.scope pm cd doc) -> s₁.heap.CodeRec cd d.name -> mg d.name = some (.ref fa) ->
   s₁.heap.get? a = some { cls := .type "list", data := .seq vs.toArray } -> IntsAre vs ns -> ns.length <= n -> s₁.gens = #[] ->
   codeAny (model l.prog w) callerA (.call (.ref fa) ⟨[.ref a], []⟩) (fun r s' => r = .ok (.ret (.bool true)) /\ OldK s₁.heap s'.heap /\ s'.os = s₁.os /\ AllBare s'.gens) s₁) :
  WalkO q loose XP YP l.row.toRowW d [] (fun f vs => PySem.call f vs) := by
 intro w s₀ s₁ mg mb G Y fa o pm cd doc dV kV ho hd hcd hD hmg hg args vals as hpre hlay hrd hwl hlo
 obtain rfl : dV = .none := Dflts.none hD hdf
 obtain rfl : kV = .none := Dflts.noKw hD
 obtain ⟨a, vs, ns, rfl, rfl, hobj, hints, hlen⟩ := af2 hn hpre hwl
 refine enter_call (codeAny_mono (call w s₀ s₁ mg mb fa o pm cd doc a vs ns G Y ho (fd_plain hd) hcd hmg hobj hints hlen hg) fun r s' hq => ?_)
 obtain ⟨rfl, h2, h3, h4⟩ := hq
 exact ⟨.inl ⟨.bool true, .bool true, [], rfl, fun _ => rfl, .bool true, af3 l _, fun _ => ⟨List.Pairwise.nil, fun _ hm => (nomatch hm)⟩⟩, h2, h3, h4⟩
section
variable {prog : Program} {w : World} {A : Around} {E : Value -> Shared -> Prop} {s : Shared} {K : Frag}
end
end Att
namespace L2
open PySem PySem.Spec PyProof.Rows
theorem abu : ∀ {vs : List Value} {ns : List Int}, IntsAre vs ns -> Vals (ns.map V.int) vs
 | _, _, .nil => .nil
 | _, _, .cons n t h => .cons ⟨t, rfl⟩ (abu h)
def ak5 (H : Hp) : Prop := ∀ b, H b = none \/ ∃ o xs, H b = some (.frz o (.lst xs))
theorem ag2 {P : Program} {w : World} {K : amR} {mg mb : Str -> Option Value} {CX : CXT} {k : Nat} {fa a : Addr} {fd : FuncData} {x : Str} {sp : Sp} {s₁ : Shared} {vs : List Value} {ns : List Int}
  (KX : K.In s₁.heap) (hns : s₁.heap.Ns mainGlobals mg) (hb : s₁.heap.Ns builtinsNs mb) (hbb : ∀ x : Str, x ≠ "__name__" -> mb x = bootBuiltins x) (hlim : s₁.heap.NoLimit) (hg : s₁.gens = #[])
  (ha : s₁.heap.get? a = some { cls := .type "list", data := .seq vs.toArray }) (hi : IntsAre vs ns) (hl : ns.length <= sizeLine) (hr : Room k callerA)
  (F : ∀ base : Heap, K.In base -> base.Ns mainGlobals mg -> FnOk P w K mg base CX k fa fd [x] sp) (hbind : ∀ (s : Shared) (u : Value), BindsTo s fd ⟨[u], []⟩ [(x, u)])
  (hsp : ∀ H : Hp, ak5 H -> SqL K H a (ns.map V.int) -> sp [.ref a] H (fun v _ => v = .bl true) fun _ _ _ => False)
  (hCX : ∀ H e s', CX [] H s₁ (fun _ _ _ => False) e s' -> False) :
  codeAny (model P w) callerA (.call (.ref fa) ⟨[.ref a], []⟩) (fun r s' => r = .ok (.ret (.bool true)) /\ OldK s₁.heap s'.heap /\ s'.os = s₁.os /\ AllBare s'.gens) s₁ := by
 have rv := abu hi
 have lenV := hi.length
 -- from an abstract heap in which nothing but the script may be tracked
 have core : ∀ H : Hp, ak5 H -> SqL K H a (ns.map V.int) -> HOk P w H s₁.heap -> (∀ b, H b ≠ none -> b = a) -> (H a ≠ none -> K.lookup a = none) ->
   codeAny (model P w) callerA (.call (.ref fa) ⟨[.ref a], []⟩) (fun r s' => r = .ok (.ret (.bool true)) /\ OldK s₁.heap s'.heap /\ s'.os = s₁.os /\ AllBare s'.gens) s₁ := by
  intro H hO hS hok hA hK
  have base_of : ∀ {b : Addr} {o : Obj}, s₁.heap.get? b = some o -> H b = none -> (abR s₁.heap H).get? b = some o := fun e n => agR e n
  have noA : ∀ {b : Addr} {o : Obj} {es : Array DictEntry} {ep : Nat}, s₁.heap.get? b = some o -> o.data = .dict es ep -> H b = none := fun {b o es ep} e d => by
   cases q : H b with
   | none => rfl
   | some u =>
    have e' : b = a := hA b (by rw [q]; simp)
    subst e'
    rw [ha] at e; cases e
    have d' : Data.seq vs.toArray _ = Data.dict es ep := d
    cases d'
  have nsK : ∀ {b : Addr} {m : Str -> Option Value}, s₁.heap.Ns b m -> (abR s₁.heap H).Ns b m := fun {b m} ⟨o, es, ep, e, d, r⟩ => ⟨o, es, ep, base_of e (noA e d), d, r⟩
  have hKb : K.In (abR s₁.heap H) := fun b o e => base_of (KX b o e) (by
   cases q : H b with
   | none => rfl
   | some u =>
    have e' : b = a := hA b (by rw [q]; simp)
    subst e'
    rw [hK (by rw [q]; simp)] at e; cases e)
  have hM : Mod K mg (abR s₁.heap H) := ⟨hKb, nsK hns, ⟨mb, nsK hb, hbb⟩, let ⟨mc, h1, h2⟩ := hlim; ⟨mc, nsK h1, h2⟩⟩
  have e0 : Env0 P w K mg (abR s₁.heap H) callerA [] s₁ H := ⟨rfl, hM, fun b o e => aiQ e, aoX (afW _ _), trivial, fun b hb => absurd (show b ∈ ([] : List Addr) from hb) (by simp), hok, .of_eq hg⟩
  refine codeAny_mono ((F _ hKb (nsK hns)).run callerA [] s₁ H ⟨[.ref a], []⟩ [.ref a] [.ref a] _ _ hr e0 (hbind s₁ (.ref a)) (.cons rfl .nil) (hsp H hO hS)) fun r s' h => ?_
  cases r with
  | error e => exact (hCX H e s' h).elim
  | ok fl =>
   cases fl with
   | next => exact anN h
   | brk => exact anN h
   | cont => exact anN h
   | ret u =>
    obtain ⟨v, H', os, bare, un, hok', r', q⟩ := h
    have q' : v = .bl true := q
    subst q'
    obtain rfl : u = Value.bool true := r'
    refine ⟨rfl, OldK.of_keep fun b o e => ?_, os, bare⟩
    cases q : H b with
    | none => exact un.keep b o e q (by intro z; exact absurd (show b ∈ ([] : List Addr) from z) (by simp)) (by simp)
    | some u =>
     rcases hO b with z | ⟨ob, xs, z⟩
     ·rw [q] at z; cases z
     ·have z2 := un.frzs b ob _ z
      obtain ⟨e1, _⟩ := hok b _ z
      obtain ⟨e2, _⟩ := hok' b _ z2
      rw [e] at e1; cases e1
      exact e2
 cases hk : K.lookup a with
 | some o =>
  -- the script is one of the module's own objects
  have e := KX a o hk
  rw [ha] at e
  cases e
  refine core (fun _ => none) (fun _ => .inl rfl) (.inr ⟨_, vs.toArray, _, hk, rfl, rfl, rfl, by rw [am4, lenV]; exact hl, by simpa using rv⟩) (fun b u z => by have z' : (none : Option HO) = some u := z; cases z') (fun b z => absurd rfl z) fun z => absurd rfl z
 | none =>
  refine core (fun b => if b = a then some (.frz { cls := .type "list", data := .seq vs.toArray } (.lst (ns.map V.int))) else none) (fun b => ?_) (.inl (.inr ⟨{ cls := .type "list", data := .seq vs.toArray }, if_pos rfl⟩)) (fun b u z => ?_) (fun b z => ?_) fun _ => hk
  ·by_cases hb : b = a
   ·exact .inr ⟨_, _, if_pos hb⟩
   ·exact .inl (if_neg hb)
  ·by_cases hb : b = a
   ·have z' := (if_pos hb).symm.trans z
    cases z'
    subst hb
    exact ⟨ha, by rw [amT]; exact hl, vs, _, rv, ha⟩
   ·have z' := (if_neg hb).symm.trans z
    cases z'
  ·by_cases hb : b = a
   ·exact hb
   ·exact absurd (if_neg hb) z
end L2
namespace L2
open PySem PySem.Spec PyProof.Rows
abbrev KOf {K : amR} {h : Heap} (_ : K.In h) : amR := K
theorem walk_of {l : PySem.W.OpenLaw} {n k : Nat} {q : Program} {loose : List Str} {XP : (Str -> Option Value) -> Heap -> Prop} {YP : World -> Heap -> Prop} {d : DefRec} {K : Params -> amR} {CX : World -> CXT} {sp : World -> Sp} {x : Str}
  (hn : l.most = some n) (hn2 : n <= sizeLine) (hdf : d.params.defaults = []) (hr : Room k callerA)
  (hY : ∀ (w : World) (h : Heap), YP w h -> (K w.params).In h)
  (F : ∀ (w : World) (mg : Str -> Option Value) (fa : Addr) (h : Heap), (K w.params).In h -> h.Ns mainGlobals mg -> mg d.name = some (.ref fa) ->
   ∃ fd : FuncData, (∀ (s : Shared) (u : Value), BindsTo s fd ⟨[u], []⟩ [(x, u)]) /\
    ∀ base : Heap, (K w.params).In base -> base.Ns mainGlobals mg -> FnOk l.prog w (K w.params) mg base (CX w) k fa fd [x] (sp w))
  (hsp : ∀ (w : World) (H : Hp) (a : Addr) (ns : List Int), ns.length <= n -> ak5 H -> SqL (K w.params) H a (ns.map V.int) -> sp w [.ref a] H (fun v _ => v = .bl true) fun _ _ _ => False)
  (hCX : ∀ (w : World) (H : Hp) (s : Shared) (e : Value) (s' : Shared), CX w [] H s (fun _ _ _ => False) e s' -> False) :
  PySem.W.WalkO q loose XP YP l.row.toRowW d [] (fun f vs => PySem.call f vs) := by
 refine Att.attach_call hn hdf fun w s₀ s₁ mg mb fa o pm cd doc a vs ns G Y ho hd hcd hmg hobj hints hlen hg => ?_
 have KX := hY w _ Y
 obtain ⟨fd, hb, hF⟩ := F w mg fa _ KX G.T.g hmg
 exact ag2 KX G.T.g G.T.b G.T.builtins G.T.nolimit hg hobj hints (ank hlen hn2) hr hF hb (fun H hO hS => hsp w H a ns hlen hO hS) fun H e s' => hCX w H s₁ e s'
end L2
/- THE LAST THEOREM (shape; LID, My.* are yours):
   My.Adr: a structure of the addresses that your layer names (classes, functions); My.Txt K t: a structure (Prop) of the equations over K;
   My.txt_mk : {K} {implicit addresses ..} (e1 : nsIn K mainGlobals "law" = some (some (.ref f))) (e2 : K.lookup f = some ⟨oc, od, .func (fnOf "law" "law" params body scope dV kV doc pm an cdv ct), sl⟩) (e3 : codeIn K cdv "law" = true) .. : ∃ t, My.Txt K t
set_option maxRecDepth 100000 in
set_option maxHeartbeats 0 in
theorem PySem.Challenge.cw_LID_holds : PySem.Challenge.rw_LID.Holds := by
 w_on; o_law; k_head; (case hw => w_witness2)
 k_fill
 refine L2.walk_of (l := PySem.Challenge.rw_LID) (n := 63) (k := 40) (x := "script") (CX := fun w => ..) (sp := fun _ => My.sp_law) rfl (by decide) rfl ⟨rfl, by decide, by decide⟩ (fun w h Y => PySem.W.kIn_of Y) ?F ?S ?C
 case F =>
  intro w mg fa h KX G hmg
  have T : ∃ t, My.Txt (L2.KOf KX) t := by
   dsimp only [L2.KOf]                          -- K must stand as «<heap const> w.params» for k_is
   refine' My.txt_mk ?e1 ?e2 ?e3 ..
   (case e1 => PySem.W.k_is)                    -- in the order: a name -> its address -> its object -> its parts
   (case e2 => PySem.W.k_is)
   ..
  obtain ⟨t, T⟩ := T
  have e0 := hmg.symm.trans (anv KX G T.law)
  cases e0                                       -- fa is the law's own address
  exact ⟨_, fun s u => .of_eq rfl, fun base kb nb => My.law_fn T kb nb⟩     -- if «.of_eq rfl» comes too early: refine' ⟨_, ?b, fun base kb nb => My.law_fn T kb nb⟩; exact fun s u => .of_eq rfl
 case S => exact fun w H a ns hl hO hS => ..
 case C => exact ..
(the tactic k_is has no namespace: write k_is) -/
namespace L2
open PySem PySem.Spec PyProof.Rows
def jT (s : Stmt) : Arguments := match s with
 | .FunctionDef _ a _ _ _ _ _ _ _ _ => a
 | _ => { posonlyargs := [], args := [], vararg := none, kwonlyargs := [], kw_defaults := [], kwarg := none, defaults := [] }
def yq (s : Stmt) : List Stmt := match s with
 | .FunctionDef _ _ b _ _ _ _ _ _ _ => b
 | _ => []
def zh (s : Stmt) : Scope := match s with
 | .FunctionDef _ _ _ _ _ _ sc _ _ _ => sc
 | _ => { kind := .function, names := [], isGenerator := false, isCoroutine := false }
abbrev CX0 : CXT := fun _ _ _ _ _ _ => False
abbrev E0 : XK := fun _ _ _ => False
theorem amc {X : Cx} : Passes CX0 X E0 := fun _ _ _ _ _ _ _ h => h.elim
structure Fun (K : amR) (x qual : Str) (st : Stmt) (f : Addr) (fd : FuncData) : Prop where
 ex : ∃ (oc : Value) (od : Option Addr) (kV doc pm : Value) (an : Option Addr) (cdv ct : Value) (osl : Array (Option Value)),
  fd = aok x qual (jT st) (yq st) (zh st) .none kV doc pm an cdv ct /\ K.lookup f = some ⟨oc, od, .func fd, osl⟩ /\ ape K cdv qual = true
 kp : anH K (.ref f) = true
section
variable {P : Program} {w : World} {K : amR} {mg : Str -> Option Value} {base : Heap}
theorem Fun.ok {x qual : Str} {st : Stmt} {f : Addr} {fd : FuncData} {N ps : List Str} {k : Nat} {sp : Sp} (F : Fun K x qual st f fd) (S : FnScope N ps (zh st)) (len : ∀ vs H Q E, sp vs H Q E -> vs.length = ps.length)
  (hbody : ∀ (cdv : Value) (A : Around) (outer : List Env) (s : Shared) (H : Hp) (vs : List V) (Q : VK) (E : XK), Room k (A.deeper (envOfC qual (zh st) s.heap.objs.size f cdv)) -> sp vs H Q E ->
   ∃ t, PSs (zM CX0 P w K mg base N qual (zh st) f cdv A outer s H E).nox (yq st) t /\ t { nx := fun _ H' => Q .non H', rt := Q } (start N vs) H) : FnOk P w K mg base CX0 (k + 1) f fd ps sp := by
 obtain ⟨oc, od, kV, doc, pm, an, cdv, ct, osl, rfl, lk, hcd⟩ := F.ex
 refine akk lk hcd S len fun A outer s H vs Q E hr hsp => ?_
 obtain ⟨t, h, q⟩ := hbody cdv A outer s H vs Q E hr hsp
 exact ⟨t, h.nox, q⟩
theorem Fun.binds {x qual : Str} {st : Stmt} {f : Addr} {fd : FuncData} {ps : List Str} (F : Fun K x qual st f fd)
  (h : ∀ (kV doc pm : Value) (an : Option Addr) (cdv ct : Value) (us : List Value), us.length = ps.length -> bindArgs (aok x qual (jT st) (yq st) (zh st) .none kV doc pm an cdv ct) ⟨us, []⟩ = pure (ps.zip us)) : Binds K fd ps [] := by
 obtain ⟨oc, od, kV, doc, pm, an, cdv, ct, osl, rfl, lk, hcd⟩ := F.ex
 exact .all (h kV doc pm an cdv ct)
theorem adZ {x qual : Str} {st : Stmt} {f : Addr} {oc : Value} {od an : Option Addr} {osl : Array (Option Value)} {kV doc pm cdv ct : Value} (l : K.lookup f = some ⟨oc, od, .func (aok x qual (jT st) (yq st) (zh st) .none kV doc pm an cdv ct), osl⟩)
  (c : ape K cdv qual = true) (k : anH K (.ref f) = true) : Fun K x qual st f (aok x qual (jT st) (yq st) (zh st) .none kV doc pm an cdv ct) := ⟨⟨oc, od, kV, doc, pm, an, cdv, ct, osl, rfl, l, c⟩, k⟩
end
theorem yg {n : Nat} (h : n <= 1000) : n < sizeLine := apb h (by decide)
section
variable {X : Cx}
theorem pv (i : Nat) {x : Str} {pos : Pos} (hN : X.N[i]? = some x := by rfl) (hv : Vis X.env.scope x := by first | exact Or.inl rfl | exact Or.inr (Or.inl rfl) | exact Or.inr (Or.inr rfl)) (hd : (x == ("__debug__" : Str)) = false := by decide)
  (hcd : (x == ("__classdict__" : Str)) = false := by decide) : PE X (.Name x pos) (yn i) := akN hN hv hd hcd
end
def Same (H H' : Hp) : Prop := ∀ b o, H b = some o -> H' b = some o
theorem Same.refl (H : Hp) : Same H H := fun _ _ h => h
theorem Same.trans {H H1 H2 : Hp} (a : Same H H1) (b : Same H1 H2) : Same H H2 := fun c o h => b c o (a c o h)
theorem Same.free {H H' : Hp} (e : Same H H') {l : Addr} (h : H' l = Option.none) : H l = Option.none := by
 cases q : H l with
 | none => rfl
 | some o =>
  rw [e l o q] at h
  cases h
theorem Same.seq {K : amR} {H H' : Hp} {a : Addr} {xs : List V} (e : Same H H') (h : SqL K H a xs) : SqL K H' a xs := by
 rcases h with (h | ⟨o, h⟩) | h
 ·exact .inl (.inl (e _ _ h))
 ·exact .inl (.inr ⟨o, e _ _ h⟩)
 ·exact .inr h
def z8 (env : Env) : List (Str × NameKind) -> List (Str × Addr) -> List (Str × Addr)
 | [], acc => acc
 | (x, k) :: r, acc => if k == .free then z8 env r ((x, (env.cells.lookup x).getD 0) :: acc) else z8 env r acc
theorem ad0 {sc : Scope} {env : Env} (h : ∀ x, (x, NameKind.free) ∈ sc.names -> ∃ c, env.cells.lookup x = some c) : closureFor sc env = pure (z8 env sc.names []) := by
 have key : ∀ (names : List (Str × NameKind)) (acc : List (Str × Addr)), (∀ x, (x, NameKind.free) ∈ names -> ∃ c, env.cells.lookup x = some c) ->
   (forIn names acc fun (x : Str × NameKind) (cs : List (Str × Addr)) => if (x.2 == NameKind.free) = true then (do let c <- cellOf env x.1; pure (ForInStep.yield ((x.1, c) :: cs))) else pure (ForInStep.yield cs)) = (pure (z8 env names acc) : Sem (List (Str × Addr))) := by
  intro names
  induction names with
  | nil => intro acc _; rfl
  | cons p r ih =>
   intro acc hh
   obtain ⟨x, k⟩ := p
   rw [ao8]
   unfold z8
   by_cases hk : (k == NameKind.free) = true
   ·have hk' : k = .free := by simpa using hk
    subst hk'
    obtain ⟨c, hc⟩ := hh x am6
    simp only [beq_self_eq_true, if_true]
    rw [<- ih _ fun y hy => hh y (amY _ hy)]
    have : cellOf env x = pure c := by unfold cellOf; rw [hc]
    rw [this, hc]
    rfl
   ·simp only [hk, anw, if_false]
    rw [<- ih _ fun y hy => hh y (amY _ hy)]
    rfl
 simp only [closureFor]
 have q := key sc.names [] h
 refine Eq.trans ?_ (Eq.trans (congrArg (fun z => z >>= fun r => pure r) q) ?_)
 ·rfl
 ·rfl
theorem jU {env : Env} : ∀ {names : List (Str × NameKind)} {acc : List (Str × Addr)} {p : Str × Addr}, p ∈ z8 env names acc -> p ∈ acc \/ ((p.1, NameKind.free) ∈ names /\ p.2 = (env.cells.lookup p.1).getD 0)
 | [], acc, p, h => .inl h
 | (x, k) :: r, acc, p, h => by
  unfold z8 at h
  split at h
  ·rename_i hk
   have hk' : k = .free := by simpa using hk
   subst hk'
   rcases jU h with q | ⟨q, e⟩
   ·rcases am2.mp q with q | q
    ·subst q; exact .inr ⟨am6, rfl⟩
    ·exact .inl q
   ·exact .inr ⟨amY _ q, e⟩
  ·rcases jU h with q | ⟨q, e⟩
   ·exact .inl q
   ·exact .inr ⟨amY _ q, e⟩
theorem qd {α : Type} : ∀ {l : List (Str × α)} {x : Str} {v : α}, (x, v) ∈ l -> ∃ u, l.lookup x = some u
 | (y, u) :: r, x, v, h => by
  rw [anI]
  cases hb : x == y with
  | true => exact ⟨u, rfl⟩
  | false =>
   rcases am2.mp h with e | h
   ·have : x = y := congrArg Prod.fst e
    subst this
    simp at hb
   ·exact qd h
theorem qS {env : Env} : ∀ {names : List (Str × NameKind)} {acc : List (Str × Addr)} {x : Str}, (x, NameKind.free) ∈ names -> (x, (env.cells.lookup x).getD 0) ∈ z8 env names acc
 | (y, k) :: r, acc, x, h => by
  have mono : ∀ (names : List (Str × NameKind)) (acc : List (Str × Addr)) (p : Str × Addr), p ∈ acc -> p ∈ z8 env names acc := by
   intro names
   induction names with
   | nil => intro acc p hp; exact hp
   | cons q r ih =>
    intro acc p hp
    obtain ⟨a, b⟩ := q
    unfold z8
    split
    ·exact ih _ _ (amY _ hp)
    ·exact ih _ _ hp
  unfold z8
  rcases am2.mp h with e | h
  ·cases e
   simp only [beq_self_eq_true, if_true]
   exact mono _ _ _ am6
  ·split
   ·exact qS h
   ·exact qS h
theorem qL {env : Env} {names : List (Str × NameKind)} {x : Str} {c : Addr} (h : ∀ x, (x, NameKind.free) ∈ names -> ∃ c, env.cells.lookup x = some c) (e : (z8 env names []).lookup x = some c) : env.cells.lookup x = some c /\ (x, NameKind.free) ∈ names := by
 rcases jU (mem_of_lookup e) with q | ⟨q, e'⟩
 ·cases q
 ·obtain ⟨c', hc⟩ := h _ q
  dsimp only at hc e'
  rw [hc] at e'
  exact ⟨by rw [hc]; exact congrArg some e'.symm, q⟩
theorem vS {env : Env} {names : List (Str × NameKind)} {x : Str} {c : Addr} (h : ∀ x, (x, NameKind.free) ∈ names -> ∃ c, env.cells.lookup x = some c) (hx : (x, NameKind.free) ∈ names) (e : env.cells.lookup x = some c) : (z8 env names []).lookup x = some c := by
 obtain ⟨u, hu⟩ := qd (qS (env := env) (acc := []) hx)
 have := (qL h hu).1
 rw [this] at e
 rw [hu, e]
theorem yM : ∀ {names : List (Str × NameKind)} {n : Nat} {acc : List (Str × Addr)} {x : Str} {c : Addr}, (cellsFrom n names acc).lookup x = some c -> (n <= c /\ c < n + names.length /\ (x, NameKind.cell) ∈ names) \/ (acc.lookup x = some c /\ (x, NameKind.cell) ∉ names)
 | [], n, acc, x, c, h => .inr ⟨h, by simp⟩
 | (y, k) :: r, n, acc, x, c, h => by
  unfold cellsFrom at h
  split at h
  ·rename_i hk
   have hk' : k = .cell := by simpa using hk
   subst hk'
   rcases yM h with ⟨q1, q2, q3⟩ | ⟨q1, q2⟩
   ·exact .inl ⟨apf q1, ane q2 (by rw [anb]; omega), amY _ q3⟩
   ·rw [anI] at q1
    cases hb : x == y with
    | true =>
     rw [hb] at q1
     cases q1
     have : x = y := by simpa using hb
     subst this
     exact .inl ⟨amV _, by rw [anb]; exact Nat.lt_add_of_pos_right (apP _), am6⟩
    | false =>
     rw [hb] at q1
     refine .inr ⟨q1, fun z => ?_⟩
     rcases am2.mp z with e | z
     ·have : x = y := congrArg Prod.fst e
      subst this
      simp at hb
     ·exact q2 z
  ·rename_i hk
   rcases yM h with ⟨q1, q2, q3⟩ | ⟨q1, q2⟩
   ·exact .inl ⟨q1, ane q2 (by rw [anb]; omega), amY _ q3⟩
   ·refine .inr ⟨q1, fun z => ?_⟩
    rcases am2.mp z with e | z
    ·have : k = .cell := (congrArg Prod.snd e).symm
     subst this
     simp at hk
    ·exact q2 z
theorem yS : ∀ (names : List (Str × NameKind)) (n : Nat) (acc : List (Str × Addr)), (acc.Pairwise fun x y => x.2 ≠ y.2) -> (∀ p ∈ acc, p.2 < n) -> (cellsFrom n names acc).Pairwise fun x y => x.2 ≠ y.2
 | [], n, acc, h, _ => h
 | (y, k) :: r, n, acc, h, hl => by
  unfold cellsFrom
  split
  ·refine yS r (n + 1) _ (List.pairwise_cons.mpr ⟨fun p hp => ?_, h⟩) fun p hp => ?_
   ·exact aoW (hl p hp)
   ·rcases am2.mp hp with e | hp
    ·subst e; exact aqc _
    ·exact aom (hl p hp)
  ·exact yS r n acc h hl
theorem aa7 {names : List (Str × NameKind)} {n : Nat} {acc : List (Str × Addr)} {x : Str} (h : names.lookup x = some .cell) : ∃ c, (cellsFrom n names acc).lookup x = some c :=
 aoj.mp (aot names n acc (.inl h))
theorem qM {names : List (Str × NameKind)} {n : Nat} {acc : List (Str × Addr)} {x : Str} (h : (acc.lookup x).isSome = true) : ∃ c, (cellsFrom n names acc).lookup x = some c :=
 aoj.mp (aot names n acc (.inr h))
theorem jD : ∀ (names : List (Str × NameKind)) (h : Heap) (acc : List (Str × Addr)) (x : Str) (c : Addr), (cellsFrom h.objs.size names acc).lookup x = some c -> h.objs.size <= c -> (∀ p ∈ acc, p.2 < h.objs.size) -> (pushCells h names).IsCell c none
 | [], h, acc, x, c, e, hc, hl => absurd (hl _ (mem_of_lookup e)) (aqY.mpr hc)
 | (y, k) :: r, h, acc, x, c, e, hc, hl => by
  unfold cellsFrom at e
  unfold pushCells
  split at e
  ·rename_i hk
   rw [if_pos hk]
   by_cases hcc : c = h.objs.size
   ·subst hcc
    exact ⟨_, pushCells_keeps _ _ _ _ (anr _ rfl), rfl⟩
   ·have es : (h.push { cls := .type "cell", data := .cell none }).objs.size = h.objs.size + 1 := apg ..
    refine jD r _ ((y, h.objs.size) :: acc) x c (by rw [es]; exact e) (by rw [es]; exact Nat.lt_of_le_of_ne hc (anU hcc)) fun p hp => ?_
    rw [es]
    rcases am2.mp hp with e | hp
    ·subst e; exact aqc _
    ·exact aom (hl p hp)
  ·rename_i hk
   rw [if_neg hk]
   exact jD r h acc x c e hc hl
def zk (X : Cx) (sc : Scope) (N : List Str) (s₀ : Shared) (H₀ : Hp) (ex : List Addr) (pn : List (Addr × Obj)) : Cx :=
 { X with N := N, s₀ := s₀, H₀ := H₀, env := compEnvC sc (cellsFrom (s₀.heap.objs.size + 1) sc.names (z8 X.env sc.names [])) s₀.heap.objs.size X.env,
          outer := X.stack, ex := ex, fn := fun x => decide (sc.names.lookup x = some .cell), pn := pn, xe := fun _ _ => False }
structure CompScope (NO : List Str) (scO : Scope) (N : List Str) (sc : Scope) (own : Nat) (fr : List Nat) : Prop where
 kind : sc.kind = .function
 nd : N.Nodup
 snd : (sc.names.map (·.1)).Nodup
 free : ∀ p ∈ sc.names, p.2 = .free -> scO.names.lookup p.1 = some .cell \/ scO.names.lookup p.1 = some .free
 frn : ∀ p ∈ (N.drop own).zip fr, NO[p.2]? = some p.1 /\ sc.names.lookup p.1 = some .free
 len : N.length = own + fr.length
def yT (own : Nat) (fr : List Nat) (σ : St) : St := aoT own none ++ fr.map fun j => (σ[j]?).getD none
theorem ya {α : Type} : ∀ {l : List (Str × α)} {x : Str} {k : α}, (l.map (·.1)).Nodup -> (x, k) ∈ l -> l.lookup x = some k
 | (y, u) :: r, x, k, nd, h => by
  rw [anh] at nd
  obtain ⟨h1, h2⟩ := anY.mp nd
  rw [anI]
  rcases am2.mp h with e | h'
  ·cases e; simp
  ·have : x ≠ y := by
    intro e
    subst e
    exact h1 (ant.mpr ⟨(x, k), h', rfl⟩)
   rw [beq_eq_false_iff_ne.mpr this]
   exact ya h2 h'
theorem jh {env : Env} : ∀ {names : List (Str × NameKind)} {x : Str} {k : NameKind}, names.lookup x = some k ->
  (names.map fun (n, k) => if (k == NameKind.free && env.scope.kind == .function && env.kindOf n == some .cell) then (n, NameKind.cell) else (n, k)).lookup x = some (if (k == NameKind.free && env.scope.kind == .function && env.kindOf x == some .cell) then .cell else k)
 | (n, k') :: r, x, k, h => by
  have ih := @jh env r x k
  show List.lookup x ((if (k' == NameKind.free && env.scope.kind == .function && env.kindOf n == some .cell) = true then (n, NameKind.cell) else (n, k')) :: _) = _
  cases hx : x == n with
  | true =>
   have : x = n := by simpa using hx
   subst this
   simp only [anI, hx] at h
   cases h
   split <;> simp [anI]
  | false =>
   simp only [anI, hx] at h
   split
   ·simp only [anI, hx]; exact ih h
   ·simp only [anI, hx]; exact ih h
theorem yU {env : Env} : ∀ {names : List (Str × NameKind)} {x : Str}, names.lookup x = none ->
  (names.map fun (n, k) => if (k == NameKind.free && env.scope.kind == .function && env.kindOf n == some .cell) then (n, NameKind.cell) else (n, k)).lookup x = none
 | [], _, _ => rfl
 | (n, k') :: r, x, h => by
  have ih := @yU env r x
  show List.lookup x ((if (k' == NameKind.free && env.scope.kind == .function && env.kindOf n == some .cell) = true then (n, NameKind.cell) else (n, k')) :: _) = _
  cases hx : x == n with
  | true => simp only [anI, hx] at h; cases h
  | false =>
   simp only [anI, hx] at h
   split
   ·simp only [anI, hx]; exact ih h
   ·simp only [anI, hx]; exact ih h
section
variable {X : Cx} {pins : List (Addr × Obj)} {σ : St} {H : Hp} {s : Shared} {NO N : List Str} {scO sc : Scope} {own : Nat} {fr : List Nat} {fp : List Addr}
theorem ag3 {tk : Nat} (S : CompScope NO scO N sc own fr) (hN : X.N = NO) (hsc : X.env.scope = scO) (I : Inv X pins σ H s) (hf : ∀ b ∈ fp, va X pins H b) (ho : ∀ b ∈ fp, ∃ o, s.heap.get? b = some o /\ ∀ v, o.data ≠ .cell v) :
  Inv (zk X sc N s H fp (X.pn ++ pins)) [] (yT own fr σ) H { s with heap := pushCells (s.heap.push { cls := .type "dict", data := .dict #[] }) sc.names, toks := tk } := by
 have hfree : ∀ x, (x, NameKind.free) ∈ sc.names -> ∃ c, X.env.cells.lookup x = some c := fun x hx => I.ok.has x (by
  show X.env.scope.names.lookup x = _ \/ X.env.scope.names.lookup x = _
  rw [hsc]
  exact S.free _ hx rfl)
 have hclt : ∀ p ∈ z8 X.env sc.names [], p.2 < s.heap.objs.size := fun p hp => by
  rcases jU hp with q | ⟨q, e⟩
  ·cases q
  ·obtain ⟨c, hc⟩ := hfree _ q
   rw [e, hc]
   obtain ⟨v, o, ho, _⟩ := I.cell _ c hc
   exact amZ ho
 have hsz : (s.heap.push { cls := .type "dict", data := .dict #[] }).objs.size = s.heap.objs.size + 1 := apg ..
 have hk : ∀ b o, s.heap.get? b = some o -> (pushCells (s.heap.push { cls := .type "dict", data := .dict #[] }) sc.names).get? b = some o := fun b o e => pushCells_keeps _ _ _ _ (amW _ e)
 have hcase : ∀ {x : Str} {c : Addr}, (cellsFrom (s.heap.objs.size + 1) sc.names (z8 X.env sc.names [])).lookup x = some c -> (s.heap.objs.size + 1 <= c /\ (x, NameKind.cell) ∈ sc.names) \/ (X.env.cells.lookup x = some c /\ (x, NameKind.free) ∈ sc.names) := fun {x c} e => by
  rcases yM e with ⟨q1, _, q3⟩ | ⟨q1, _⟩
  ·exact .inl ⟨q1, q3⟩
  ·exact .inr (qL hfree q1)
 have clap : (z8 X.env sc.names []).Pairwise fun x y => x.2 ≠ y.2 := by
  have key : ∀ (names : List (Str × NameKind)) (acc : List (Str × Addr)), (∀ p ∈ acc, X.env.cells.lookup p.1 = some p.2) -> (∀ x, (x, NameKind.free) ∈ names -> ∃ c, X.env.cells.lookup x = some c) -> (acc.Pairwise fun x y => x.2 ≠ y.2) -> (∀ p ∈ acc, (p.1, NameKind.free) ∉ names) -> (names.map (·.1)).Nodup ->
    (z8 X.env names acc).Pairwise fun x y => x.2 ≠ y.2 := by
   intro names
   induction names with
   | nil => intro acc _ _ h _ _; exact h
   | cons p r ih =>
    intro acc h1 h2 h3 h4 h5
    obtain ⟨y, k⟩ := p
    rw [anh] at h5
    obtain ⟨n1, n2⟩ := anY.mp h5
    unfold z8
    split
    ·rename_i hk
     have hk' : k = .free := by simpa using hk
     subst hk'
     obtain ⟨c, hc⟩ := h2 y am6
     rw [hc]
     refine ih _ (fun p hp => ?_) (fun x hx => h2 x (amY _ hx)) (List.pairwise_cons.mpr ⟨fun p hp => ?_, h3⟩) (fun p hp => ?_) n2
     ·rcases am2.mp hp with e | hp
      ·subst e; exact hc
      ·exact h1 p hp
     ·intro e
      have e' : p.2 = c := e.symm
      have := I.ok.inj _ _ _ hc (e' ▸ h1 p hp)
      exact h4 p hp (this ▸ am6)
     ·rcases am2.mp hp with e | hp
      ·subst e
       intro z
       exact n1 (ant.mpr ⟨_, z, rfl⟩)
      ·intro z; exact h4 p hp (amY _ z)
    ·exact ih acc h1 (fun x hx => h2 x (amY _ hx)) h3 (fun p hp z => h4 p hp (amY _ z)) n2
  exact key sc.names [] (fun p hp => by cases hp) hfree List.Pairwise.nil (fun p hp => by cases hp) S.snd
 have apart := yS sc.names (s.heap.objs.size + 1) _ clap fun p hp => aom (hclt p hp)
 have hkd : ∀ x, (zk X sc N s H fp (X.pn ++ pins)).env.kindOf x = some .cell \/ (zk X sc N s H fp (X.pn ++ pins)).env.kindOf x = some .free -> (x, NameKind.cell) ∈ sc.names \/ (x, NameKind.free) ∈ sc.names := fun x hx => by
  cases q : sc.names.lookup x with
  | none =>
   have e : (zk X sc N s H fp (X.pn ++ pins)).env.kindOf x = none := yU q
   rw [e] at hx
   rcases hx with z | z <;> cases z
  | some k =>
   have e : (zk X sc N s H fp (X.pn ++ pins)).env.kindOf x = some _ := jh (env := X.env) q
   rw [e] at hx
   have hm := mem_of_lookup q
   cases k <;> first | exact .inl hm | exact .inr hm | (rcases hx with z | z <;> cases z)
 have cellAt : ∀ x c, (cellsFrom (s.heap.objs.size + 1) sc.names (z8 X.env sc.names [])).lookup x = some c -> ∃ v, (pushCells (s.heap.push { cls := .type "dict", data := .dict #[] }) sc.names).IsCell c v := fun x c e => by
  rcases hcase e with ⟨q, _⟩ | ⟨q, _⟩
  ·exact ⟨none, jD _ _ _ x c (by rw [hsz]; exact e) (by rw [hsz]; exact q) fun p hp => by rw [hsz]; exact aom (hclt p hp)⟩
  ·obtain ⟨v, o, ho, hd⟩ := I.cell x c q
   exact ⟨v, o, hk _ _ ho, hd⟩
 have lt_of_cell : ∀ x c, X.env.cells.lookup x = some c -> c < s.heap.objs.size := fun x c e => by
  obtain ⟨v, o, ho, hd⟩ := I.cell x c e
  exact amZ ho
 have lt_of_fp : ∀ b ∈ fp, b < s.heap.objs.size := fun b hb => by
  obtain ⟨o, e, _⟩ := ho b hb
  exact amZ e
 have okX : (zk X sc N s H fp (X.pn ++ pins)).Ok := by
  refine ⟨I.mod, S.kind, I.ok.glob, I.ok.blt, amV _, fun x y c h1 h2 => name_of_addr apart (mem_of_lookup h1) (mem_of_lookup h2), fun x hx => ?_, fun x c hx hc => ?_, I.ok.hd, I.ok.frames, .inl rfl, fun b hb => ⟨ano (lt_of_fp b hb), fun x c e => ?_⟩, I.bs, ank I.ok.bsz I.sz, fun b o e hb => ?_, fun b hb z => ?_, I.stack, I.stkFree⟩
  ·rcases hkd x hx with q | q
   ·exact aa7 (ya S.snd q)
   ·obtain ⟨c, hc⟩ := hfree x q
    exact qM (by rw [vS hfree q hc]; rfl)
  ·have hx' : sc.names.lookup x = some .cell := of_decide_eq_true hx
   rcases hcase hc with ⟨q, _⟩ | ⟨_, q⟩
   ·exact apf q
   ·rw [ya S.snd q] at hx'; cases hx'
  ·rcases hcase e with ⟨q, _⟩ | ⟨q, _⟩
   ·exact aoW (ane (lt_of_fp b hb) (apf q))
   ·exact (hf b hb).2.2.2.2.1 x c q
  ·rcases (hf b hb).2.2.2.1 with z | z
   ·exact I.ok.noex b o e z
   ·exact absurd (amZ e) (aqY.mpr (ank I.ok.bsz z))
  ·rcases am2.mp (I.stkSub b z) with q | q
   ·exact (hf b hb).2.1 q
   ·exact (hf b hb).2.2.1 q
 refine ⟨okX, rfl, I.bare, Un.kept hk, ⟨fun _ => none, (Heap.Ns.new s.heap (.type "dict")).keeps (pushCells_keeps _ _), fun i x v h1 h2 h3 => ?_⟩, cellAt, I.hok.fresh (amV _), fun x c e => ?_, fun p hp => ?_, I.hok.kept hk, ?_⟩
 ·obtain ⟨m, _, hl⟩ := id I.loc
  have h2' : (yT own fr σ)[i]? = some (some v) := h2
  have hio : own <= i := by
   unfold yT at h2'
   refine Nat.le_of_not_lt fun hi => ?_
   rw [am3 (by simpa using hi), aoK] at h2'
   split at h2' <;> cases h2'
  obtain ⟨k, rfl⟩ := Nat.exists_eq_add_of_le hio
  have h1' : N[own + k]? = some x := h1
  unfold yT at h2'
  rw [am7 (by simp)] at h2'
  simp only [apu, Nat.add_sub_cancel_left, am1] at h2'
  cases hj : fr[k]? with
  | none => rw [hj] at h2'; cases h2'
  | some j =>
   rw [hj] at h2'
   have h2'' : (σ[j]?).getD none = some v := Option.some.inj h2'
   have hp : (x, j) ∈ (N.drop own).zip fr := by
    refine ana (i := k) ?_
    rw [List.getElem?_zip_eq_some]
    exact ⟨by rw [apS]; exact h1', hj⟩
   obtain ⟨f1, f2⟩ := S.frn _ hp
   have hσ : σ[j]? = some (some v) := by
    cases q : σ[j]? with
    | none => rw [q] at h2''; cases h2''
    | some w => rw [q] at h2''; exact congrArg some h2''
   have hxf : (x, NameKind.free) ∈ sc.names := mem_of_lookup f2
   have hko := S.free _ hxf rfl
   have hvis : Vis X.env.scope x := by rw [hsc]; exact .inr hko
   obtain ⟨u, ru, q⟩ := hl j x v (by rw [hN]; exact f1) hσ hvis
   refine ⟨u, ru, .inr ⟨?_, ?_⟩⟩
   ·have e : (zk X sc N s H fp (X.pn ++ pins)).env.kindOf x = some _ := jh (env := X.env) f2
    rw [e]
    split
    ·exact .inl rfl
    ·exact .inr rfl
   ·rcases q with ⟨k1, _⟩ | ⟨_, c, hc, z⟩
    ·have k1' : X.env.scope.names.lookup x = some .local := k1
     rw [hsc] at k1'
     rcases hko with z | z <;> rw [z] at k1' <;> cases k1'
    ·obtain ⟨o, ho, hd⟩ := z
     refine ⟨c, ?_, o, hk _ _ ho, hd⟩
     have hcl := vS hfree hxf hc
     obtain ⟨c', hc'⟩ := qM (names := sc.names) (n := s.heap.objs.size + 1) (acc := z8 X.env sc.names []) (x := x) (by rw [hcl]; rfl)
     rcases hcase hc' with ⟨_, z⟩ | ⟨z, _⟩
     ·have := ya S.snd z
      rw [f2] at this; cases this
     ·rw [hc] at z; cases z; exact hc'
 ·rcases hcase e with ⟨q, _⟩ | ⟨q, _⟩
  ·exact I.hok.fresh (apf q)
  ·exact I.freeC x c q
 ·have hp' : p ∈ X.pn ++ pins := by simpa [zk] using hp
  obtain ⟨e, n, ne, nf, d⟩ := I.pin p hp'
  refine ⟨hk _ _ e, n, ano (amZ e), fun z => ?_, d⟩
  rcases am2.mp (I.stkSub _ z) with q | q
  ·exact ne q
  ·exact nf q
 ·show (yT own fr σ).length = N.length
  unfold yT
  rw [S.len]
  simp
end
abbrev TB := St -> Hp -> (St -> Hp -> Prop) -> Prop
def PB (X : Cx) (act : Sem Unit) (t : TB) : Prop :=
 ∀ (pins : List (Addr × Obj)) (s : Shared) (σ : St) (H : Hp) (Q : St -> Hp -> Prop), Inv X pins σ H s -> t σ H Q -> wpAny (model X.prog X.w) X.A act (fun _ s' => ∃ σ' H', Inv X pins σ' H' s' /\ Q σ' H') X.xe s
def PTs (X : Cx) (ifs : List Expr) (t : TT) : Prop :=
 ∀ (pins : List (Addr × Obj)) (s : Shared) (σ : St) (H : Hp) (Q : Bool -> Hp -> Prop), Inv X pins σ H s -> t σ H Q ->
  wpAny (model X.prog X.w) X.A (forIn ifs true fun c r => if r = true then do let ok <- isTrue c X.env (eval c X.env); pure (ForInStep.yield ok) else pure (ForInStep.yield r)) (TP X pins σ Q) X.xe s
def ai4 : TT := fun _ H Q => Q true H
theorem yr {X : Cx} : PTs X [] ai4 := fun pins s σ H Q I h => wpAny_tests_nil ⟨H, I, h⟩
theorem ab0 {X : Cx} {c : Expr} {t : TT} (hc : PT X c t) : PTs X [c] t := fun pins s σ H Q I h => wpAny_tests_one (hc pins s σ H Q I h)
def acQ (J : It) (g : TG) (tt : TT) (tb : TB) : TB := fun σ H Q => ∃ W : Nat -> Nat -> St -> Hp -> Prop, (∃ m, W 0 m σ H) /\ ∀ i m σ H, W i m σ H ->
 (J.stop i H /\ Q σ H) \/ (J.go i H /\ ∀ x H', J.yld i H x H' -> g x σ H' fun σ2 H2 => tt σ2 H2 fun b H3 => if b = true then tb σ2 H3 fun σ' H' => ∃ m', m' < m /\ W (i + 1) m' σ' H' else ∃ m', m' < m /\ W (i + 1) m' σ2 H3)
section
variable {X : Cx} {pins : List (Addr × Obj)} {s : Shared} {σ : St} {H : Hp} {tg : Expr} {e : Expr} {d : Nat} {acc : Value} {ifs : List Expr} {g : TG} {tt : TT} {tb : TB} {act : Sem Unit} {pos : Pos}
theorem acR (hx : ∀ e s, X.xe e s -> False) (hc : X.calm = true) (hg : PG X tg g) (ht : PTs X ifs tt) (hb : PB X act tb)
  (heq : ∀ it, compTurn e d it acc X.env = (do
   standAt pos
   match <- pyNext it with
   | none => pure (.done .next)
   | some v =>
    letOwnedTupleGo tg it v
    assign tg X.env v
    let mut ok := true
    for c in ifs do
     if ok then ok <- isTrue c X.env (eval c X.env)
    if ok then
     act
    again (.compLoop e d it acc X.env)))
  (hqt : ∀ it, (Code.compLoop e d it acc X.env).quiet = true)
  (hden : ∀ it, (model X.prog X.w).den (.compLoop e d it acc X.env) = (compTurn e d it acc X.env).onRaise (fun x => do noteFrame x X.env; theTreesLotGoes x))
  (hund : ∀ it, X.A.under (.compLoop e d it acc X.env) = X.A)
  {it : Addr} {fp : List Addr} {tn : Nat -> Heap -> Prop} {J : It} {Q : St -> Hp -> Prop} {R : Result -> Shared -> Prop} (I : Inv X pins σ H s) (T : Turn X.prog X.w X.K tg J fp it tn) (st : tn 0 s.heap) (f : ∀ b ∈ fp, va X pins H b)
  (h : acQ J g tt tb σ H Q) (hR : ∀ σ' H' s', Inv X pins σ' H' s' -> (∀ b ∈ fp, H' b = none) -> Q σ' H' -> R (.ok .next) s') : codeAny (model X.prog X.w) X.A (.compLoop e d (.ref it) acc X.env) R s := by
 obtain ⟨W, ⟨m0, w0⟩, turn⟩ := h
 have stat : ∀ {H' : Hp}, (∀ b ∈ fp, H' b = none) -> ∀ b ∈ fp, va X pins H' b := fun hn b hb => ⟨hn b hb, (f b hb).2⟩
 refine codeAny_loop (hqt _) (fun n s' => ∃ i σ' H', Inv X pins σ' H' s' /\ tn i s'.heap /\ (∀ b ∈ fp, H' b = none) /\ W i n σ' H') ?_ m0 ⟨0, σ, H, I, st, fun b hb => (f b hb).1, w0⟩
 rintro n s3 ⟨i, σ3, H3, I3, st3, fr3, w3⟩
 rw [hden, hund]
 refine wpAny_noted ?_
 rw [heq]
 have nox : ∀ e' s', X.xe e' s' -> notedBy (model X.prog X.w) X.A X.env (fun e s' => R (.error e) s') e' s' := fun e' s' z => (hx e' s' z).elim
 refine wpAny_bind (wpAny_standAt (wpAny_bind ?_))
 rcases turn i n σ3 H3 w3 with ⟨stop, qn⟩ | ⟨go, step⟩
 ·refine wpAny_mono (T.done X rfl rfl rfl hc i pins s3 σ3 H3 X.xe I3 (stat fr3) st3 stop) (fun r s4 hr4 => ?_) nox
  obtain ⟨hr, I4⟩ := hr4
  subst hr
  exact wpAny_pure (hR σ3 H3 s4 I4 fr3 qn)
 ·refine wpAny_mono (T.item X rfl rfl rfl hc i pins s3 σ3 H3 X.xe I3 (stat fr3) st3 go) (fun r s4 hr4 => ?_) nox
  obtain ⟨u, hr, h4⟩ := hr4
  subst hr
  refine wpAny_bind (wpAny_mono h4 (fun _ s5 h5 => ?_) nox)
  obtain ⟨x, H5, I5, r5, y5, st5, fr5⟩ := h5
  have I5' := I5.pinned (stat fr5) (T.obj _ _ st5)
  refine wpAny_bind (wpAny_mono (hg _ s5 σ3 H5 x u _ I5' r5 (step x H5 y5)) (fun _ s6 h6 => ?_) nox)
  obtain ⟨σ6, H6, I6, q6⟩ := h6
  refine wpAny_bind (wpAny_mono (ht _ s6 σ6 H6 _ I6 q6) (fun ok s7 h7 => ?_) nox)
  obtain ⟨H7, I7, q7⟩ := h7
  have again : ∀ {σ7 : St} {H7 : Hp} {s7 : Shared}, Inv X (pins ++ aau fp s5.heap) σ7 H7 s7 -> (∃ m', m' < n /\ W (i + 1) m' σ7 H7) -> ∃ m, m < n /\ ∃ i σ' H', Inv X pins σ' H' s7 /\ tn i s7.heap /\ (∀ b ∈ fp, H' b = none) /\ W i m σ' H' := fun {σ7 H7 s7} I7 n7 => by
   obtain ⟨m', hm, w7⟩ := n7
   refine ⟨m', hm, i + 1, σ7, H7, I7.unpinned, T.keep _ _ _ st5 fun b hb o e => (I7.pin (b, o) (anc _ (anc _ (jR hb e)))).1, fun b hb => ?_, w7⟩
   obtain ⟨o, e, d⟩ := T.obj _ _ st5 b hb
   exact (I7.pin (b, o) (anc _ (anc _ (jR hb e)))).2.1
  cases ok with
  | false =>
   rw [if_neg amQ] at q7
   exact wpAny_pure ⟨rfl, again I7 q7⟩
  | true =>
   rw [if_pos rfl] at q7
   refine wpAny_bind (wpAny_mono (hb _ s7 σ6 H7 _ I7 q7) (fun _ s8 h8 => ?_) nox)
   obtain ⟨σ8, H8, I8, q8⟩ := h8
   exact wpAny_pure ⟨rfl, again I8 q8⟩
theorem ab1 {D : Addr} {elt : Expr} {te : TE} (he : PE X elt te) : PB X (do let _ <- call (.builtin "list.append") [.ref D, <- eval elt X.env]) (fun σ H Q => te σ H fun y H1 => ∃ xs, H1 D = some (.lst xs) /\ xs.length < sizeLine /\ Q σ (upd H1 D (.lst (xs ++ [y])))) := by
 intro pins s σ H Q I h
 refine wpAny_bind (thn (he pins s σ H _ I h) fun v s1 h1 => ?_)
 obtain ⟨y, H1, I1, r1, xs, hD, hz, q⟩ := h1
 obtain ⟨z, its, n, r, hl, e⟩ := I1.lstM hD
 refine wpAny_bind ?_
 refine call_meets F.slot_list_append ⟨_, e, rfl⟩ aqL (aqy _ _) (PySem.list_append D its.toArray n v (by rw [am4]; omega)) ⟨e, ?_⟩
 refine wpAny_pure ⟨σ, _, I1.lset (its' := its ++ [v]) hD e (by simp) (r.append (.cons r1 .nil)) ?_, q⟩
 rw [am9, anD]
 omega
theorem acS {M : Model} {A : Around} {E : Value -> Shared -> Prop} {sc : Scope} {gl : Addr} {cl : List (Str × Addr)} {qual : Str} {env : Env} {Q : Env -> Shared -> Prop} {s : Shared}
  (h : Q { scope := sc, locals := s.heap.objs.size, globals := gl, cells := cellsFrom (s.heap.objs.size + 1) sc.names cl, qual := qual, func := none, code := env.code, frame := env.frame, builtins := env.builtins } { s with heap := pushCells (s.heap.push { cls := .type "dict", data := .dict #[] }) sc.names }) :
  wpAny M A (newFunctionEnv sc gl cl [] qual none .none (some env)) Q E s := by
 simp only [newFunctionEnv, Option.isSome_some, if_true]
 refine wpAny_bind (wpAny_alloc ?_)
 refine wpAny_bind (wpAny_layCells _ (fun name kind cells => by cases hkc : kind == NameKind.cell <;> simp [hkc]) _ _ _ _ ?_)
 rw [show ({ s with heap := s.heap.push { cls := .type "dict", data := .dict #[] } } : Shared).heap.objs.size = s.heap.objs.size + 1 from apg ..]
 refine wpAny_bind ?_
 rw [aph]
 exact wpAny_pure (wpAny_pure h)
theorem comp_back {sc : Scope} {N : List Str} {fp : List Addr} {σ' : St} {H' : Hp} {s' : Shared} {h' : Heap} (I : Inv X pins σ H s) (hf : ∀ b ∈ fp, va X pins H b) (J : Inv (zk X sc N s H fp (X.pn ++ pins)) [] σ' H' s') (hs : aoL s.heap.objs.size s'.heap h') :
  Inv X pins σ H' { s' with heap := h' } := by
 have u : Un (frs X.stack) fp H H' s.heap s'.heap := J.base
 have ne : ∀ b o, s.heap.get? b = some o -> b ≠ s.heap.objs.size := fun b o e => ano (amZ e)
 have hfree : H' s.heap.objs.size = none := J.free
 refine I.call' (s' := { s' with heap := h' }) (ch := fp) J.os ⟨fun b o e n h1 h2 => (hs.2 b (ne b o e)).trans (u.keep b o e n h1 h2), fun b o e n h1 h2 => ?_, u.free, fun b o e h2 => ?_, u.tups, u.frzs, u.tbls⟩ (fun a o e => ?_) J.bare fun b hb => ?_
 ·obtain ⟨sl, q⟩ := u.slot b o e n h1 h2
  exact ⟨sl, (hs.2 b (ne b o e)).trans q⟩
 ·obtain ⟨o', q⟩ := u.there b o e h2
  exact ⟨o', (hs.2 b (ne b o e)).trans q⟩
 ·refine (J.hok a o e).stay (fun c v hc q => (hs.2 c ?_).trans q) (fun _ q => q) fun _ _ q => q
  intro z
  subst z
  rcases hc with hc | hc
  ·rw [<- hc] at e
   rw [hfree] at e; cases e
  ·rw [hfree] at hc; cases hc
 ·exact ⟨(hf b hb).2.2.2.1, (hf b hb).2.1, (hf b hb).2.2.2.2⟩
end
def qN (D : Addr) (te : TE) : TB := fun σ H Q => te σ H fun y H1 => ∃ xs, H1 D = some (.lst xs) /\ xs.length < sizeLine /\ Q σ (upd H1 D (.lst (xs ++ [y])))
def qe (wi : TI) (own : Nat) (fr : List Nat) (g : TG) (tt : TT) (tb : Addr -> TB) : TE := fun σ H Q => wi σ H fun J H1 => ∀ D, H1 D = none ->
 acQ J g tt (tb D) (yT own fr σ) (upd H1 D (.lst [])) fun _ H2 => Q (.ref D) H2
section
variable {X : Cx} {pins : List (Addr × Obj)} {s : Shared} {σ : St} {H : Hp} {tg elt iter : Expr} {ifs : List Expr} {rest : List Comprehension} {sc scO : Scope} {NO N : List Str} {own : Nat} {fr : List Nat} {wi : TI} {g : TG} {tt : TT} {tb : Addr -> TB} {pos : Pos}
theorem acT {RR : Value -> Addr -> Result -> Shared -> Prop} {it : Addr} {fp : List Addr} {tn : Nat -> Heap -> Prop} {J : It} {Q : VK} (S : CompScope NO scO N sc own fr) (hN : X.N = NO) (hsc : X.env.scope = scO) (hc : X.calm = true)
  (hg : ∀ s₀ H₀ ex pn, PG (zk X sc N s₀ H₀ ex pn) tg g) (ht : ∀ s₀ H₀ ex pn, PTs (zk X sc N s₀ H₀ ex pn) ifs tt)
  (hb : ∀ D s₀ H₀ ex pn, ∃ act, PB (zk X sc N s₀ H₀ ex pn) act (tb D) /\ ∀ it, compTurn (.ListComp elt (⟨tg, iter, ifs, 0⟩ :: rest) sc pos) 0 it (.ref D) (zk X sc N s₀ H₀ ex pn).env = (do
   standAt iter.pos
   match <- pyNext it with
   | none => pure (.done .next)
   | some v =>
    letOwnedTupleGo tg it v
    assign tg (zk X sc N s₀ H₀ ex pn).env v
    let mut ok := true
    for c in ifs do
     if ok then ok <- isTrue c (zk X sc N s₀ H₀ ex pn).env (eval c (zk X sc N s₀ H₀ ex pn).env)
    if ok then
     act
    again (.compLoop (.ListComp elt (⟨tg, iter, ifs, 0⟩ :: rest) sc pos) 0 it (.ref D) (zk X sc N s₀ H₀ ex pn).env)))
  (I : Inv X pins σ H s) (T : Turn X.prog X.w X.K tg J fp it tn) (st : tn 0 s.heap) (f : ∀ b ∈ fp, va X pins H b)
  (h : ∀ D, H D = none -> acQ J g tt (tb D) (yT own fr σ) (upd H D (.lst [])) fun _ H2 => Q (.ref D) H2)
  (hRR : ∀ (D C : Addr) (s' : Shared) (H' : Hp), (∃ m, s'.heap.Ns C m) -> C ≠ X.env.locals -> (∀ x c, X.env.cells.lookup x = some c -> c ≠ C) -> H' C = none -> X.s₀.heap.objs.size <= C -> (∀ p ∈ X.pn ++ pins, p.1 ≠ C) -> Inv X pins σ H' s' -> Q (.ref D) H' -> RR (.ref D) C (.ok .next) s') :
  wpAny (model X.prog X.w) X.A (newList []) (fun acc s₃ => wpAny (model X.prog X.w) X.A (newFunctionEnv sc X.env.globals (z8 X.env sc.names []) [] X.env.qual none .none (some X.env)) (fun cenv s₄ =>
   codeAny (model X.prog X.w) X.A (.compStart (.ListComp elt (⟨tg, iter, ifs, 0⟩ :: rest) sc pos) 0 (.ref it) acc { cenv with scope := relabel sc X.env }) (RR acc cenv.locals) s₄) X.xe s₃) X.xe s := by
 refine wpAny_newObj_type (acS ?_)
 have fpsz : ∀ b ∈ fp, b < s.heap.objs.size := fun b hb => by
  obtain ⟨o, e, _⟩ := T.obj _ _ st b hb
  exact amZ e
 have I3 := I.lnew (its := []) (ys := []) (t' := s.toks) .nil (anA _)
 have f3 : ∀ b ∈ fp, va X pins (upd H s.heap.objs.size (.lst [])) b := fun b hb => ⟨by rw [zy (ano (fpsz b hb))]; exact (f b hb).1, (f b hb).2⟩
 have st3 : tn 0 (s.heap.push { cls := .type "list", data := .seq ([] : List Value).toArray }) := T.keep _ _ _ st fun b _ o e => amW _ e
 have I4 := ag3 (tk := s.toks) S hN hsc I3 f3 (T.obj _ _ st3)
 obtain ⟨act, pb, heq⟩ := hb s.heap.objs.size _ _ _ _
 have st4 := T.keep _ _ (pushCells ((s.heap.push { cls := .type "list", data := .seq ([] : List Value).toArray }).push { cls := .type "dict", data := .dict #[] }) sc.names) st3 fun b _ o e => pushCells_keeps _ _ _ _ (amW _ e)
 have cells_lt : ∀ x c, X.env.cells.lookup x = some c -> c < s.heap.objs.size := fun x c e => by
  obtain ⟨v, o, ho, hd⟩ := I.cell x c e
  exact amZ ho
 have esz : (s.heap.push { cls := .type "list", data := .seq ([] : List Value).toArray }).objs.size = s.heap.objs.size + 1 := apg ..
 have loop := acR (X := zk X sc N { s with heap := s.heap.push { cls := .type "list", data := .seq ([] : List Value).toArray } } (upd H s.heap.objs.size (.lst [])) fp (X.pn ++ pins)) (R := RR (.ref s.heap.objs.size) (s.heap.push { cls := .type "list", data := .seq ([] : List Value).toArray }).objs.size) (fun _ _ z => z) hc (hg _ _ _ _) (ht _ _ _ _) pb heq (fun _ => rfl) (fun _ => rfl) (fun _ => rfl) I4 T st4
  (fun b hb => ⟨(f3 b hb).1, I4.ok.exf b hb |>.1, I4.ok.exfs b hb, .inl hb, I4.ok.exf b hb |>.2, fun p hp => by
   have hp' : p ∈ X.pn ++ pins := by simpa [zk] using hp
   exact (f b hb).2.2.2.2.2 p hp'⟩) (h _ I.fresh)
  (fun σ' H' s' J' fr' q' => hRR _ _ s' H' (let ⟨m, hm, _⟩ := J'.loc; ⟨m, hm⟩) (by rw [esz]; exact aoW (aom I.lt)) (fun x c e => by rw [esz]; exact ano (aom (cells_lt x c e))) J'.free (by rw [esz]; exact Nat.le_succ_of_le I.sz) (fun p hp => by rw [esz]; exact ano (aom (amZ (I.pin p hp).1))) (comp_back (h' := s'.heap) I3 f3 J' (Heap.SameBut.refl ..)) q')
 exact codeAny_compStart_list loop (T.self X.A 0 _ _ _ st4 loop)
theorem Inv.touch {C : Addr} {h' : Heap} (I : Inv X pins σ H s) (hs : aoL C s.heap h') (hn : H C = none) (h0 : C ≠ X.env.locals) (h1 : ∀ x c, X.env.cells.lookup x = some c -> c ≠ C) (h2 : X.s₀.heap.objs.size <= C) (h3 : ∀ p ∈ X.pn ++ pins, p.1 ≠ C) :
  Inv X pins σ H { s with heap := h' } :=
 I.turned (t' := s.toks) (fun b o hb e => (hs.2 b hb).trans e) hn h0 (.inr h2) h1 h3
theorem aa8 {prog : Program} {w : World} {A : Around} {R : Result -> Shared -> Prop} {s : Shared} {elt' : Expr} {g0 : Comprehension} {tg' it' : Expr} {ifs' : List Expr} {sc' : Scope} {pos' : Pos} {itv acc : Value} {env : Env}
  (here : codeAny (model prog w) A (.compLoop (.ListComp elt' [g0, ⟨tg', it', ifs', 0⟩] sc' pos') 1 itv acc env) R s)
  (once : wpAny (model prog w) A (pyIter itv) (fun j s1 => codeAny (model prog w) A (.compLoop (.ListComp elt' [g0, ⟨tg', it', ifs', 0⟩] sc' pos') 1 j acc env) R s1) (notedBy (model prog w) A env fun x s1 => R (.error x) s1) s) :
  codeAny (model prog w) A (.compStart (.ListComp elt' [g0, ⟨tg', it', ifs', 0⟩] sc' pos') 1 itv acc env) R s := by
 apply codeAny_of_tree
 show wpAny _ _ ((compStart (.ListComp elt' [g0, ⟨tg', it', ifs', 0⟩] sc' pos') 1 itv acc env).onRaise (fun z => do noteFrame z env; standAt theWindowsPlace)) _ _ s
 apply wpAny_notedAt
 unfold compStart
 show wpAny _ _ (ask >>= _) _ _ s
 apply wpAny_bind
 apply wpAny_askSetting
 apply wpAny_ite
 split
 ·first
   | exact wpAny_bind (wpAny_pure (wpAny_pure (And.intro rfl here)))
   | exact wpAny_pure (And.intro rfl here)
 ·apply wpAny_bind
  apply wpAny_rule
  show wpAny _ _ (standAt it'.pos >>= _) _ _ s
  exact wpAny_bind (wpAny_standAt (wpAny_bind (wpAny_mono once (fun j s1 q => wpAny_pure (And.intro rfl q)) fun _ _ z => z)))
section
variable {elt2 : Expr} {te : TE} {tg2 iter2 : Expr} {ifs2 : List Expr} {wi2 : TI} {g2 : TG} {tt2 : TT} {tb2 : TB} {y : Str} {i : Nat} {py spos : Pos}
def tIn (wi2 : TI) (g2 : TG) (tt2 : TT) (tb2 : TB) : TB := fun σ H Q => wi2 σ H fun J H1 => acQ J g2 tt2 tb2 σ H1 Q
theorem akn {D : Addr} (hx : ∀ e s, X.xe e s -> False) (hc : X.calm = true) (hi : PI X tg2 iter2 wi2) (hg : PG X tg2 g2) (ht : PTs X ifs2 tt2) (he : PE X elt te)
  (hs : ∀ x, foldedSetIterable iter2 X.env x = pure x) :
  PB X (do
   let x <- eval iter2 X.env
   standAt iter2.pos
   let x <- foldedSetIterable iter2 X.env x
   let _ <- runOwn (.compStart (.ListComp elt [⟨tg, iter, ifs, 0⟩, ⟨tg2, iter2, ifs2, 0⟩] sc pos) 1 (<- holding [x] (pyIter x)) (.ref D) X.env) X.env) (tIn wi2 g2 tt2 (qN D te)) := by
 intro pins s σ H Q I h
 refine wpAny_bind (thn (hi pins s σ H _ I h) fun v s1 h1 => ?_)
 refine wpAny_bind (wpAny_standAt ?_)
 refine wpAny_bind (wpAny_of_eq (hs v) ?_)
 refine wpAny_bind (wpAny_holding (thn h1 fun itv s2 h2 => ?_))
 obtain ⟨it, fp, tn, J, H2, e, I2, T, st2, f2, q⟩ := h2
 subst e
 refine wpAny_bind (wpAny_runOwn ?_)
 have loop := acR (e := .ListComp elt [⟨tg, iter, ifs, 0⟩, ⟨tg2, iter2, ifs2, 0⟩] sc pos) (d := 1) (pos := iter2.pos)
  (R := fun r s' => match r with | .ok f => wpAny (model X.prog X.w) X.A (pure ()) (fun _ s' => ∃ σ' H', Inv X pins σ' H' s' /\ Q σ' H') X.xe s' | .error e => cameBackBy (model X.prog X.w) X.A X.env X.xe e s')
  hx hc hg ht (ab1 (D := D) he) (fun _ => rfl) (fun _ => rfl) (fun _ => rfl) (fun _ => rfl) I2 T st2 f2 q (fun σ' H' s' J' _ q' => wpAny_pure ⟨σ', H', J', q'⟩)
 exact aa8 loop (T.self X.A 0 _ _ _ st2 loop)
theorem aeU (S : CompScope NO scO N sc own fr) (hsc : X.env.scope = scO) (ok : X.Ok) : closureFor sc X.env = pure (z8 X.env sc.names []) :=
 ad0 fun x hx => ok.has x (by
  show X.env.scope.names.lookup x = _ \/ X.env.scope.names.lookup x = _
  rw [hsc]
  exact S.free _ hx rfl)
theorem aeV (S : CompScope NO scO N sc own fr) (hc : X.calm = true) (hi : PI X tg iter wi) (hg : ∀ s₀ H₀ ex pn, PG (zk X sc N s₀ H₀ ex pn) tg g) (ht : ∀ s₀ H₀ ex pn, PTs (zk X sc N s₀ H₀ ex pn) ifs tt)
  (hb : ∀ D s₀ H₀ ex pn, ∃ act, PB (zk X sc N s₀ H₀ ex pn) act (tb D) /\ ∀ it, compTurn (.ListComp elt (⟨tg, iter, ifs, 0⟩ :: rest) sc pos) 0 it (.ref D) (zk X sc N s₀ H₀ ex pn).env = (do
   standAt iter.pos
   match <- pyNext it with
   | none => pure (.done .next)
   | some v =>
    letOwnedTupleGo tg it v
    assign tg (zk X sc N s₀ H₀ ex pn).env v
    let mut ok := true
    for c in ifs do
     if ok then ok <- isTrue c (zk X sc N s₀ H₀ ex pn).env (eval c (zk X sc N s₀ H₀ ex pn).env)
    if ok then
     act
    again (.compLoop (.ListComp elt (⟨tg, iter, ifs, 0⟩ :: rest) sc pos) 0 it (.ref D) (zk X sc N s₀ H₀ ex pn).env)))
  (hN : X.N = NO) (hsc : X.env.scope = scO) (hs : ∀ x, foldedSetIterable iter X.env x = pure x) :
  PE X (.ListComp elt (⟨tg, iter, ifs, 0⟩ :: rest) sc pos) (qe wi own fr g tt tb) := by
 intro pins s σ H Q I h
 rw [eval_ListComp]
 refine wpAny_comprehension_free (use := none) rfl hs (aeU S hsc I.ok) S.kind (fun p hp hl => ya S.snd (k := .local) (by rw [<- hl]; exact hp)) (thn (hi pins s σ H _ I h) fun v s1 h1 => thn h1 fun itv s2 h2 => ?_)
 obtain ⟨it, fp, tn, J, H2, e, I2, T, st2, f2, q⟩ := h2
 subst e
 refine acT (RR := fun acc C => compPost (model X.prog X.w) X.A X.xe none (EP X pins σ Q) acc C) S hN hsc hc hg ht hb I2 T st2 f2 q ?_
 rintro D C s' H' ⟨m, hm⟩ c0 c1 c2 c3 c4 J' q'
 exact ⟨m, hm, fun h' hs' => ⟨.ref D, H', J'.touch hs' c2 c0 c1 c3 c4, rfl, q'⟩⟩
theorem aaC (S : CompScope NO scO N sc own fr) (hc : X.calm = true) (hNd : X.N.Nodup) (hiN : X.N[i]? = some y) (hy : Loc X.env.scope y) (hi : PI X tg iter wi) (hg : ∀ s₀ H₀ ex pn, PG (zk X sc N s₀ H₀ ex pn) tg g) (ht : ∀ s₀ H₀ ex pn, PTs (zk X sc N s₀ H₀ ex pn) ifs tt)
  (hb : ∀ D s₀ H₀ ex pn, ∃ act, PB (zk X sc N s₀ H₀ ex pn) act (tb D) /\ ∀ it, compTurn (.ListComp elt (⟨tg, iter, ifs, 0⟩ :: rest) sc pos) 0 it (.ref D) (zk X sc N s₀ H₀ ex pn).env = (do
   standAt iter.pos
   match <- pyNext it with
   | none => pure (.done .next)
   | some v =>
    letOwnedTupleGo tg it v
    assign tg (zk X sc N s₀ H₀ ex pn).env v
    let mut ok := true
    for c in ifs do
     if ok then ok <- isTrue c (zk X sc N s₀ H₀ ex pn).env (eval c (zk X sc N s₀ H₀ ex pn).env)
    if ok then
     act
    again (.compLoop (.ListComp elt (⟨tg, iter, ifs, 0⟩ :: rest) sc pos) 0 it (.ref D) (zk X sc N s₀ H₀ ex pn).env)))
  (hN : X.N = NO) (hsc : X.env.scope = scO) (hs : ∀ x, foldedSetIterable iter X.env x = pure x) (hf : X.fn y = true \/ X.env.scope.names.lookup y = some .local)
  (hsw : swapsWith (.ListComp elt (⟨tg, iter, ifs, 0⟩ :: rest) sc pos) (some (.Name y py)) spos.line X.env = pure true) :
  PS X (.Assign [.Name y py] (.ListComp elt (⟨tg, iter, ifs, 0⟩ :: rest) sc pos) spos) (qJ (qe wi own fr g tt tb) (jf i)) := by
 intro pins s σ H D I h
 rw [exec_Assign_Name_used _ _ _ _ hsw]
 refine wpAny_bind (wpAny_standAt (wpAny_bind ?_))
 show wpAny _ X.A (do let _ <- comprehension (.ListComp elt (⟨tg, iter, ifs, 0⟩ :: rest) sc pos) sc X.env _ (newList []) false (eval iter X.env) (some (assign (.Name y py) X.env))) _ _ s
 refine wpAny_bind (wpAny_mono (wpAny_comprehension_free (use := some (assign (.Name y py) X.env)) (Q := fun _ s' => SP X pins D .next s') rfl hs (aeU S hsc I.ok) S.kind (fun p hp hl => ya S.snd (k := .local) (by rw [<- hl]; exact hp))
  (thn (hi pins s σ H _ I h) fun v s1 h1 => thn h1 fun itv s2 h2 => ?_)) (fun _ s' hq => wpAny_pure (wpAny_pure hq)) fun _ _ e => e)
 obtain ⟨it, fp, tn, J, H2, e, I2, T, st2, f2, q⟩ := h2
 subst e
 refine acT (Q := fun x H1 => jf i x σ H1 D.nx) (RR := fun acc C => compPost (model X.prog X.w) X.A X.xe (some (assign (.Name y py) X.env)) (fun _ s' => SP X pins D .next s') acc C) S hN hsc hc hg ht hb I2 T st2 f2 q ?_
 rintro A' C s' H' ⟨m, hm⟩ c0 c1 c2 c3 c4 J' q'
 show wpAny _ X.A (assign (.Name y py) X.env (.ref A')) _ _ _
 refine wpAny_assign_Name (abh (v := .ref A') J' hNd hiN hy rfl (fun s2' I2' hsb => ?_) hf)
 obtain ⟨a, hs2, ha⟩ := hsb
 have hCa : C ≠ a := by
  rcases ha with ha | ha
  ·rw [ha]; exact c0
  ·exact anU (c1 _ _ ha)
 exact ⟨m, hm.sameBut hs2 hCa, fun h' hs' => ⟨_, H', I2'.touch hs' c2 c0 c1 c3 c4, q'⟩⟩
end
end
section
variable {X : Cx} {tg elt iter tg2 iter2 : Expr} {ifs ifs2 : List Expr} {sc scO : Scope} {NO N : List Str} {own : Nat} {fr : List Nat} {wi wi2 : TI} {g g2 : TG} {tt tt2 : TT} {te : TE} {pos py spos : Pos} {y : Str} {i : Nat}
theorem yD (S : CompScope NO scO N sc own fr) (hc : X.calm = true) (hi : PI X tg iter wi) (hg : ∀ s₀ H₀ ex pn, PG (zk X sc N s₀ H₀ ex pn) tg g) (ht : ∀ s₀ H₀ ex pn, PTs (zk X sc N s₀ H₀ ex pn) ifs tt) (he : ∀ s₀ H₀ ex pn, PE (zk X sc N s₀ H₀ ex pn) elt te)
  (hN : X.N = NO) (hsc : X.env.scope = scO) (hs : ∀ x, foldedSetIterable iter X.env x = pure x) : PE X (.ListComp elt [⟨tg, iter, ifs, 0⟩] sc pos) (qe wi own fr g tt fun D => qN D te) :=
 aeV S hc hi hg ht (fun D s₀ H₀ ex pn => ⟨_, ab1 (D := D) (he s₀ H₀ ex pn), fun _ => rfl⟩) hN hsc hs
theorem ql (S : CompScope NO scO N sc own fr) (hc : X.calm = true) (hNd : X.N.Nodup) (hiN : X.N[i]? = some y) (hy : Loc X.env.scope y) (hi : PI X tg iter wi) (hg : ∀ s₀ H₀ ex pn, PG (zk X sc N s₀ H₀ ex pn) tg g) (ht : ∀ s₀ H₀ ex pn, PTs (zk X sc N s₀ H₀ ex pn) ifs tt) (he : ∀ s₀ H₀ ex pn, PE (zk X sc N s₀ H₀ ex pn) elt te)
  (hN : X.N = NO) (hsc : X.env.scope = scO) (hs : ∀ x, foldedSetIterable iter X.env x = pure x) (hf : X.fn y = true \/ X.env.scope.names.lookup y = some .local)
  (hsw : swapsWith (.ListComp elt [⟨tg, iter, ifs, 0⟩] sc pos) (some (.Name y py)) spos.line X.env = pure true) :
  PS X (.Assign [.Name y py] (.ListComp elt [⟨tg, iter, ifs, 0⟩] sc pos) spos) (qJ (qe wi own fr g tt fun D => qN D te) (jf i)) :=
 aaC S hc hNd hiN hy hi hg ht (fun D s₀ H₀ ex pn => ⟨_, ab1 (D := D) (he s₀ H₀ ex pn), fun _ => rfl⟩) hN hsc hs hf hsw
end
theorem acU {elt tg iter tg2 iter2 : Expr} {ifs ifs2 : List Expr} {sc : Scope} {pos : Pos} {it acc : Value} {env : Env} :
  compTurn (.ListComp elt [⟨tg, iter, ifs, 0⟩, ⟨tg2, iter2, ifs2, 0⟩] sc pos) 0 it acc env = (do
   standAt iter.pos
   match <- pyNext it with
   | none => pure (.done .next)
   | some v =>
    letOwnedTupleGo tg it v
    assign tg env v
    let mut ok := true
    for c in ifs do
     if ok then ok <- isTrue c env (eval c env)
    if ok then
     (do
      let x <- eval iter2 env
      standAt iter2.pos
      let x <- foldedSetIterable iter2 env x
      let _ <- runOwn (.compStart (.ListComp elt [⟨tg, iter, ifs, 0⟩, ⟨tg2, iter2, ifs2, 0⟩] sc pos) 1 (<- holding [x] (pyIter x)) acc env) env)
    again (.compLoop (.ListComp elt [⟨tg, iter, ifs, 0⟩, ⟨tg2, iter2, ifs2, 0⟩] sc pos) 0 it acc env)) := by
 unfold compTurn
 simp only [bind_assoc, pure_bind]
 rfl
section
variable {X : Cx} {tg elt iter tg2 iter2 : Expr} {ifs ifs2 : List Expr} {sc scO : Scope} {NO N : List Str} {own : Nat} {fr : List Nat} {wi wi2 : TI} {g g2 : TG} {tt tt2 : TT} {te : TE} {pos py spos : Pos} {y : Str} {i : Nat}
theorem ag4 (S : CompScope NO scO N sc own fr) (hc : X.calm = true) (hi : PI X tg iter wi) (hg : ∀ s₀ H₀ ex pn, PG (zk X sc N s₀ H₀ ex pn) tg g) (ht : ∀ s₀ H₀ ex pn, PTs (zk X sc N s₀ H₀ ex pn) ifs tt)
  (hi2 : ∀ s₀ H₀ ex pn, PI (zk X sc N s₀ H₀ ex pn) tg2 iter2 wi2) (hg2 : ∀ s₀ H₀ ex pn, PG (zk X sc N s₀ H₀ ex pn) tg2 g2) (ht2 : ∀ s₀ H₀ ex pn, PTs (zk X sc N s₀ H₀ ex pn) ifs2 tt2)
  (he : ∀ s₀ H₀ ex pn, PE (zk X sc N s₀ H₀ ex pn) elt te) (hN : X.N = NO) (hsc : X.env.scope = scO) (hs : ∀ x, foldedSetIterable iter X.env x = pure x) (hs2 : ∀ s₀ H₀ ex pn x, foldedSetIterable iter2 (zk X sc N s₀ H₀ ex pn).env x = pure x) :
  PE X (.ListComp elt [⟨tg, iter, ifs, 0⟩, ⟨tg2, iter2, ifs2, 0⟩] sc pos) (qe wi own fr g tt fun D => tIn wi2 g2 tt2 (qN D te)) :=
 aeV S hc hi hg ht (fun D s₀ H₀ ex pn => ⟨_, akn (D := D) (fun _ _ z => z) hc (hi2 s₀ H₀ ex pn) (hg2 s₀ H₀ ex pn) (ht2 s₀ H₀ ex pn) (he s₀ H₀ ex pn) (hs2 s₀ H₀ ex pn), fun it => acU⟩) hN hsc hs
theorem acV (S : CompScope NO scO N sc own fr) (hc : X.calm = true) (hNd : X.N.Nodup) (hiN : X.N[i]? = some y) (hy : Loc X.env.scope y) (hi : PI X tg iter wi) (hg : ∀ s₀ H₀ ex pn, PG (zk X sc N s₀ H₀ ex pn) tg g) (ht : ∀ s₀ H₀ ex pn, PTs (zk X sc N s₀ H₀ ex pn) ifs tt)
  (hi2 : ∀ s₀ H₀ ex pn, PI (zk X sc N s₀ H₀ ex pn) tg2 iter2 wi2) (hg2 : ∀ s₀ H₀ ex pn, PG (zk X sc N s₀ H₀ ex pn) tg2 g2) (ht2 : ∀ s₀ H₀ ex pn, PTs (zk X sc N s₀ H₀ ex pn) ifs2 tt2)
  (he : ∀ s₀ H₀ ex pn, PE (zk X sc N s₀ H₀ ex pn) elt te) (hN : X.N = NO) (hsc : X.env.scope = scO) (hs : ∀ x, foldedSetIterable iter X.env x = pure x) (hs2 : ∀ s₀ H₀ ex pn x, foldedSetIterable iter2 (zk X sc N s₀ H₀ ex pn).env x = pure x)
  (hf : X.fn y = true \/ X.env.scope.names.lookup y = some .local)
  (hsw : swapsWith (.ListComp elt [⟨tg, iter, ifs, 0⟩, ⟨tg2, iter2, ifs2, 0⟩] sc pos) (some (.Name y py)) spos.line X.env = pure true) :
  PS X (.Assign [.Name y py] (.ListComp elt [⟨tg, iter, ifs, 0⟩, ⟨tg2, iter2, ifs2, 0⟩] sc pos) spos) (qJ (qe wi own fr g tt fun D => tIn wi2 g2 tt2 (qN D te)) (jf i)) :=
 aaC S hc hNd hiN hy hi hg ht (fun D s₀ H₀ ex pn => ⟨_, akn (D := D) (fun _ _ z => z) hc (hi2 s₀ H₀ ex pn) (hg2 s₀ H₀ ex pn) (ht2 s₀ H₀ ex pn) (he s₀ H₀ ex pn) (hs2 s₀ H₀ ex pn), fun it => acU⟩) hN hsc hs hf hsw
end
section
variable {X : Cx} {pins : List (Addr × Obj)} {σ : St} {H : Hp} {s : Shared} {h' : Heap} {fp : List Addr}
theorem Inv.turnedAll {t' : Nat} (I : Inv X pins σ H s) (hf : ∀ b ∈ fp, va X pins H b) (k : ∀ b o, b ∉ fp -> s.heap.get? b = some o -> h'.get? b = some o) : Inv X pins σ H { s with heap := h', toks := t' } := by
 refine I.step (g' := s.gens) (d' := s.drawn) (ch := fp) (fun b hb => ⟨(hf b hb).2.2.2.1, (hf b hb).2.1, (hf b hb).2.2.2.2⟩) (fun b o _ _ hc e _ => k b o hc e) (fun b o _ _ hc e _ => ⟨o.slots, k b o hc e⟩) (fun _ _ _ _ n => n)
  (fun b o hc e => ⟨o, k b o hc e⟩) (fun _ _ e => e) (fun _ _ _ e => e) (fun b ps e => ⟨#[], by rw [e]; simp⟩) (fun m hm => ?_) (fun b u e => ?_) I.bare
 ·obtain ⟨o, es, ep, ho, r⟩ := hm
  exact ⟨o, es, ep, k _ o (fun z => (hf _ z).2.1 rfl) ho, r⟩
 ·refine (I.hok b u e).stay (fun c v hc q => k c v (fun z => ?_) q) (fun _ q => q) fun _ _ q => q
  have hn := (hf c z).1
  rcases hc with hc | hc
  ·subst hc; rw [e] at hn; cases hn
  ·rw [hc] at hn; cases hn
theorem Inv.turnedNew {t' : Nat} {t : Addr} {o : HO} (I : Inv X pins σ H s) (hf : ∀ b ∈ fp, va X pins H b) (k : ∀ b o, b ∉ fp -> s.heap.get? b = some o -> h'.get? b = some o) (ht : s.heap.objs.size <= t) (new : ObjOk X.prog X.w (upd H t o) h' t o) :
  Inv X pins σ (upd H t o) { s with heap := h', toks := t' } := by
 have hn : H t = none := I.hok.fresh ht
 have ne : ∀ b ob, s.heap.get? b = some ob -> b ≠ t := fun b ob e => ano (ane (amZ e) ht)
 refine I.step (g' := s.gens) (d' := s.drawn) (ch := fp) (fun b hb => ⟨(hf b hb).2.2.2.1, (hf b hb).2.1, (hf b hb).2.2.2.2⟩) (fun b o _ _ hc e _ => k b o hc e) (fun b o _ _ hc e _ => ⟨o.slots, k b o hc e⟩) (fun b ob _ e n => by rw [zy (ne b ob e)]; exact n)
  (fun b o hc e => ⟨o, k b o hc e⟩) (fun b xs e => by rw [zy (zK e hn)]; exact e) (fun b ob u e => by rw [zy (zK e hn)]; exact e) (fun b ps e => ⟨#[], by rw [zy (zK e hn), e]; simp⟩) (fun m hm => ?_) (fun b u e => ?_) I.bare
 ·obtain ⟨o, es, ep, ho, r⟩ := hm
  exact ⟨o, es, ep, k _ o (fun z => (hf _ z).2.1 rfl) ho, r⟩
 ·by_cases hb : b = t
  ·subst hb; rw [zz] at e; cases e; exact new
  ·rw [zy hb] at e
   refine (I.hok b u e).stay (fun c v hc q => k c v (fun z => ?_) q) (fun c q => by rw [zy (zK q hn)]; exact q) fun c xs q => by rw [zy (zK q hn)]; exact q
   have hn' := (hf c z).1
   rcases hc with hc | hc
   ·subst hc; rw [e] at hn'; cases hn'
   ·rw [hc] at hn'; cases hn'
end
def Ite (K : amR) (a : Addr) : It :=
 ⟨fun i H => ∃ xs x, SqL K H a xs /\ xs[i]? = some x, fun i H x H' => ∃ t y, x = .ref t /\ H t = none /\ H' = upd H t (.tup [.int i, y]) /\ ∀ xs, SqL K H a xs -> xs[i]? = some y, fun i H => ∃ xs, SqL K H a xs /\ xs.length <= i⟩
theorem af4 {P : Program} {w : World} {K : amR} {es : List Expr} {k : Nat} {pos : Pos} (a e it : Addr) (hne : e ≠ it) : Turn P w K (.Tuple es k pos) (Ite K a) [e, it] e (fun i h => (∃ old, IsEnum h e it i old) /\ h.IsListIter it a i) where
 mem := by simp
 obj := fun i h st b hb => by
  obtain ⟨⟨old, se⟩, o, eo, c, d⟩ := st
  rcases am2.mp hb with z | z
  ·subst z
   exact ⟨_, se, fun v z => by
    have z' : Data.fields _ = Data.cell v := z
    cases z'⟩
  ·have z : b = it := by simpa using z
   subst z
   exact ⟨o, eo, fun v z => by rw [d] at z; cases z⟩
 keep := fun i h h' st kk => ⟨let ⟨old, se⟩ := st.1; ⟨old, kk e (by simp) _ se⟩, st.2.at fun o eo => kk it (by simp) o eo⟩
 item := by
  intro X hP hw hK hc i pins s σ H E I hf st hg
  subst hP hw hK
  obtain ⟨xs, x, hq, hx⟩ := hg
  obtain ⟨its, rv, p, hz⟩ := I.list hq
  obtain ⟨u, hu, ru⟩ := rv.get hx
  obtain ⟨⟨old, se⟩, si⟩ := st
  refine wpAny_pyNext_enum_item se si p.isList (x := u) (by simpa using hu) hne fun h' so si' tp sz kp => ?_
  refine ⟨_, rfl, ?_⟩
  refine wpAny_letOwnedTupleGo_enum (s := { s with heap := h', toks := s.toks + 1 }) so fun h2 se2 sb => ?_
  have hlt : e < s.heap.objs.size := amZ se
  obtain ⟨oi, eoi, _, _⟩ := id si
  have hlt2 : it < s.heap.objs.size := amZ eoi
  have kk : ∀ b o, b ∉ [e, it] -> s.heap.get? b = some o -> h2.get? b = some o := fun b o hb eb => by
   have h1 : b ≠ e := fun z => hb (by simp [z])
   have h2' : b ≠ it := fun z => hb (by simp [z])
   exact (sb.2 b h1).trans (kp b o h1 h2' eb)
  have I2 : Inv X pins σ (upd H s.heap.objs.size (.tup [.int i, x])) { s with heap := h2, toks := s.toks + 1 } := I.turnedNew hf kk (amV _)
   ⟨by show 2 <= sizeLine; decide, [.int i s.toks, u], .cons ⟨_, rfl⟩ (.cons ru .nil), ⟨_, (sb.2 _ (aoW hlt)).trans tp, rfl, _, rfl⟩⟩
  refine ⟨.ref s.heap.objs.size, _, I2, rfl, ⟨_, x, rfl, I.fresh, rfl, fun ys hy => by rw [I.list_inj hy hq]; exact hx⟩, ⟨⟨_, se2⟩, ?_⟩, fun b hb => ?_⟩
  ·exact si'.at fun o eo => (sb.2 it (anU hne)).trans eo
  ·rw [zy]
   ·exact (hf b hb).1
   ·rcases am2.mp hb with z | z
    ·subst z; exact ano hlt
    ·have z : b = it := by simpa using z
     subst z; exact ano hlt2
 done := by
  intro X hP hw hK hc i pins s σ H E I hf st hg
  subst hP hw hK
  obtain ⟨xs, hq, hx⟩ := hg
  obtain ⟨its, rv, p, hz⟩ := I.list hq
  obtain ⟨⟨old, se⟩, si⟩ := st
  have hl := rv.length
  exact wpAny_pyNext_enum_end (I.ok.hd hc) se si p.isList (by simp; omega) fun h' eb => ⟨rfl, I.turnedAll (t' := s.toks) hf fun b o hb e' => eb b o (fun z => hb (by simp [z])) e'⟩
 self := fun _ _ _ _ _ st h => let ⟨_, se⟩ := st.1; wpAny_pyIter_enum se h
section
variable {X : Cx} {es : List Expr} {k : Nat} {tpos : Pos}
def ag5 (K : amR) (ta : TA) : TI := fun σ H R => ta σ H fun vs H1 => ∃ a, vs = [.ref a] /\ (∃ xs, SqL K H1 a xs) /\ R (Ite K a) H1
theorem ai5 {a : Expr} {ta : TA} {p pos : Pos} (hg : Gl X "enumerate") (hm : X.mg "enumerate" = none) (ha : PA X [a] ta) (hs : starEach [a] X.env = [(false, eval a X.env)] := by rfl) : PI X (.Tuple es k tpos) (.Call (.Name "enumerate" p) [a] [] pos) (ag5 X.K ta) := by
 intro pins s σ H R I h
 refine Call_ (qR I hg hm boot_enumerate (aos (thn (ha pos pins s σ H _ I h) fun us s1 ⟨vs, H1, I1, r1, q1⟩ => ?_) hs rfl))
 obtain ⟨l, e, ⟨xs, hq⟩, q⟩ := q1
 subst e
 cases r1 with
 | cons r rr =>
  cases rr
  cases r
  obtain ⟨its, rv, p, hz⟩ := I1.list hq
  refine call_enumerate_list p.isList fun h' he hi hsz kp => ?_
  refine wpAny_pyIter_enum he ?_
  have hne : s1.heap.objs.size + 1 ≠ s1.heap.objs.size := Nat.succ_ne_self _
  refine ⟨s1.heap.objs.size + 1, [s1.heap.objs.size + 1, s1.heap.objs.size], _, _, H1, rfl, I1.kept (t' := s1.toks) kp, af4 l _ _ hne, ⟨⟨_, he⟩, hi⟩, fun b hb => ?_, q⟩
  rcases am2.mp hb with z | z
  ·subst z; exact I1.fpOk (aqz _) (I1.hok.fresh (aqz _))
  ·have z : b = s1.heap.objs.size := by simpa using z
   subst z; exact I1.fpOk (amV _) (I1.hok.fresh (amV _))
end
theorem ag6 {K : amR} {a : Addr} {xs : List V} {g : TG} {tb : TS} {D : Ends} {σ : St} {H : Hp} (Pv : Nat -> St -> Hp -> Prop) (h0 : Pv 0 σ H) (hl : ∀ i σ H, i <= xs.length -> Pv i σ H -> SqL K H a xs)
  (hs : ∀ i x σ H t, xs[i]? = some x -> Pv i σ H -> H t = none -> g (.ref t) σ (upd H t (.tup [.int i, x])) fun σ2 H2 => tb { D with nx := Pv (i + 1), ct := Pv (i + 1), bk := D.nx } σ2 H2) (hd : ∀ σ H, Pv xs.length σ H -> D.nx σ H) :
  ∃ W : Nat -> Nat -> St -> Hp -> Prop, (∃ m, W 0 m σ H) /\ ∀ i m σ H, W i m σ H ->
   ((Ite K a).stop i H /\ D.nx σ H) \/ ((Ite K a).go i H /\ ∃ N : St -> Hp -> Prop, (∀ σ' H', N σ' H' -> ∃ m', m' < m /\ W (i + 1) m' σ' H') /\ ∀ x H', (Ite K a).yld i H x H' -> g x σ H' fun σ2 H2 => tb { D with nx := N, ct := N, bk := D.nx } σ2 H2) := by
 refine ⟨fun i m σ H => Pv i σ H /\ i <= xs.length /\ m + i = xs.length, ⟨xs.length, h0, anA _, rfl⟩, fun i m σ H ⟨p, hi, hm⟩ => ?_⟩
 have q := hl i σ H hi p
 by_cases hlt : i < xs.length
 ·refine .inr ⟨⟨xs, xs[i], q, amP hlt⟩, Pv (i + 1), fun σ' H' n => ⟨m - 1, by omega, n, hlt, by omega⟩, fun x H' hy => ?_⟩
  obtain ⟨t, y, rfl, ht, rfl, hy⟩ := hy
  exact hs i y σ H t (hy xs q) p ht
 ·have e : i = xs.length := by omega
  subst e
  exact .inl ⟨⟨xs, q, amV _⟩, hd σ H p⟩
mutual
def Rep (K : amR) (H : Hp) : PyData -> V -> Prop
 | .none, v => v = .non
 | .bool b, v => v = .bl b
 | .int i, v => v = .int i
 | .str x, v => v = .str x
 | .list ds, v => ∃ a xs, v = .ref a /\ SqL K H a xs /\ Reps K H ds xs
 | .tuple ds, v => ∃ a xs, v = .ref a /\ SqT K H a xs /\ Reps K H ds xs
 | .dict _, _ => False
def Reps (K : amR) (H : Hp) : List PyData -> List V -> Prop
 | [], xs => xs = []
 | d :: ds, xs => ∃ x r, xs = x :: r /\ Rep K H d x /\ Reps K H ds r
end
theorem Same.seqT {K : amR} {H H' : Hp} {a : Addr} {xs : List V} (e : Same H H') (h : SqT K H a xs) : SqT K H' a xs := by
 rcases h with (h | ⟨o, h⟩) | h
 ·exact .inl (.inl (e _ _ h))
 ·exact .inl (.inr ⟨o, e _ _ h⟩)
 ·exact .inr h
mutual
theorem Rep.mono {K : amR} {H H' : Hp} (e : Same H H') : ∀ (d : PyData) (v : V), Rep K H d v -> Rep K H' d v
 | .none, _, h => by rw [Rep] at h ⊢; exact h
 | .bool _, _, h => by rw [Rep] at h ⊢; exact h
 | .int _, _, h => by rw [Rep] at h ⊢; exact h
 | .str _, _, h => by rw [Rep] at h ⊢; exact h
 | .list ds, v, h => by
  rw [Rep] at h ⊢
  obtain ⟨a, xs, h1, h2, h3⟩ := h
  exact ⟨a, xs, h1, e.seq h2, Reps.mono e ds xs h3⟩
 | .tuple ds, v, h => by
  rw [Rep] at h ⊢
  obtain ⟨a, xs, h1, h2, h3⟩ := h
  exact ⟨a, xs, h1, e.seqT h2, Reps.mono e ds xs h3⟩
 | .dict _, _, h => by rw [Rep] at h; exact h.elim
theorem Reps.mono {K : amR} {H H' : Hp} (e : Same H H') : ∀ (ds : List PyData) (xs : List V), Reps K H ds xs -> Reps K H' ds xs
 | [], _, h => by rw [Reps] at h ⊢; exact h
 | d :: ds, xs, h => by
  rw [Reps] at h ⊢
  obtain ⟨x, r, h1, h2, h3⟩ := h
  exact ⟨x, r, h1, Rep.mono e d x h2, Reps.mono e ds r h3⟩
end
theorem rep_int {K : amR} {H : Hp} {i : Int} {v : V} : Rep K H (.int i) v ↔ v = .int i := by rw [Rep]
theorem rep_bool {K : amR} {H : Hp} {b : Bool} {v : V} : Rep K H (.bool b) v ↔ v = .bl b := by rw [Rep]
theorem rep_none {K : amR} {H : Hp} {v : V} : Rep K H .none v ↔ v = .non := by rw [Rep]
theorem rep_str {K : amR} {H : Hp} {x : Str} {v : V} : Rep K H (.str x) v ↔ v = .str x := by rw [Rep]
theorem rep_list {K : amR} {H : Hp} {ds : List PyData} {v : V} : Rep K H (.list ds) v ↔ ∃ a xs, v = .ref a /\ SqL K H a xs /\ Reps K H ds xs := by rw [Rep]
theorem rep_tuple {K : amR} {H : Hp} {ds : List PyData} {v : V} : Rep K H (.tuple ds) v ↔ ∃ a xs, v = .ref a /\ SqT K H a xs /\ Reps K H ds xs := by rw [Rep]
theorem reps_nil {K : amR} {H : Hp} {xs : List V} : Reps K H [] xs ↔ xs = [] := by rw [Reps]
theorem reps_cons {K : amR} {H : Hp} {d : PyData} {ds : List PyData} {xs : List V} : Reps K H (d :: ds) xs ↔ ∃ x r, xs = x :: r /\ Rep K H d x /\ Reps K H ds r := by rw [Reps]
theorem Reps.nil' {K : amR} {H : Hp} : Reps K H [] [] := reps_nil.mpr rfl
theorem Reps.cons' {K : amR} {H : Hp} {d : PyData} {ds : List PyData} {x : V} {r : List V} (h : Rep K H d x) (t : Reps K H ds r) : Reps K H (d :: ds) (x :: r) := reps_cons.mpr ⟨x, r, rfl, h, t⟩
theorem Reps.length {K : amR} {H : Hp} : ∀ {ds : List PyData} {xs : List V}, Reps K H ds xs -> xs.length = ds.length
 | [], xs, h => by rw [reps_nil.mp h]; rfl
 | d :: ds, xs, h => by
  obtain ⟨x, r, rfl, _, h3⟩ := reps_cons.mp h
  rw [anb, anb, Reps.length h3]
theorem Reps.get {K : amR} {H : Hp} : ∀ {ds : List PyData} {xs : List V} {i : Nat} {d : PyData}, Reps K H ds xs -> ds[i]? = some d -> ∃ x, xs[i]? = some x /\ Rep K H d x
 | [], _, _, _, _, e => by simp at e
 | d :: ds, xs, 0, d', h, e => by
  obtain ⟨x, r, rfl, h2, _⟩ := reps_cons.mp h
  simp at e; subst e
  exact ⟨x, rfl, h2⟩
 | d :: ds, xs, i + 1, d', h, e => by
  obtain ⟨x, r, rfl, _, h3⟩ := reps_cons.mp h
  obtain ⟨y, h1, h2⟩ := Reps.get (i := i) h3 (by simpa using e)
  exact ⟨y, by simpa using h1, h2⟩
theorem Reps.snoc {K : amR} {H : Hp} {d : PyData} {x : V} (h : Rep K H d x) : ∀ {ds : List PyData} {xs : List V}, Reps K H ds xs -> Reps K H (ds ++ [d]) (xs ++ [x])
 | [], xs, t => by rw [reps_nil.mp t]; exact .cons' h .nil'
 | d' :: ds, xs, t => by
  obtain ⟨y, r, rfl, h2, h3⟩ := reps_cons.mp t
  exact .cons' h2 (Reps.snoc h h3)
theorem Reps.append {K : amR} {H : Hp} : ∀ {ds es : List PyData} {xs ys : List V}, Reps K H ds xs -> Reps K H es ys -> Reps K H (ds ++ es) (xs ++ ys)
 | [], es, xs, ys, t, u => by rw [reps_nil.mp t]; exact u
 | d' :: ds, es, xs, ys, t, u => by
  obtain ⟨y, r, rfl, h2, h3⟩ := reps_cons.mp t
  exact .cons' h2 (Reps.append h3 u)
theorem Reps.ints {K : amR} {H : Hp} : ∀ {ns : List Int} {xs : List V}, Reps K H (ns.map .int) xs -> xs = ns.map V.int
 | [], xs, h => reps_nil.mp h
 | n :: ns, xs, h => by
  obtain ⟨x, r, rfl, h2, h3⟩ := reps_cons.mp h
  rw [rep_int.mp h2, Reps.ints h3]; rfl
theorem Reps.ints' {K : amR} {H : Hp} : ∀ (ns : List Int), Reps K H (ns.map .int) (ns.map V.int)
 | [] => .nil'
 | n :: ns => .cons' (rep_int.mpr rfl) (Reps.ints' ns)
section
variable {X : Cx} {pins : List (Addr × Obj)} {σ : St} {H : Hp} {s : Shared}
mutual
theorem jG (I : Inv X pins σ H s) : ∀ (d : PyData) (v : V) (u : Value), Rep X.K H d v -> RelV v u -> ∃ as, Reads s.heap u d as
 | .none, v, u, h, r => by rw [rep_none.mp h] at r; cases r; exact ⟨_, .none⟩
 | .bool b, v, u, h, r => by rw [rep_bool.mp h] at r; cases r; exact ⟨_, .bool b⟩
 | .int i, v, u, h, r => by rw [rep_int.mp h] at r; obtain ⟨t, rfl⟩ := r; exact ⟨_, .int i t⟩
 | .str x, v, u, h, r => by rw [rep_str.mp h] at r; obtain ⟨t, rfl⟩ := r; exact ⟨_, .str x t⟩
 | .list ds, v, u, h, r => by
  obtain ⟨a, xs, rfl, h2, h3⟩ := rep_list.mp h
  cases r
  obtain ⟨its, rv, p, _⟩ := I.list h2
  obtain ⟨o, ho, hc, n, hd⟩ := p.isList
  obtain ⟨as, ra⟩ := jm I ds xs its h3 rv
  exact ⟨_, .list ho hc hd (by simpa using ra)⟩
 | .tuple ds, v, u, h, r => by
  obtain ⟨a, xs, rfl, h2, h3⟩ := rep_tuple.mp h
  cases r
  obtain ⟨its, rv, p, _⟩ := I.tuple h2
  obtain ⟨o, ho, hc, n, hd⟩ := p
  obtain ⟨as, ra⟩ := jm I ds xs its h3 rv
  exact ⟨_, .tuple ho hc hd (by simpa using ra)⟩
 | .dict _, _, _, h, _ => by rw [Rep] at h; exact h.elim
theorem jm (I : Inv X pins σ H s) : ∀ (ds : List PyData) (xs : List V) (us : List Value), Reps X.K H ds xs -> Vals xs us -> ∃ as, ReadsAll s.heap us ds as
 | [], xs, us, h, r => by rw [reps_nil.mp h] at r; cases r; exact ⟨_, .nil⟩
 | d :: ds, xs, us, h, r => by
  obtain ⟨x, q, rfl, h2, h3⟩ := reps_cons.mp h
  cases r with
  | cons r1 r2 =>
   obtain ⟨as, ra⟩ := jG I d x _ h2 r1
   obtain ⟨bs, rb⟩ := jm I ds q _ h3 r2
   exact ⟨_, .cons ra rb⟩
end
def af5 (K : amR) (neg : Bool) : R2 := fun x y H Q => ∃ d d', Rep K H d x /\ Rep K H d' y /\ d.canLay0 = true /\ d'.canLay0 = true /\ min d.depth d'.depth <= 60 /\ Q (.bl (if neg then !anl d d' else anl d d')) H
theorem ak6 (hu : X.A.units + 64 < cLine) : OpR X (compareOp .Eq) (af5 X.K false) := by
 intro pins s σ H x y v u Q I rx ry h
 obtain ⟨d, d', h1, h2, c1, c2, hm, q⟩ := h
 obtain ⟨as, ra⟩ := jG I d x v h1 rx
 obtain ⟨bs, rb⟩ := jG I d' y u h2 ry
 exact SeqAt.compareEq_reads ra rb c1 c2 (by omega) ⟨.bl (anl d d'), H, I, rfl, q⟩
theorem ak7 (hu : X.A.units + 64 < cLine) : OpR X (compareOp .NotEq) (af5 X.K true) := by
 intro pins s σ H x y v u Q I rx ry h
 obtain ⟨d, d', h1, h2, c1, c2, hm, q⟩ := h
 obtain ⟨as, ra⟩ := jG I d x v h1 rx
 obtain ⟨bs, rb⟩ := jG I d' y u h2 ry
 exact SeqAt.compareNe_reads ra rb c1 c2 (by omega) ⟨.bl (!anl d d'), H, I, rfl, q⟩
theorem af6 (hc : X.calm = true) : yk X (.builtin "min") (fun xs H Q => ∃ a ns, xs = [.ref a] /\ SqL X.K H a (ns.map V.int) /\ ns ≠ [] /\ ∀ M, M ∈ ns -> (∀ b ∈ ns, M <= b) -> Q (.int M) H) := by
 intro pins s σ H xs us Q I r h
 obtain ⟨a, ns, rfl, hq, hne, q⟩ := h
 obtain ⟨u, rfl, r1⟩ := vals1 r
 cases r1
 obtain ⟨its, rv, p, _⟩ := I.list hq
 obtain ⟨m, F⟩ := I.fr
 have hi := intsAre_of rv
 obtain ⟨ys, e⟩ := hi.allInts.items
 have hns : ns = ys.toList.map (·.1) := by rw [<- hi.numsOf, <- nums_intItems, <- e]
 have hsz : 0 < ys.size := by
  have h3 : 0 < ns.length := aof.mpr hne
  rw [hns, amT, am5] at h3; exact h3
 have hl := p.isList
 rw [e] at hl
 refine min_intList (I.ok.hd hc) hl hsz fun v h' tk hv hk => ?_
 obtain ⟨t, rfl⟩ := intItems_at hv
 obtain ⟨_, h2⟩ := argBest_lt (numAt ys) (ys.size - 1)
 refine ⟨.int _, H, I.kept (t' := tk) hk, ⟨t, rfl⟩, q _ ?_ fun b hb => ?_⟩
 ·rw [hns, numAt_eq]; exact getD_mem (by rw [amT, am5]; omega)
 ·rw [hns] at hb
  obtain ⟨j, hj, rfl⟩ := mem_getD hb
  rw [amT, am5] at hj
  rw [<- numAt_eq]; exact h2 j (by omega)
theorem af7 (hc : X.calm = true) : yk X (.builtin "max") (fun xs H Q => ∃ a ns, xs = [.ref a] /\ SqL X.K H a (ns.map V.int) /\ ns ≠ [] /\ ∀ M, M ∈ ns -> (∀ b ∈ ns, b <= M) -> Q (.int M) H) := by
 intro pins s σ H xs us Q I r h
 obtain ⟨a, ns, rfl, hq, hne, q⟩ := h
 obtain ⟨u, rfl, r1⟩ := vals1 r
 cases r1
 obtain ⟨its, rv, p, _⟩ := I.list hq
 have hi := intsAre_of rv
 obtain ⟨ys, e⟩ := hi.allInts.items
 have hns : ns = ys.toList.map (·.1) := by rw [<- hi.numsOf, <- nums_intItems, <- e]
 have hsz : 0 < ys.size := by
  have h3 : 0 < ns.length := aof.mpr hne
  rw [hns, amT, am5] at h3; exact h3
 have hl := p.isList
 rw [e] at hl
 refine max_intList (I.ok.hd hc) hl hsz fun v h' tk hv hk => ?_
 obtain ⟨t, rfl⟩ := intItems_at hv
 obtain ⟨_, h2⟩ := argBest_gt (numAt ys) (ys.size - 1)
 refine ⟨.int _, H, I.kept (t' := tk) hk, ⟨t, rfl⟩, q _ ?_ fun b hb => ?_⟩
 ·rw [hns, numAt_eq]; exact getD_mem (by rw [amT, am5]; omega)
 ·rw [hns] at hb
  obtain ⟨j, hj, rfl⟩ := mem_getD hb
  rw [amT, am5] at hj
  rw [<- numAt_eq]; exact h2 j (by omega)
end
inductive DV where
 | dat (d : PyData)
 | feed
 | own (k : Nat)
 | exc (C : Value)
 | mon (φ : Hp -> V -> Prop)
abbrev zr := List (Option DV)
structure Fx where
 f : Option Addr
 M : List Addr
def hide (H : Hp) (f : Fx) : Hp := fun b => if f.f = some b \/ b ∈ f.M then none else H b
structure FOk (f : Fx) (H : Hp) : Prop where
 fd : ∀ p, f.f = some p -> ∃ a b : Int, H p = some (.lst [.int a, .int b]) /\ 0 <= a /\ 0 <= b /\ b < 2147483647
 mm : ∀ b ∈ f.M, ∃ o, H b = some o
 nm : ∀ p, f.f = some p -> p ∉ f.M
def RepV (K : amR) (f : Fx) (H : Hp) : DV -> V -> Prop
 | .dat d, v => Rep K (hide H f) d v
 | .feed, v => ∃ p, f.f = some p /\ v = .ref p
 | .own k, v => ∃ p, f.M.reverse[k]? = some p /\ v = .ref p
 | .exc C, v => ∃ a, v = .ref a /\ hide H f a = some (.ext fun h => ∃ o, h.get? a = some o /\ o.cls = C)
 | .mon φ, v => ∀ H', Same (hide H f) H' -> φ H' v
structure Goes (f : Fx) (H H' : Hp) : Prop where
 sm : Same (hide H f) (hide H' f)
 ok : FOk f H'
 kp : ∀ b ∈ f.M, H' b = H b
structure EnvOk (K : amR) (f : Fx) (ρ : zr) (σ : St) (H : Hp) : Prop where
 len : ρ.length = σ.length
 get : ∀ (i : Nat) x, ρ[i]? = some (some x) -> ∃ v, σ[i]? = some (some v) /\ RepV K f H x v
 fd : FOk f H
theorem yG (H : Hp) : hide H ⟨none, []⟩ = H := by funext b; unfold hide; rw [if_neg (by rintro (h | h) <;> cases h)]
theorem zl (H : Hp) (f : Fx) : Same (hide H f) H := fun b o h => by
 unfold hide at h
 split at h
 ·cases h
 ·exact h
theorem zS {H : Hp} {f : Fx} {b : Addr} {o : HO} (h : hide H f b = some o) : ¬ (f.f = some b \/ b ∈ f.M) /\ H b = some o := by
 unfold hide at h
 split at h
 ·cases h
 ·rename_i n; exact ⟨n, h⟩
theorem zB {H : Hp} {f : Fx} {b : Addr} {o : HO} (n : ¬ (f.f = some b \/ b ∈ f.M)) (h : H b = some o) : hide H f b = some o := by unfold hide; rw [if_neg n]; exact h
theorem Goes.refl {f : Fx} {H : Hp} (h : FOk f H) : Goes f H H := ⟨Same.refl _, h, fun _ _ => rfl⟩
theorem Goes.trans {f : Fx} {H H1 H2 : Hp} (a : Goes f H H1) (b : Goes f H1 H2) : Goes f H H2 := ⟨a.1.trans b.1, b.2, fun x hx => (b.kp x hx).trans (a.kp x hx)⟩
theorem Goes.of_same {f : Fx} {H H' : Hp} (s : Same H H') (h : FOk f H) : Goes f H H' :=
 ⟨fun b o e => zB (zS e).1 (s b o (zS e).2), ⟨fun p e => let ⟨a, b, h1, h2⟩ := h.fd p e; ⟨a, b, s _ _ h1, h2⟩, fun b hb => let ⟨o, e⟩ := h.mm b hb; ⟨o, s _ _ e⟩, h.nm⟩, fun b hb => let ⟨o, e⟩ := h.mm b hb; (s _ _ e).trans e.symm⟩
theorem zY {H : Hp} {p : Addr} (h : H p = none) (o : HO) : Same H (upd H p o) := fun b u q => by rw [zy (zK q h)]; exact q
theorem RepV.mono {K : amR} {f : Fx} {H H' : Hp} (g : Goes f H H') : ∀ {x : DV} {v : V}, RepV K f H x v -> RepV K f H' x v
 | .dat d, v, h => Rep.mono g.1 d v h
 | .feed, v, h => h
 | .own _, v, h => h
 | .exc _, v, h => let ⟨a, e, q⟩ := h; ⟨a, e, g.1 _ _ q⟩
 | .mon _, v, h => fun H' s => h H' (g.1.trans s)
theorem EnvOk.mono {K : amR} {f : Fx} {ρ : zr} {σ : St} {H H' : Hp} (e : EnvOk K f ρ σ H) (g : Goes f H H') : EnvOk K f ρ σ H' :=
 ⟨e.len, fun i x h => let ⟨v, h1, h2⟩ := e.get i x h; ⟨v, h1, h2.mono g⟩, g.2⟩
theorem EnvOk.set {K : amR} {f : Fx} {ρ : zr} {σ : St} {H : Hp} {x : DV} {v : V} (e : EnvOk K f ρ σ H) (i : Nat) (r : RepV K f H x v) : EnvOk K f (ρ.set i (some x)) (σ.set i (some v)) H := by
 refine ⟨by rw [aoo, aoo]; exact e.len, fun j y h => ?_, e.fd⟩
 by_cases hj : i = j
 ·subst hj
  by_cases hi : i < ρ.length
  ·rw [aob hi] at h
   cases h
   exact ⟨v, by rw [aob (by rw [<- e.len]; exact hi)], r⟩
  ·rw [anj (by rw [aoo]; omega)] at h; cases h
 ·rw [aol hj] at h ⊢
  exact e.get j y h
theorem fresh_ne {f : Fx} {H : Hp} {p : Addr} (h : FOk f H) (n : H p = none) : ¬ (f.f = some p \/ p ∈ f.M) := fun e => by
 rcases e with e | e
 ·obtain ⟨a, b, h1, _⟩ := h.fd p e
  rw [n] at h1; cases h1
 ·obtain ⟨o, h1⟩ := h.mm p e
  rw [n] at h1; cases h1
inductive RepVs (K : amR) (f : Fx) (H : Hp) : List DV -> List V -> Prop where
 | nil : RepVs K f H [] []
 | cons {x v xs vs} : RepV K f H x v -> RepVs K f H xs vs -> RepVs K f H (x :: xs) (v :: vs)
theorem RepVs.mono {K : amR} {f : Fx} {H H' : Hp} (g : Goes f H H') : ∀ {xs : List DV} {vs : List V}, RepVs K f H xs vs -> RepVs K f H' xs vs
 | _, _, .nil => .nil
 | _, _, .cons r t => .cons (r.mono g) (t.mono g)
theorem RepVs.length {K : amR} {f : Fx} {H : Hp} : ∀ {xs : List DV} {vs : List V}, RepVs K f H xs vs -> vs.length = xs.length
 | _, _, .nil => rfl
 | _, _, .cons _ t => by rw [anb, anb, t.length]
section
variable (K : amR) (f : Fx)
def PEd (te : TE) (ρ : zr) (P : PyData -> Prop) : Prop := ∀ (σ : St) (H : Hp) (Q : VK), EnvOk K f ρ σ H -> (∀ d v H', Goes f H H' -> Rep K (hide H' f) d v -> P d -> Q v H') -> te σ H Q
def PTd (tt : TT) (ρ : zr) (P : Bool -> Prop) : Prop := ∀ (σ : St) (H : Hp) (Q : Bool -> Hp -> Prop), EnvOk K f ρ σ H -> (∀ b H', Goes f H H' -> P b -> Q b H') -> tt σ H Q
def PAd (ta : TA) (ρ : zr) (P : List DV -> Prop) : Prop := ∀ (σ : St) (H : Hp) (Q : List V -> Hp -> Prop), EnvOk K f ρ σ H -> (∀ xs vs H', Goes f H H' -> RepVs K f H' xs vs -> P xs -> Q vs H') -> ta σ H Q
structure DEnds where
 nx : zr -> Prop
 rt : PyData -> Prop
 bk : zr -> Prop := fun _ => False
 ct : zr -> Prop := fun _ => False
def PSd (ts : TS) (ρ : zr) (D : DEnds) : Prop := ∀ (σ : St) (H : Hp) (E : Ends), EnvOk K f ρ σ H -> (∀ ρ' σ' H', Goes f H H' -> EnvOk K f ρ' σ' H' -> D.nx ρ' -> E.nx σ' H') -> (∀ d v H', Goes f H H' -> Rep K (hide H' f) d v -> D.rt d -> E.rt v H') ->
 (∀ ρ' σ' H', Goes f H H' -> EnvOk K f ρ' σ' H' -> D.bk ρ' -> E.bk σ' H') -> (∀ ρ' σ' H', Goes f H H' -> EnvOk K f ρ' σ' H' -> D.ct ρ' -> E.ct σ' H') -> ts E σ H
def spD {γ : Type} (n : Nat) (pre : γ -> List DV -> Prop) (post : γ -> PyData -> Prop) : Sp := fun vs H Q _ => ∃ f xs c, RepVs K f H xs vs /\ xs.length = n /\ FOk f H /\ pre c xs /\ ∀ r v H', Goes f H H' -> Rep K (hide H' f) r v -> post c r -> Q v H'
end
section
variable {K : amR} {f : Fx} {ρ : zr} {P : PyData -> Prop} {te ta tb tc : TE}
theorem zo {i : Nat} {d : PyData} (h : ρ[i]? = some (some (.dat d))) (p : P d) : PEd K f (yn i) ρ P := fun σ H Q e q => by
 obtain ⟨v, h1, h2⟩ := e.get i _ h
 exact ⟨v, h1, q d v H (.refl e.fd) h2 p⟩
theorem yt {i : Int} (p : P (.int i)) : PEd K f (tC (.int i)) ρ P := fun σ H Q e q => q (.int i) _ H (.refl e.fd) (rep_int.mpr rfl) p
theorem amd {i : Bool} (p : P (.bool i)) : PEd K f (tC (.bl i)) ρ P := fun σ H Q e q => q (.bool i) _ H (.refl e.fd) (rep_bool.mpr rfl) p
theorem qO {i : Str} (p : P (.str i)) : PEd K f (tC (.str i)) ρ P := fun σ H Q e q => q (.str i) _ H (.refl e.fd) (rep_str.mpr rfl) p
theorem ako (p : P .none) : PEd K f (tC .non) ρ P := fun σ H Q e q => q .none _ H (.refl e.fd) (rep_none.mpr rfl) p
theorem PEd.imp {P' : PyData -> Prop} (h : PEd K f te ρ P) (i : ∀ d, P d -> P' d) : PEd K f te ρ P' := fun σ H Q e q => h σ H Q e fun d v H' g r p => q d v H' g r (i d p)
theorem af8 {r : R2} (h : PEd K f ta ρ fun x => PEd K f tb ρ fun y => ∀ (v w : V) (H : Hp) (Q : VK), FOk f H -> Rep K (hide H f) x v -> Rep K (hide H f) y w -> (∀ d u H', Goes f H H' -> Rep K (hide H' f) d u -> P d -> Q u H') -> r v w H Q) : PEd K f (tOp r ta tb) ρ P := fun σ H Q e q =>
 h σ H _ e fun x v H1 g1 r1 p1 => p1 σ H1 _ (e.mono g1) fun y w H2 g2 r2 p2 => p2 v w H2 Q g2.2 (Rep.mono g2.1 x v r1) r2 fun d u H' g' r' p' => q d u H' (g1.trans (g2.trans g')) r' p'
theorem amJ {r : V -> Hp -> VK -> Prop} (h : PEd K f ta ρ fun x => ∀ (v : V) (H : Hp) (Q : VK), FOk f H -> Rep K (hide H f) x v -> (∀ d u H', Goes f H H' -> Rep K (hide H' f) d u -> P d -> Q u H') -> r v H Q) : PEd K f (tUn r ta) ρ P := fun σ H Q e q =>
 h σ H _ e fun x v H1 g1 r1 p1 => p1 v H1 Q g1.2 r1 fun d u H' g' r' p' => q d u H' (g1.trans g') r' p'
theorem qf {g : Int -> Int -> Int} (h : PEd K f ta ρ fun x => ∃ i, x = .int i /\ PEd K f tb ρ fun y => ∃ j, y = .int j /\ P (.int (g i j))) : PEd K f (tOp (rI0 fun i j => .int (g i j)) ta tb) ρ P :=
 af8 (h.imp fun x ⟨i, ex, h2⟩ => h2.imp fun y ⟨j, ey, p⟩ v w H Q fo rx ry q => by
  subst ex ey
  exact ⟨i, j, rep_int.mp rx, rep_int.mp ry, q _ _ H (.refl fo) (rep_int.mpr rfl) p⟩)
theorem zX {C : Int -> Int -> Prop} {g : Int -> Int -> Int} (h : PEd K f ta ρ fun x => ∃ i, x = .int i /\ PEd K f tb ρ fun y => ∃ j, y = .int j /\ C i j /\ P (.int (g i j))) : PEd K f (tOp (rI C fun i j => .int (g i j)) ta tb) ρ P :=
 af8 (h.imp fun x ⟨i, ex, h2⟩ => h2.imp fun y ⟨j, ey, c, p⟩ v w H Q fo rx ry q => by
  subst ex ey
  exact ⟨i, j, rep_int.mp rx, rep_int.mp ry, c, q _ _ H (.refl fo) (rep_int.mpr rfl) p⟩)
theorem aeW {g : Int -> Int -> Bool} (h : PEd K f ta ρ fun x => ∃ i, x = .int i /\ PEd K f tb ρ fun y => ∃ j, y = .int j /\ P (.bool (g i j))) : PEd K f (tOp (rI0 fun i j => .bl (g i j)) ta tb) ρ P :=
 af8 (h.imp fun x ⟨i, ex, h2⟩ => h2.imp fun y ⟨j, ey, p⟩ v w H Q fo rx ry q => by
  subst ex ey
  exact ⟨i, j, rep_int.mp rx, rep_int.mp ry, q _ _ H (.refl fo) (rep_bool.mpr rfl) p⟩)
theorem jH {neg : Bool} (h : PEd K f ta ρ fun x => PEd K f tb ρ fun y => x.canLay0 = true /\ y.canLay0 = true /\ min x.depth y.depth <= 60 /\ P (.bool (if neg then !anl x y else anl x y))) : PEd K f (tOp (af5 K neg) ta tb) ρ P :=
 af8 (h.imp fun x h2 => h2.imp fun y ⟨c1, c2, c3, p⟩ v w H Q fo rx ry q =>
  ⟨x, y, Rep.mono (zl _ _) x v rx, Rep.mono (zl _ _) y w ry, c1, c2, c3, q _ _ H (.refl fo) (rep_bool.mpr rfl) p⟩)
theorem acW (h : PEd K f ta ρ fun x => ∃ ds, x = .list ds /\ PEd K f tb ρ fun y => ∃ k, y = .int k /\ ∃ d, atI ds k = some d /\ P d) : PEd K f (tOp (af1 K) ta tb) ρ P :=
 af8 (h.imp fun x ⟨ds, ex, h2⟩ => h2.imp fun y ⟨k, ey, d, a, p⟩ v w H Q fo rx ry q => by
  subst ex ey
  obtain ⟨l, xs, rfl, hs, hr⟩ := rep_list.mp rx
  unfold atI at a
  cases hi : ixN ds.length k with
  | none => rw [hi] at a; cases a
  | some j =>
   rw [hi] at a
   obtain ⟨u, hu, ru⟩ := hr.get a
   exact ⟨l, xs, k, u, rfl, rep_int.mp ry, (zl H f).seq hs, by unfold atI; rw [hr.length, hi]; exact hu, q d u H (.refl fo) ru p⟩)
theorem abv (h : PEd K f ta ρ fun x => ∃ ds, x = .tuple ds /\ PEd K f tb ρ fun y => ∃ k, y = .int k /\ ∃ d, atI ds k = some d /\ P d) : PEd K f (tOp (ak1 K) ta tb) ρ P :=
 af8 (h.imp fun x ⟨ds, ex, h2⟩ => h2.imp fun y ⟨k, ey, d, a, p⟩ v w H Q fo rx ry q => by
  subst ex ey
  obtain ⟨l, xs, rfl, hs, hr⟩ := rep_tuple.mp rx
  unfold atI at a
  cases hi : ixN ds.length k with
  | none => rw [hi] at a; cases a
  | some j =>
   rw [hi] at a
   obtain ⟨u, hu, ru⟩ := hr.get a
   exact ⟨l, xs, k, u, rfl, rep_int.mp ry, (zl H f).seqT hs, by unfold atI; rw [hr.length, hi]; exact hu, q d u H (.refl fo) ru p⟩)
theorem akp {i : Nat} (hi : ρ[i]? = some (some .feed)) (h : PEd K f tb ρ fun y => (y = .int 0 /\ ∀ a : Int, 0 <= a -> P (.int a)) \/ (y = .int 1 /\ ∀ b : Int, 0 <= b -> b < 2147483647 -> P (.int b))) : PEd K f (tOp (af1 K) (yn i) tb) ρ P := fun σ H Q e q => by
 obtain ⟨v, h1, p, ef, ev⟩ := e.get i _ hi
 refine ⟨v, h1, h σ H _ e fun y w H' g r c => ?_⟩
 obtain ⟨a, b, hf, c1, c2, c3⟩ := g.2.fd p ef
 rcases c with ⟨rfl, c⟩ | ⟨rfl, c⟩
 ·exact ⟨p, _, 0, .int a, ev, rep_int.mp r, SqL.of hf, rfl, q (.int a) _ H' g (rep_int.mpr rfl) (c a c1)⟩
 ·exact ⟨p, _, 1, .int b, ev, rep_int.mp r, SqL.of hf, rfl, q (.int b) _ H' g (rep_int.mpr rfl) (c b c2 c3)⟩
theorem yh {R : List DV -> Prop} (p : R []) : PAd K f qj ρ R := fun σ H Q e q => q [] [] H (.refl e.fd) .nil p
theorem zx {R : List DV -> Prop} {u : TA} (h : PEd K f te ρ fun x => PAd K f u ρ fun xs => R (.dat x :: xs)) : PAd K f (yo te u) ρ R := fun σ H Q e q =>
 h σ H _ e fun x v H1 g1 r1 p1 => p1 σ H1 _ (e.mono g1) fun xs vs H2 g2 r2 p2 => q (.dat x :: xs) (v :: vs) H2 (g1.trans g2) (.cons (RepV.mono (x := .dat x) g2 r1) r2) p2
theorem ag7 {R : List DV -> Prop} {u : TA} {i : Nat} (hi : ρ[i]? = some (some .feed)) (h : PAd K f u ρ fun xs => R (.feed :: xs)) : PAd K f (yo (yn i) u) ρ R := fun σ H Q e q => by
 obtain ⟨v, h1, h2⟩ := e.get i _ hi
 exact ⟨v, h1, h σ H _ e fun xs vs H2 g2 r2 p2 => q (.feed :: xs) (v :: vs) H2 g2 (.cons (RepV.mono (x := .feed) g2 h2) r2) p2⟩
def jV : List DV -> Option (List PyData)
 | [] => some []
 | .dat d :: r => (jV r).map (d :: ·)
 | .feed :: _ => none
 | .own _ :: _ => none
 | .exc _ :: _ => none
 | .mon _ :: _ => none
theorem qy {H : Hp} : ∀ {xs : List DV} {vs : List V} {ds : List PyData}, RepVs K f H xs vs -> jV xs = some ds -> Reps K (hide H f) ds vs
 | _, _, ds, .nil, e => by cases e; exact .nil'
 | .dat d :: xs, v :: vs, ds, .cons r t, e => by
  unfold jV at e
  cases q : jV xs with
  | none => rw [q] at e; cases e
  | some es => rw [q] at e; cases e; exact .cons' r (qy t q)
 | .feed :: xs, _, ds, .cons r t, e => by cases e
 | .own _ :: xs, _, ds, .cons r t, e => by cases e
 | .exc _ :: xs, _, ds, .cons r t, e => by cases e
 | .mon _ :: xs, _, ds, .cons r t, e => by cases e
theorem akq {t : TA} (h : PAd K f t ρ fun xs => ∃ ds, jV xs = some ds /\ ds.length <= 1000 /\ P (.list ds)) : PEd K f (ag0 t) ρ P := fun σ H Q e q =>
 h σ H _ e fun xs vs H1 g1 r1 ⟨ds, ea, hl, p⟩ => by
  have rs := qy r1 ea
  refine ⟨by rw [rs.length]; exact anE (yg hl), fun l hn => ?_⟩
  have sm := zY hn (.lst vs)
  have g2 : Goes f H1 (upd H1 l (.lst vs)) := .of_same sm g1.2
  exact q (.list ds) _ _ (g1.trans g2) (rep_list.mpr ⟨l, vs, rfl, .of (zB (fresh_ne g1.2 hn) zz), Reps.mono g2.1 ds vs rs⟩) p
theorem jI {t : TA} (h : PAd K f t ρ fun xs => ∃ ds, jV xs = some ds /\ ds.length <= 1000 /\ P (.tuple ds)) : PEd K f (amb t) ρ P := fun σ H Q e q =>
 h σ H _ e fun xs vs H1 g1 r1 ⟨ds, ea, hl, p⟩ => by
  have rs := qy r1 ea
  refine ⟨by rw [rs.length]; exact anE (yg hl), fun l hn => ?_⟩
  have sm := zY hn (.tup vs)
  have g2 : Goes f H1 (upd H1 l (.tup vs)) := .of_same sm g1.2
  exact q (.tuple ds) _ _ (g1.trans g2) (rep_tuple.mpr ⟨l, vs, rfl, .of (zB (fresh_ne g1.2 hn) zz), Reps.mono g2.1 ds vs rs⟩) p
theorem zp {γ : Type} {n : Nat} {pre : γ -> List DV -> Prop} {post : γ -> PyData -> Prop} {E : XK} {t : TA} (c : γ) (h : PAd K f t ρ fun xs => xs.length = n /\ pre c xs /\ ∀ r, post c r -> P r) : PEd K f (abl (spD K n pre post) [] E t) ρ P := fun σ H Q e q =>
 h σ H _ e fun xs vs H1 g1 r1 ⟨hl, hp, k⟩ => by
  refine ⟨f, xs, c, by rw [anG]; exact r1, hl, g1.2, hp, fun r v H' g' r' p' => q r v H' (g1.trans g') r' (k r p')⟩
theorem ad1 {r : List V -> Hp -> VK -> Prop} {t : TA} (h : PAd K f t ρ fun xs => ∃ ds, jV xs = some ds /\ ∀ (vs : List V) (H : Hp) (Q : VK), FOk f H -> Reps K (hide H f) ds vs -> (∀ d u H', Goes f H H' -> Rep K (hide H' f) d u -> P d -> Q u H') -> r vs H Q) : PEd K f (tCB r t) ρ P := fun σ H Q e q =>
 h σ H _ e fun xs vs H1 g1 r1 ⟨ds, ea, k⟩ => k vs H1 Q g1.2 (qy r1 ea) fun d u H' g' r' p' => q d u H' (g1.trans g') r' p'
end
section
variable {K : amR} {f : Fx} {ρ : zr} {P : PyData -> Prop} {B : Bool -> Prop} {te ta tb tc : TE} {tt tu : TT}
theorem PTd.imp {B' : Bool -> Prop} (h : PTd K f tt ρ B) (i : ∀ d, B d -> B' d) : PTd K f tt ρ B' := fun σ H Q e q => h σ H Q e fun d H' g p => q d H' g (i d p)
theorem yA (h : PEd K f te ρ fun d => ∃ k, d = .bool k /\ B k) : PTd K f (aeL te) ρ B := fun σ H Q e q => h σ H _ e fun d v H' g r ⟨k, ed, p⟩ => by
 subst ed
 exact ⟨k, rep_bool.mp r, q k H' g p⟩
theorem t_b (h : PEd K f te ρ fun d => ∃ k, d = .bool k /\ B k) : PTd K f (tB te) ρ B := fun σ H Q e q => h σ H _ e fun d v H' g r ⟨k, ed, p⟩ => by
 subst ed
 exact ⟨k, rep_bool.mp r, q k H' g p⟩
theorem ag8 (h : PTd K f tt ρ fun c => if c = true then PTd K f tu ρ B else B false) : PTd K f (al6 tt tu) ρ B := fun σ H Q e q => h σ H _ e fun c H1 g p => by
 cases c with
 | true =>
  rw [if_pos rfl] at p ⊢
  exact p σ H1 Q (e.mono g) fun b H2 g2 p2 => q b H2 (g.trans g2) p2
 | false =>
  rw [if_neg amQ] at p ⊢
  exact q false H1 g p
theorem ak8 (h : PTd K f tt ρ fun c => if c = true then B true else PTd K f tu ρ B) : PTd K f (tOr tt tu) ρ B := fun σ H Q e q => h σ H _ e fun c H1 g p => by
 cases c with
 | true =>
  rw [if_pos rfl] at p ⊢
  exact q true H1 g p
 | false =>
  rw [if_neg amQ] at p ⊢
  exact p σ H1 Q (e.mono g) fun b H2 g2 p2 => q b H2 (g.trans g2) p2
theorem acX (h : PTd K f tt ρ fun c => B (!c)) : PTd K f (al7 tt) ρ B := fun σ H Q e q => h σ H _ e fun c H1 g p => q (!c) H1 g p
def amK : PyData -> Option Bool
 | .none => some false
 | .bool b => some b
 | .int i => some (i != 0)
 | .list ds => some (!ds.isEmpty)
 | .tuple ds => some (!ds.isEmpty)
 | _ => none
def ak9 (K : amR) (ta : TE) : TT := fun σ H Q => ta σ H fun x H' => ∃ k, akY K x H' k /\ Q k H'
theorem ala {X : Cx} {a : Expr} (ha : PE X a ta) (he : ∀ whole, isTrue a X.env whole = (do let v <- whole; standAt a.pos; holding [v] (truthy v))) : PT X a (ak9 X.K ta) := agZ ha he
theorem qg (h : PEd K f ta ρ fun d => ∃ k, amK d = some k /\ B k) : PTd K f (ak9 K ta) ρ B := fun σ H Q e q => h σ H _ e fun d v H' g r ⟨k, ed, p⟩ => by
 refine ⟨k, ?_, q k H' g p⟩
 cases d with
 | none => rw [rep_none.mp r]; cases ed; rfl
 | bool b => rw [rep_bool.mp r]; cases ed; rfl
 | int i => rw [rep_int.mp r]; cases ed; rfl
 | str x => cases ed
 | list ds =>
  obtain ⟨a, xs, rfl, h1, h2⟩ := rep_list.mp r
  cases ed
  refine .inl ⟨xs, (zl _ _).seq h1, ?_⟩
  cases ds with
  | nil => rw [reps_nil.mp h2]; rfl
  | cons d ds => obtain ⟨x, r, rfl, _⟩ := reps_cons.mp h2; rfl
 | tuple ds =>
  obtain ⟨a, xs, rfl, h1, h2⟩ := rep_tuple.mp r
  cases ed
  refine .inr (.inl ⟨xs, (zl _ _).seqT h1, ?_⟩)
  cases ds with
  | nil => rw [reps_nil.mp h2]; rfl
  | cons d ds => obtain ⟨x, r, rfl, _⟩ := reps_cons.mp h2; rfl
 | dict _ => cases ed
theorem ai6 (h : PTd K f tt ρ fun c => if c = true then PEd K f ta ρ P else PEd K f tb ρ P) : PEd K f (tIf tt ta tb) ρ P := fun σ H Q e q => h σ H _ e fun c H1 g p => by
 cases c with
 | true => rw [if_pos rfl] at p ⊢; exact p σ H1 Q (e.mono g) fun d v H2 g2 r2 p2 => q d v H2 (g.trans g2) r2 p2
 | false => rw [if_neg amQ] at p ⊢; exact p σ H1 Q (e.mono g) fun d v H2 g2 r2 p2 => q d v H2 (g.trans g2) r2 p2
theorem aaD (h : PEd K f ta ρ fun x => ∃ c, x = .bool c /\ if c = true then PEd K f tb ρ P else P (.bool false)) : PEd K f (akh ta tb) ρ P := fun σ H Q e q => h σ H _ e fun x v H1 g r ⟨c, ex, p⟩ => by
 subst ex
 refine ⟨c, rep_bool.mp r, ?_⟩
 cases c with
 | true => rw [if_pos rfl] at p ⊢; exact p σ H1 Q (e.mono g) fun d v H2 g2 r2 p2 => q d v H2 (g.trans g2) r2 p2
 | false => rw [if_neg amQ] at p ⊢; exact q _ _ H1 g (rep_bool.mpr rfl) p
theorem ad2 (h : PEd K f ta ρ fun x => ∃ c, x = .bool c /\ P (.bool !c)) : PEd K f (aki ta) ρ P := fun σ H Q e q => h σ H _ e fun x v H1 g r ⟨c, ex, p⟩ => by
 subst ex
 exact ⟨c, rep_bool.mp r, q _ _ H1 g (rep_bool.mpr rfl) p⟩
theorem aeX {g g' : Int -> Int -> Bool} (h : PEd K f ta ρ fun x => ∃ i, x = .int i /\ PEd K f tb ρ fun y => ∃ j, y = .int j /\ if g i j = true then PEd K f tc ρ fun z => ∃ k, z = .int k /\ P (.bool (g' j k)) else P (.bool false)) :
  PEd K f (agY (rI0 fun i j => .bl (g i j)) (rI0 fun i j => .bl (g' i j)) ta tb tc) ρ P := fun σ H Q e q => h σ H _ e fun x v H1 g1 r1 ⟨i, ex, p1⟩ => p1 σ H1 _ (e.mono g1) fun y w H2 g2 r2 ⟨j, ey, p2⟩ => by
 subst ex ey
 refine ⟨i, j, rep_int.mp r1, rep_int.mp r2, g i j, rfl, ?_⟩
 by_cases hg : g i j = true
 ·rw [if_pos hg] at p2 ⊢
  exact p2 σ H2 _ ((e.mono g1).mono g2) fun z u H3 g3 r3 ⟨k, ez, p3⟩ => by
   subst ez
   exact ⟨j, k, rep_int.mp r2, rep_int.mp r3, q _ _ H3 (g1.trans (g2.trans g3)) (rep_bool.mpr rfl) p3⟩
 ·rw [if_neg hg] at p2 ⊢
  exact q _ _ H2 (g1.trans g2) (rep_bool.mpr rfl) p2
theorem ag9 {t : TA} (h : PAd K f t ρ fun xs => (∃ ds, xs = [.dat (.list ds)] /\ P (.int ds.length)) \/ (∃ ds, xs = [.dat (.tuple ds)] /\ P (.int ds.length))) :
  PEd K f (tCB (fun xs H Q => ∃ p ys, xs = [.ref p] /\ (SqL K H p ys \/ SqT K H p ys) /\ Q (.int ys.length) H) t) ρ P :=
 ad1 fun σ H Q e q => h σ H Q e fun xs vs H' g r p => by
  rcases p with ⟨ds, rfl, p⟩ | ⟨ds, rfl, p⟩
  ·refine q _ vs H' g r ⟨_, rfl, fun vs H Q fo rs k => ?_⟩
   obtain ⟨x, r, rfl, h2, h3⟩ := reps_cons.mp rs
   rw [reps_nil.mp h3]
   obtain ⟨a, ys, rfl, s1, s2⟩ := rep_list.mp h2
   exact ⟨a, ys, rfl, .inl ((zl _ _).seq s1), k (.int ds.length) _ H (.refl fo) (rep_int.mpr (by rw [s2.length])) p⟩
  ·refine q _ vs H' g r ⟨_, rfl, fun vs H Q fo rs k => ?_⟩
   obtain ⟨x, r, rfl, h2, h3⟩ := reps_cons.mp rs
   rw [reps_nil.mp h3]
   obtain ⟨a, ys, rfl, s1, s2⟩ := rep_tuple.mp h2
   exact ⟨a, ys, rfl, .inr ((zl _ _).seqT s1), k (.int ds.length) _ H (.refl fo) (rep_int.mpr (by rw [s2.length])) p⟩
theorem aha {t : TA} (h : PAd K f t ρ fun xs => ∃ ns : List Int, xs = [.dat (.list (ns.map .int))] /\ ns ≠ [] /\ ∀ M, M ∈ ns -> (∀ b ∈ ns, M <= b) -> P (.int M)) :
  PEd K f (tCB (fun xs H Q => ∃ a ns, xs = [.ref a] /\ SqL K H a (ns.map V.int) /\ ns ≠ [] /\ ∀ M, M ∈ ns -> (∀ b ∈ ns, M <= b) -> Q (.int M) H) t) ρ P :=
 ad1 fun σ H Q e q => h σ H Q e fun xs vs H' g r ⟨ns, ex, hne, p⟩ => by
  subst ex
  refine q _ vs H' g r ⟨_, rfl, fun vs H Q fo rs k => ?_⟩
  obtain ⟨x, r, rfl, h2, h3⟩ := reps_cons.mp rs
  rw [reps_nil.mp h3]
  obtain ⟨a, ys, rfl, s1, s2⟩ := rep_list.mp h2
  rw [s2.ints] at s1
  exact ⟨a, ns, rfl, (zl _ _).seq s1, hne, fun M h1 h2 => k (.int M) _ H (.refl fo) (rep_int.mpr rfl) (p M h1 h2)⟩
theorem ahb {t : TA} (h : PAd K f t ρ fun xs => ∃ ns : List Int, xs = [.dat (.list (ns.map .int))] /\ ns ≠ [] /\ ∀ M, M ∈ ns -> (∀ b ∈ ns, b <= M) -> P (.int M)) :
  PEd K f (tCB (fun xs H Q => ∃ a ns, xs = [.ref a] /\ SqL K H a (ns.map V.int) /\ ns ≠ [] /\ ∀ M, M ∈ ns -> (∀ b ∈ ns, b <= M) -> Q (.int M) H) t) ρ P :=
 ad1 fun σ H Q e q => h σ H Q e fun xs vs H' g r ⟨ns, ex, hne, p⟩ => by
  subst ex
  refine q _ vs H' g r ⟨_, rfl, fun vs H Q fo rs k => ?_⟩
  obtain ⟨x, r, rfl, h2, h3⟩ := reps_cons.mp rs
  rw [reps_nil.mp h3]
  obtain ⟨a, ys, rfl, s1, s2⟩ := rep_list.mp h2
  rw [s2.ints] at s1
  exact ⟨a, ns, rfl, (zl _ _).seq s1, hne, fun M h1 h2 => k (.int M) _ H (.refl fo) (rep_int.mpr rfl) (p M h1 h2)⟩
theorem ahc {g : Int -> Int -> Int} {t : TA} (h : PAd K f t ρ fun xs => ∃ i j, xs = [.dat (.int i), .dat (.int j)] /\ P (.int (g i j))) : PEd K f (tCB (fun xs H Q => ∃ i j, xs = [.int i, .int j] /\ Q (.int (g i j)) H) t) ρ P :=
 ad1 fun σ H Q e q => h σ H Q e fun xs vs H' g' r ⟨i, j, ex, p⟩ => by
  subst ex
  refine q _ vs H' g' r ⟨_, rfl, fun vs H Q fo rs k => ?_⟩
  obtain ⟨x, r, rfl, h2, h3⟩ := reps_cons.mp rs
  obtain ⟨y, r', rfl, h4, h5⟩ := reps_cons.mp h3
  rw [reps_nil.mp h5, rep_int.mp h2, rep_int.mp h4]
  exact ⟨i, j, rfl, k _ _ H (.refl fo) (rep_int.mpr rfl) p⟩
theorem vD {g : Int -> Int} {t : TA} (h : PAd K f t ρ fun xs => ∃ i, xs = [.dat (.int i)] /\ P (.int (g i))) : PEd K f (tCB (fun xs H Q => ∃ i, xs = [.int i] /\ Q (.int (g i)) H) t) ρ P :=
 ad1 fun σ H Q e q => h σ H Q e fun xs vs H' g' r ⟨i, ex, p⟩ => by
  subst ex
  refine q _ vs H' g' r ⟨_, rfl, fun vs H Q fo rs k => ?_⟩
  obtain ⟨x, r, rfl, h2, h3⟩ := reps_cons.mp rs
  rw [reps_nil.mp h3, rep_int.mp h2]
  exact ⟨i, rfl, k _ _ H (.refl fo) (rep_int.mpr rfl) p⟩
theorem ahd {t : TA} (h : PAd K f t ρ fun xs => (∃ ds, xs = [.dat (.list ds)] /\ P (.list ds)) \/ (∃ ds, xs = [.dat (.tuple ds)] /\ P (.list ds))) :
  PEd K f (tCB (fun xs H Q => ∃ p ys, xs = [.ref p] /\ (SqL K H p ys \/ SqT K H p ys) /\ ∀ l, H l = none -> Q (.ref l) (upd H l (.lst ys))) t) ρ P :=
 ad1 fun σ H Q e q => h σ H Q e fun xs vs H' g r p => by
  rcases p with ⟨ds, rfl, p⟩ | ⟨ds, rfl, p⟩
  ·refine q _ vs H' g r ⟨_, rfl, fun vs H Q fo rs k => ?_⟩
   obtain ⟨x, r, rfl, h2, h3⟩ := reps_cons.mp rs
   rw [reps_nil.mp h3]
   obtain ⟨a, ys, rfl, s1, s2⟩ := rep_list.mp h2
   refine ⟨a, ys, rfl, .inl ((zl _ _).seq s1), fun l hn => ?_⟩
   have g2 : Goes f H (upd H l (.lst ys)) := .of_same (zY hn _) fo
   exact k (.list ds) _ _ g2 (rep_list.mpr ⟨l, ys, rfl, .of (zB (fresh_ne fo hn) zz), Reps.mono g2.1 ds ys s2⟩) p
  ·refine q _ vs H' g r ⟨_, rfl, fun vs H Q fo rs k => ?_⟩
   obtain ⟨x, r, rfl, h2, h3⟩ := reps_cons.mp rs
   rw [reps_nil.mp h3]
   obtain ⟨a, ys, rfl, s1, s2⟩ := rep_tuple.mp h2
   refine ⟨a, ys, rfl, .inr ((zl _ _).seqT s1), fun l hn => ?_⟩
   have g2 : Goes f H (upd H l (.lst ys)) := .of_same (zY hn _) fo
   exact k (.list ds) _ _ g2 (rep_list.mpr ⟨l, ys, rfl, .of (zB (fresh_ne fo hn) zz), Reps.mono g2.1 ds ys s2⟩) p
end
section
variable {K : amR} {f : Fx} {ρ : zr} {D : DEnds} {te ta tb : TE} {tt : TT} {ts tu : TS}
theorem qh (p : D.nx ρ) : PSd K f aeG ρ D := fun σ H E e n _ _ _ => n ρ σ H (.refl e.fd) e p
theorem zH (h : PSd K f ts ρ { D with nx := fun ρ' => PSd K f tu ρ' D }) : PSd K f (v7 ts tu) ρ D := fun σ H E e n r b c =>
 h σ H { E with nx := tu E } e (fun ρ' σ' H' g e' p => p σ' H' E e' (fun ρ'' σ'' H'' g' e'' p' => n ρ'' σ'' H'' (g.trans g') e'' p') (fun d v H'' g' r' p' => r d v H'' (g.trans g') r' p') (fun ρ'' σ'' H'' g' e'' p' => b ρ'' σ'' H'' (g.trans g') e'' p') (fun ρ'' σ'' H'' g' e'' p' => c ρ'' σ'' H'' (g.trans g') e'' p')) r b c
theorem yE (h : PEd K f te ρ D.rt) : PSd K f (adR te) ρ D := fun σ H E e n r b c => h σ H _ e r
theorem qT (h : PEd K f te ρ fun _ => D.nx ρ) : PSd K f (aeH te) ρ D := fun σ H E e n r b c => h σ H _ e fun d v H' g _ p => n ρ σ H' g (e.mono g) p
theorem v9 (h : PTd K f tt ρ fun b => if b = true then PSd K f ts ρ D else PSd K f tu ρ D) : PSd K f (afX tt ts tu) ρ D := fun σ H E e n r b c => h σ H _ e fun k H1 g p => by
 cases k with
 | true =>
  rw [if_pos rfl] at p ⊢
  exact p σ H1 E (e.mono g) (fun ρ'' σ'' H'' g' e'' p' => n ρ'' σ'' H'' (g.trans g') e'' p') (fun d v H'' g' r' p' => r d v H'' (g.trans g') r' p') (fun ρ'' σ'' H'' g' e'' p' => b ρ'' σ'' H'' (g.trans g') e'' p') (fun ρ'' σ'' H'' g' e'' p' => c ρ'' σ'' H'' (g.trans g') e'' p')
 | false =>
  rw [if_neg amQ] at p ⊢
  exact p σ H1 E (e.mono g) (fun ρ'' σ'' H'' g' e'' p' => n ρ'' σ'' H'' (g.trans g') e'' p') (fun d v H'' g' r' p' => r d v H'' (g.trans g') r' p') (fun ρ'' σ'' H'' g' e'' p' => b ρ'' σ'' H'' (g.trans g') e'' p') (fun ρ'' σ'' H'' g' e'' p' => c ρ'' σ'' H'' (g.trans g') e'' p')
def PGd (K : amR) (f : Fx) (g : TG) (d : PyData) (ρ : zr) (R : zr -> Prop) : Prop := ∀ (σ : St) (H : Hp) (v : V) (Q : St -> Hp -> Prop), EnvOk K f ρ σ H -> Rep K (hide H f) d v -> (∀ ρ' σ' H', Goes f H H' -> EnvOk K f ρ' σ' H' -> R ρ' -> Q σ' H') -> g v σ H Q
def ahe (K : amR) (f : Fx) (g : TGs) (ds : List PyData) (ρ : zr) (R : zr -> Prop) : Prop := ∀ (σ : St) (H : Hp) (vs : List V) (Q : St -> Hp -> Prop), EnvOk K f ρ σ H -> Reps K (hide H f) ds vs -> (∀ ρ' σ' H', Goes f H H' -> EnvOk K f ρ' σ' H' -> R ρ' -> Q σ' H') -> g vs σ H Q
theorem zi {i : Nat} {d : PyData} {R : zr -> Prop} (h : R (ρ.set i (some (.dat d)))) : PGd K f (jf i) d ρ R := fun σ H v Q e r q => q _ _ H (.refl e.fd) (e.set i (x := .dat d) r) h
theorem zN {R : zr -> Prop} (h : R ρ) : ahe K f akR [] ρ R := fun σ H vs Q e r q => ⟨reps_nil.mp r, q ρ σ H (.refl e.fd) e h⟩
theorem zm {g : TG} {gs : TGs} {d : PyData} {ds : List PyData} {R : zr -> Prop} (h : PGd K f g d ρ fun ρ' => ahe K f gs ds ρ' R) : ahe K f (acL g gs) (d :: ds) ρ R := fun σ H vs Q e r q => by
 obtain ⟨x, r', rfl, h2, h3⟩ := reps_cons.mp r
 exact ⟨x, r', rfl, h σ H x _ e h2 fun ρ' σ' H' g' e' p => p σ' H' r' Q e' (Reps.mono g'.1 ds r' h3) fun ρ'' σ'' H'' g'' e'' p' => q ρ'' σ'' H'' (g'.trans g'') e'' p'⟩
theorem yp {n : Nat} {gs : TGs} {ds : List PyData} {R : zr -> Prop} (hn : ds.length = n) (h : ahe K f gs ds ρ R) : PGd K f (aiV K n gs) (.tuple ds) ρ R := fun σ H v Q e r q => by
 obtain ⟨a, xs, rfl, h1, h2⟩ := rep_tuple.mp r
 exact ⟨a, xs, rfl, (zl _ _).seqT h1, by rw [h2.length]; exact hn, h σ H xs Q e h2 q⟩
theorem zF {g : TG} (h : PEd K f te ρ fun d => PGd K f g d ρ D.nx) : PSd K f (qJ te g) ρ D := fun σ H E e n r b c =>
 h σ H _ e fun d v H1 g1 r1 p1 => p1 σ H1 v _ (e.mono g1) r1 fun ρ' σ' H' g' e' p' => n ρ' σ' H' (g1.trans g') e' p'
end
section
variable {K : amR} {f : Fx} {ρ : zr} {D : DEnds} {te ta tb : TE} {tt : TT} {ts tu : TS} {g : TG}
theorem ad3 {t : TA} (h : PAd K f t ρ fun xs => ∃ ds, xs = [.dat (.list ds)] /\ ∃ J : Nat -> zr -> Prop, J 0 ρ /\
   (∀ (i : Nat) d ρ', ds[i]? = some d -> J i ρ' -> PGd K f g (.tuple [.int i, d]) ρ' fun ρ2 => PSd K f ts ρ2 { D with nx := J (i + 1), ct := J (i + 1), bk := D.nx }) /\ ∀ ρ', J ds.length ρ' -> D.nx ρ') :
  PSd K f (aiX (ag5 K t) g ts) ρ D := fun σ H E e n r b c => h σ H _ e fun xs vs H1 g1 r1 ⟨ds, ex, J, j0, js, jd⟩ => by
 subst ex
 cases r1 with
 | cons rx r' =>
  cases r'
  obtain ⟨a, xs, rfl, h1, h2⟩ := rep_list.mp rx
  have hl := h2.length
  refine ⟨a, rfl, ⟨xs, (zl _ _).seq h1⟩, ag6 (K := K) (a := a) (xs := xs) (fun i σ' H' => ∃ ρ', EnvOk K f ρ' σ' H' /\ Goes f H H' /\ Goes f H1 H' /\ J i ρ') ⟨ρ, e.mono g1, g1, .refl g1.2, j0⟩ (fun i σ' H' _ ⟨ρ', e', g', g1', p⟩ => (zl _ _).seq (g1'.1.seq h1)) (fun i y σ' H' tp hy ⟨ρ', e', g', g1', p⟩ hn => ?_) fun σ' H' ⟨ρ', e', g', _, p⟩ => n ρ' σ' H' g' e' (jd ρ' (by rw [<- hl]; exact p))⟩
  have hi : i < ds.length := by rw [<- hl]; exact (amU.mp hy).1
  obtain ⟨z, hz, rz⟩ := h2.get (amP hi)
  rw [hy] at hz
  cases hz
  have gn : Goes f H' (upd H' tp (.tup [.int i, y])) := .of_same (zY hn _) e'.fd
  have rt : Rep K (hide (upd H' tp (.tup [.int i, y])) f) (.tuple [.int i, ds[i]]) (.ref tp) := rep_tuple.mpr ⟨tp, _, rfl, .of (zB (fresh_ne e'.fd hn) zz), .cons' (rep_int.mpr rfl) (.cons' (Rep.mono gn.1 _ _ (Rep.mono g1'.1 _ _ rz)) .nil')⟩
  refine js i _ ρ' (amP hi) p σ' _ _ _ (e'.mono gn) rt fun ρ2 σ2 H2 g2' e2 p2 => ?_
  have g2 := gn.trans g2'
  exact p2 σ2 H2 _ e2 (fun ρ3 σ3 H3 g3 e3 p3 => ⟨ρ3, e3, g'.trans (g2.trans g3), g1'.trans (g2.trans g3), p3⟩) (fun d v H3 g3 r3 p3 => r d v H3 (g'.trans (g2.trans g3)) r3 p3) (fun ρ3 σ3 H3 g3 e3 p3 => n ρ3 σ3 H3 (g'.trans (g2.trans g3)) e3 p3) (fun ρ3 σ3 H3 g3 e3 p3 => ⟨ρ3, e3, g'.trans (g2.trans g3), g1'.trans (g2.trans g3), p3⟩)
end
def frD (fr : List Nat) (ρ : zr) : zr := fr.map fun j => (ρ[j]?).getD none
def vE (own : Nat) (fr : List Nat) (ρ : zr) : zr := aoT own none ++ frD fr ρ
abbrev Fx.with (f : Fx) (D : Addr) : Fx := ⟨f.f, D :: f.M⟩
section
variable {K : amR} {f : Fx} {ρ : zr} {σ : St} {H H' : Hp} {D : Addr} {o : HO}
theorem af9 {own : Nat} {fr : List Nat} (e : EnvOk K f ρ σ H) : EnvOk K f (vE own fr ρ) (yT own fr σ) H := by
 refine ⟨by unfold vE yT frD; simp, fun i x h => ?_, e.fd⟩
 unfold vE frD at h
 unfold yT
 by_cases hi : i < own
 ·rw [am3 (by simpa using hi), aoK] at h
  split at h <;> cases h
 ·rw [am7 (by simpa using hi)] at h ⊢
  simp only [apu, am1] at h ⊢
  cases hj : fr[i - own]? with
  | none => rw [hj] at h; cases h
  | some j =>
   rw [hj] at h
   have h' : (ρ[j]?).getD none = some x := Option.some.inj h
   have hρ : ρ[j]? = some (some x) := by
    cases q : ρ[j]? with
    | none => rw [q] at h'; cases h'
    | some w => rw [q] at h'; exact congrArg some h'
   obtain ⟨v, h1, h2⟩ := e.get j x hρ
   exact ⟨v, by simp [h1], h2⟩
theorem yF : hide (upd H D o) (f.with D) = hide H (f.with D) := by
 funext b
 unfold hide
 by_cases hb : f.f = some b \/ b ∈ D :: f.M
 ·rw [if_pos hb, if_pos hb]
 ·rw [if_neg hb, if_neg hb]
  have : b ≠ D := fun z => hb (.inr (z ▸ am6))
  exact zy this
theorem qz : Same (hide H (f.with D)) (hide H f) := fun b o h => by
 obtain ⟨h1, h2⟩ := zS h
 exact zB (fun z => h1 (z.elim .inl fun z => .inr (amY _ z))) h2
theorem vc (hn : H D = none) : Same (hide H f) (hide (upd H D o) (f.with D)) := fun b u h => by
 obtain ⟨h1, h2⟩ := zS h
 have hb : b ≠ D := zK h2 hn
 exact zB (fun z => z.elim (fun z => h1 (.inl z)) fun z => (am2.mp z).elim hb fun z => h1 (.inr z)) (by rw [zy hb]; exact h2)
theorem alb (h : FOk f H) (hn : H D = none) : FOk (f.with D) (upd H D o) :=
 ⟨fun p e => let ⟨a, b, h1, h2⟩ := h.fd p e; ⟨a, b, by rw [zy (zK h1 hn)]; exact h1, h2⟩, fun b hb => by
  rcases am2.mp hb with rfl | hb
  ·exact ⟨_, zz⟩
  ·obtain ⟨o', h1⟩ := h.mm b hb
   exact ⟨o', by rw [zy (zK h1 hn)]; exact h1⟩, fun p e hp => by
  rcases am2.mp hp with rfl | hp
  ·exact fresh_ne h hn (.inl e)
  ·exact h.nm p e hp⟩
theorem alc (e : EnvOk K f ρ σ H) (hn : H D = none) : EnvOk K (f.with D) ρ σ (upd H D o) :=
 ⟨e.len, fun i x h => let ⟨v, h1, h2⟩ := e.get i x h; ⟨v, h1, by
  cases x with
  | dat d => exact Rep.mono (vc hn) d v h2
  | feed => exact h2
  | own k =>
   obtain ⟨p, h3, h4⟩ := h2
   refine ⟨p, ?_, h4⟩
   show (D :: f.M).reverse[k]? = some p
   rw [ap0, am3 (amU.mp h3).1]
   exact h3
  | exc C =>
   obtain ⟨a, h3, h4⟩ := h2
   exact ⟨a, h3, vc hn _ _ h4⟩
  | mon φ => exact fun H' s => h2 H' ((vc hn).trans s)⟩, alb e.fd hn⟩
theorem ai7 (hD : f.f ≠ some D) (e : EnvOk K (f.with D) ρ σ H) : EnvOk K (f.with D) ρ σ (upd H D o) :=
 ⟨e.len, fun i x h => let ⟨v, h1, h2⟩ := e.get i x h; ⟨v, h1, by
  cases x with
  | dat d =>
   have h2' : Rep K (hide H (f.with D)) d v := h2
   show Rep K (hide (upd H D o) (f.with D)) d v
   rw [yF]; exact h2'
  | feed => exact h2
  | own k => exact h2
  | exc C =>
   obtain ⟨a, h3, h4⟩ := h2
   refine ⟨a, h3, ?_⟩
   rw [yF]
   exact h4
  | mon φ =>
   intro H' s
   rw [yF] at s
   exact h2 H' s⟩, ⟨fun p ep => let ⟨a, b, h1, h2⟩ := e.fd.fd p ep; ⟨a, b, by rw [zy (fun z => hD (by rw [<- z]; exact ep))]; exact h1, h2⟩, fun b hb => by
   by_cases hb' : b = D
   ·subst hb'; exact ⟨_, zz⟩
   ·rw [zy hb']; exact e.fd.mm b hb, e.fd.nm⟩⟩
end
section
variable {K : amR} {f : Fx} {ρ : zr} {P : PyData -> Prop} {te tl : TE} {tt : TT} {g : TG} {own : Nat} {fr : List Nat}
structure CSt (K : amR) (f : Fx) (D : Addr) (H2 : Hp) (ρ' : zr) (es : List PyData) (σ : St) (H : Hp) : Prop where
 env : EnvOk K (f.with D) ρ' σ H
 sm : Same (hide H2 (f.with D)) (hide H (f.with D))
 kp : ∀ b ∈ f.M, H b = H2 b
 lst : ∃ vs, H D = some (.lst vs) /\ Reps K (hide H (f.with D)) es vs
theorem CSt.go {D : Addr} {H2 H H' : Hp} {ρ' : zr} {es : List PyData} {σ : St} (c : CSt K f D H2 ρ' es σ H) (gg : Goes (f.with D) H H') {ρ2 : zr} {σ2 : St} (e2 : EnvOk K (f.with D) ρ2 σ2 H') : CSt K f D H2 ρ2 es σ2 H' :=
 ⟨e2, c.sm.trans gg.sm, fun b hb => (gg.kp b (amY _ hb)).trans (c.kp b hb), let ⟨vs, h1, h2⟩ := c.lst; ⟨vs, (gg.kp D am6).trans h1, Reps.mono gg.sm es vs h2⟩⟩
theorem CSt.put {D : Addr} {H2 H : Hp} {ρ' : zr} {es : List PyData} {σ : St} {d : PyData} {v : V} {vs : List V} (hD : f.f ≠ some D) (hM : D ∉ f.M) (c : CSt K f D H2 ρ' es σ H) (h1 : H D = some (.lst vs)) (h2 : Reps K (hide H (f.with D)) es vs) (r : Rep K (hide H (f.with D)) d v) :
  CSt K f D H2 ρ' (es ++ [d]) σ (upd H D (.lst (vs ++ [v]))) :=
 ⟨ai7 hD c.env, by rw [yF]; exact c.sm, fun b hb => (zy (fun (z : b = D) => hM (z ▸ hb))).trans (c.kp b hb), ⟨_, zz, by rw [yF]; exact h2.snoc r⟩⟩
theorem aga {D : Addr} {H2 H : Hp} {ρ' : zr} {es : List PyData} {σ : St} {d : PyData} {v : V} {W : St -> Hp -> Prop} {R : zr -> List PyData -> Prop} (hD : f.f ≠ some D) (hM : D ∉ f.M) (c : CSt K f D H2 ρ' es σ H) (hl : es.length < 1000) (r : Rep K (hide H (f.with D)) d v)
  (h : PGd K (f.with D) g d ρ' fun ρ2 => PTd K (f.with D) tt ρ2 fun b => if b = true then PEd K (f.with D) te ρ2 fun e => R ρ2 (es ++ [e]) else R ρ2 es)
  (hW : ∀ ρ2 es2 σ2 H', CSt K f D H2 ρ2 es2 σ2 H' -> R ρ2 es2 -> W σ2 H') :
  g v σ H fun σ2 H3 => tt σ2 H3 fun b H4 => if b = true then qN D te σ2 H4 W else W σ2 H4 := by
 refine h σ H v _ c.env r fun ρ2 σ2 H3 g3 e3 p3 => ?_
 have c3 := c.go g3 e3
 refine p3 σ2 H3 _ e3 fun b H4 g4 p4 => ?_
 have c4 := c3.go g4 (e3.mono g4)
 cases b with
 | false =>
  rw [if_neg amQ] at p4 ⊢
  exact hW _ _ _ _ c4 p4
 | true =>
  rw [if_pos rfl] at p4 ⊢
  refine p4 σ2 H4 _ (e3.mono g4) fun e u H5 g5 r5 p5 => ?_
  have c5 := c4.go g5 ((e3.mono g4).mono g5)
  obtain ⟨vs, h1, h2⟩ := c5.lst
  exact ⟨vs, h1, yg (by rw [h2.length]; omega), hW _ _ _ _ (c5.put hD hM h1 h2 r5) p5⟩
theorem acY {D : Addr} {H1 H : Hp} {ρ' : zr} {es : List PyData} {σ σ' : St} (hn : H1 D = none) (fo : FOk f H1) (c : CSt K f D (upd H1 D (.lst [])) ρ' es σ H) : Goes f H1 H /\ Rep K (hide H f) (.list es) (.ref D) := by
 obtain ⟨vs, h1, h2⟩ := c.lst
 have nD := fresh_ne fo hn
 refine ⟨⟨((vc hn).trans c.sm).trans qz, ⟨c.env.fd.fd, fun b hb => c.env.fd.mm b (amY _ hb), fun p e hp => c.env.fd.nm p e (amY _ hp)⟩, fun b hb => ?_⟩, rep_list.mpr ⟨D, vs, rfl, .of (zB nD h1), Reps.mono qz es vs h2⟩⟩
 rw [c.kp b hb, zy]
 obtain ⟨o, h3⟩ := fo.mm b hb
 exact zK h3 hn
theorem aaE {D : Addr} {H1 : Hp} {σ : St} (hn : H1 D = none) (e : EnvOk K f ρ σ H1) : CSt K f D (upd H1 D (.lst [])) (vE own fr ρ) [] (yT own fr σ) (upd H1 D (.lst [])) :=
 ⟨alc (af9 e) hn, Same.refl _, fun _ _ => rfl, ⟨[], zz, .nil'⟩⟩
theorem ai8 {t : TA} (h : PAd K f t ρ fun xs => ∃ j : Int, xs = [.dat (.int j)] /\ j <= 1000 /\ -1000 <= j /\ ∃ R : Nat -> zr -> List PyData -> Prop, R 0 (vE own fr ρ) [] /\
   (∀ D (i : Nat) ρ' es, (i : Int) < j -> R i ρ' es -> PGd K (f.with D) g (.int i) ρ' fun ρ2 => PTd K (f.with D) tt ρ2 fun b => if b = true then PEd K (f.with D) te ρ2 fun e => R (i + 1) ρ2 (es ++ [e]) else R (i + 1) ρ2 es) /\
   (∀ i ρ' es, R i ρ' es -> es.length <= i) /\ ∀ ρ' es, R j.toNat ρ' es -> P (.list es)) :
  PEd K f (qe (aeJ t) own fr g tt fun D => qN D te) ρ P := fun σ H Q e q => h σ H _ e fun xs vs H1 g1 r1 ⟨j, ex, b1, b2, R, r0, rs, rl, re⟩ => by
 subst ex
 cases r1 with
 | @cons _ v0 _ _ rx r' =>
  cases r'
  have rx' : Rep K (hide H1 f) (.int j) v0 := rx
  refine ⟨j, by rw [rep_int.mp rx'], by omega, by omega, fun D hn => ?_⟩
  have nD := fresh_ne g1.2 hn
  have hD : f.f ≠ some D := fun z => nD (.inl z)
  have hM : D ∉ f.M := fun z => nD (.inr z)
  have e1 := e.mono g1
  refine ⟨fun i m σ' H' => ∃ ρ' es, CSt K f D (upd H1 D (.lst [])) ρ' es σ' H' /\ R i ρ' es /\ i <= j.toNat /\ m + i = j.toNat, ⟨j.toNat, _, [], aaE hn e1, r0, anA _, rfl⟩, fun i m σ' H' ⟨ρ', es, c, p, hi, hm⟩ => ?_⟩
  by_cases hlt : i < j.toNat
  ·refine .inr ⟨hlt, fun x H3 hy => ?_⟩
   obtain ⟨rfl, rfl⟩ := hy
   have hz : (0 : Int) + (i : Int) = (i : Int) := Int.zero_add _
   rw [hz]
   refine aga (R := R (i + 1)) hD hM c (by have := rl i ρ' es p; omega) ((rep_int (K := K)).mpr rfl) (rs D i ρ' es (by omega) p) fun ρ2 es2 σ2 H4 c2 p2 => ?_
   exact ⟨m - 1, by omega, ρ2, es2, c2, p2, by omega, by omega⟩
  ·have ei : i = j.toNat := by omega
   subst ei
   obtain ⟨ge, rep⟩ := acY (σ' := σ') hn g1.2 c
   exact .inl ⟨amV _, q _ _ H' (g1.trans ge) rep (re ρ' es p)⟩
theorem acZ {t : TA} (h : PAd K f t ρ fun xs => ∃ j : Int, xs = [.dat (.int j)] /\ j <= 1000 /\ -1000 <= j /\ ∃ R : Nat -> PyData -> Prop,
   (∀ D (i : Nat), (i : Int) < j -> PEd K (f.with D) te (some (.dat (.int i)) :: frD fr ρ) (R i)) /\ ∀ es : List PyData, es.length = j.toNat -> (∀ (i : Nat) e, es[i]? = some e -> R i e) -> P (.list es)) :
  PEd K f (qe (aeJ t) 1 fr (jf 0) ai4 fun D => qN D te) ρ P :=
 ai8 fun σ H Q e q => h σ H Q e fun xs vs H' g' r' ⟨j, ex, b1, b2, R, rs, re⟩ => by
  refine q xs vs H' g' r' ⟨j, ex, b1, b2, fun i ρ' es => (∃ x, ρ' = x :: frD fr ρ) /\ es.length = i /\ ∀ (k : Nat) e, es[k]? = some e -> R k e, ⟨⟨none, rfl⟩, rfl, fun k e h => by simp at h⟩, fun D i ρ' es hi p => ?_, fun i ρ' es p => aoX p.2.1, fun ρ' es p => re es p.2.1 p.2.2⟩
  obtain ⟨⟨x, rfl⟩, hl, hp⟩ := p
  refine zi ?_
  intro σ H Q e q
  refine q true H (.refl e.fd) ?_
  dsimp only
  rw [if_pos rfl]
  refine (rs D i hi).imp fun d hd => ⟨⟨_, rfl⟩, by rw [am9, hl]; rfl, fun k e hk => ?_⟩
  by_cases hkl : k < es.length
  ·rw [am3 hkl] at hk; exact hp k e hk
  ·rw [am7 (by omega)] at hk
   have hk0 : k - es.length = 0 := by
    have := (amU.mp hk).1
    simp at this; omega
   rw [hk0] at hk
   cases hk
   have : k = i := by omega
   subst this
   exact hd
end
section
variable {K : amR} {f : Fx} {ρ : zr} {D : DEnds} {te : TE} {i : Nat}
theorem ac0 {σ : St} {H : Hp} {p : Addr} {a b : Int} (e : EnvOk K f ρ σ H) (ef : f.f = some p) (h0 : 0 <= a) (h1 : 0 <= b) (h2 : b < 2147483647) : Goes f H (upd H p (.lst [.int a, .int b])) :=
 have hM := e.fd.nm p ef
 ⟨fun x o h => by
  obtain ⟨n, hx⟩ := zS h
  exact zB n (by rw [zy (fun z => n (.inl (by rw [z]; exact ef)))]; exact hx),
 ⟨fun q eq => by
   rw [ef] at eq; cases eq
   exact ⟨a, b, zz, h0, h1, h2⟩, fun x hx => by
   by_cases hxp : x = p
   ·subst hxp; exact absurd hx hM
   ·rw [zy hxp]; exact e.fd.mm x hx, e.fd.nm⟩,
fun x hx => zy (fun z => hM (z ▸ hx))⟩
theorem aeY (hi : ρ[i]? = some (some .feed)) (h : PEd K f te ρ fun d => ∃ a : Int, d = .int a /\ 0 <= a /\ D.nx ρ) : PSd K f (qJ te (acM (yn i) (tC (.int 0)) aaA)) ρ D := fun σ H E e n r b c => h σ H _ e fun d v H1 g1 r1 ⟨a, ed, h0, p⟩ => by
 subst ed
 obtain ⟨u, h1, q, ef, eu⟩ := e.get i _ hi
 obtain ⟨a', b', hf, c1, c2, c3⟩ := g1.2.fd q ef
 refine ⟨u, h1, q, _, 0, 0, eu, rfl, hf, rfl, ?_⟩
 rw [rep_int.mp r1]
 have g2 : Goes f H1 (upd H1 q (.lst [.int a, .int b'])) := ac0 (e.mono g1) ef h0 c2 c3
 exact n ρ σ _ (g1.trans g2) ((e.mono g1).mono g2) p
theorem aeZ (hi : ρ[i]? = some (some .feed)) (h : PEd K f te ρ fun d => ∃ a : Int, d = .int a /\ 0 <= a /\ a < 2147483647 /\ D.nx ρ) : PSd K f (qJ te (acM (yn i) (tC (.int 1)) aaA)) ρ D := fun σ H E e n r b c => h σ H _ e fun d v H1 g1 r1 ⟨a, ed, h0, h0', p⟩ => by
 subst ed
 obtain ⟨u, h1, q, ef, eu⟩ := e.get i _ hi
 obtain ⟨a', b', hf, c1, c2, c3⟩ := g1.2.fd q ef
 refine ⟨u, h1, q, _, 1, 1, eu, rfl, hf, rfl, ?_⟩
 rw [rep_int.mp r1]
 have g2 : Goes f H1 (upd H1 q (.lst [.int a', .int a])) := ac0 (e.mono g1) ef c1 h0 h0'
 exact n ρ σ _ (g1.trans g2) ((e.mono g1).mono g2) p
end
theorem vd {X : Cx} {x : Str} {i : Int} {t : Tok} {pos : Pos} (hg : Gl X x) (hm : X.mg x = some (.int i t)) (hd : (x == ("__debug__" : Str)) = false := by decide) : PE X (.Name x pos) (tC (.int i)) := yI hg hm ⟨t, rfl⟩ hd
def jE (N : List Str) (xs : List DV) : zr := xs.map some ++ aoT (N.length - xs.length) none
theorem jc {K : amR} {f : Fx} {H : Hp} {N : List Str} {xs : List DV} {vs : List V} (r : RepVs K f H xs vs) (fo : FOk f H) : EnvOk K f (jE N xs) (start N vs) H := by
 have hl := r.length
 refine ⟨by unfold jE start; simp [hl], fun i x h => ?_, fo⟩
 unfold jE at h
 unfold start
 have get : ∀ {xs : List DV} {vs : List V} {i : Nat} {x : DV}, RepVs K f H xs vs -> xs[i]? = some x -> ∃ v, vs[i]? = some v /\ RepV K f H x v := by
  intro xs vs i x r
  induction r generalizing i with
  | nil => intro h; simp at h
  | cons r1 r2 ih =>
   intro h
   cases i with
   | zero => simp at h; subst h; exact ⟨_, rfl, r1⟩
   | succ i => simp at h; obtain ⟨v, h1, h2⟩ := ih h; exact ⟨v, by simpa using h1, h2⟩
 by_cases hi : i < xs.length
 ·rw [am3 (by simpa using hi), am1] at h
  cases q : xs[i]? with
  | none => rw [q] at h; cases h
  | some y =>
   rw [q] at h
   cases h
   obtain ⟨v, h1, h2⟩ := get r q
   exact ⟨v, by rw [am3 (by simp; omega), am1, h1]; rfl, h2⟩
 ·rw [am7 (by simpa using hi), aoK] at h
  split at h <;> cases h
structure Def (K : amR) (mg : Str -> Option Value) (x : Str) (st : Stmt) (ps : List Str) : Prop where
 ex : ∃ (f : Addr) (fd : FuncData), Fun K x x st f fd /\ Binds K fd ps [] /\ mg x = some (.ref f)
structure FnIn (P : Program) (w : World) (K : amR) (mg : Str -> Option Value) (base : Heap) (k : Nat) (x : Str) (ps : List Str) (sp : Sp) : Prop where
 ex : ∃ (f : Addr) (fd : FuncData), FnOk P w K mg base CX0 k f fd ps sp /\ mg x = some (.ref f) /\ anH K (.ref f) = true /\ Binds K fd ps []
section
variable {P : Program} {w : World} {K : amR} {mg : Str -> Option Value} {base : Heap} {j k n : Nat} {x : Str} {st : Stmt} {ps N : List Str} {γ : Type} {pre : γ -> List DV -> Prop} {post : γ -> PyData -> Prop} {sp : Sp}
theorem FnIn.mono (h : FnIn P w K mg base j x ps sp) (hk : j <= k) : FnIn P w K mg base k x ps sp :=
 let ⟨f, fd, a, b, c, d⟩ := h.ex; ⟨f, fd, a.mono hk, b, c, d⟩
theorem Def.ok (F : Def K mg x st ps) (S : FnScope N ps (zh st)) (hn : ps.length = n)
  (h : ∀ (fa : Addr) (cdv : Value) (A : Around) (outer : List Env) (s : Shared) (H : Hp) (E : XK), Room k (A.deeper (envOfC x (zh st) s.heap.objs.size fa cdv)) ->
   ∃ t, PSs (zM CX0 P w K mg base N x (zh st) fa cdv A outer s H E).nox (yq st) t /\ ∀ (f : Fx) (xs : List DV) (c : γ), xs.length = n -> pre c xs -> PSd K f t (jE N xs) { nx := fun _ => post c .none, rt := post c }) :
  FnIn P w K mg base (k + 1) x ps (spD K n pre post) := by
 obtain ⟨fa, fd, F1, F2, F3⟩ := F.ex
 refine ⟨fa, fd, F1.ok S (fun vs H Q E h => ?_) (fun cdv A outer s H vs Q E hr hs => ?_), F3, F1.kp, F2⟩
 ·obtain ⟨f, xs, c, r, hl, _⟩ := h
  rw [r.length, hl, hn]
 ·obtain ⟨f, xs, c, r, hl, fo, hp, q⟩ := hs
  obtain ⟨t, h1, h2⟩ := h fa cdv A outer s H E hr
  exact ⟨t, h1, h2 f xs c hl hp (start N vs) H _ (jc r fo) (fun _ _ H' g _ p => q .none _ H' g (rep_none.mpr rfl) p) (fun d v H' g r p => q d v H' g r p) (fun _ _ _ _ _ z => z.elim) (fun _ _ _ _ _ z => z.elim)⟩
theorem Def.raw (F : Def K mg x st ps) (S : FnScope N ps (zh st)) (len : ∀ vs H Q E, sp vs H Q E -> vs.length = ps.length)
  (h : ∀ (fa : Addr) (cdv : Value) (A : Around) (outer : List Env) (s : Shared) (H : Hp) (vs : List V) (Q : VK) (E : XK), Room k (A.deeper (envOfC x (zh st) s.heap.objs.size fa cdv)) -> sp vs H Q E ->
   ∃ t, PSs (zM CX0 P w K mg base N x (zh st) fa cdv A outer s H E).nox (yq st) t /\ t { nx := fun _ H' => Q .non H', rt := Q } (start N vs) H) :
  FnIn P w K mg base (k + 1) x ps sp := by
 obtain ⟨fa, fd, F1, F2, F3⟩ := F.ex
 exact ⟨fa, fd, F1.ok S len (fun cdv A outer s H vs Q E hr hs => h fa cdv A outer s H vs Q E hr hs), F3, F1.kp, F2⟩
theorem ze {X : Cx} {e : Expr} {es : List Expr} {t : TA} {p pos : Pos} (G : FnIn X.prog X.w X.K X.mg X.base k x ps sp) (hr : Room k X.A) (hg : Gl X x) (ha : PA X (e :: es) t) (hdb : (x == ("__debug__" : Str)) = false := by decide)
  (he : starEach (e :: es) X.env = (false, eval e X.env) :: starEach es X.env := by rfl) (hpl : (backTo pos (starEach es X.env)).any (·.1) = false := by rfl) : PE X (.Call (.Name x p) (e :: es) [] pos) (abl sp [] E0 t) := by
 obtain ⟨f, fd, a, b, c, d⟩ := G.ex
 exact ai0 a hr hg b c d .nil amc ha hdb he hpl
end
section
variable {K : amR} {f : Fx} {ρ : zr} {σ : St} {H : Hp} {E : Ends} {ts tu : TS} {D : DEnds}
theorem ahf (h : PSd K f ts ρ D) (e : EnvOk K f ρ σ H) (hn : ∀ ρ' σ' H', Goes f H H' -> EnvOk K f ρ' σ' H' -> D.nx ρ' -> tu E σ' H') (hr : ∀ d v H', Goes f H H' -> Rep K (hide H' f) d v -> D.rt d -> E.rt v H') (hb : ∀ ρ, ¬ D.bk ρ) (hc : ∀ ρ, ¬ D.ct ρ) : v7 ts tu E σ H :=
 h σ H { E with nx := tu E } e hn hr (fun ρ' _ _ _ _ p => (hb ρ' p).elim) (fun ρ' _ _ _ _ p => (hc ρ' p).elim)
theorem ahg {ta : TA} {Q : VK} {R : List PyData -> Prop} (h : PAd K f ta ρ fun xs => ∃ ds, jV xs = some ds /\ ds.length <= 1000 /\ R ds) (e : EnvOk K f ρ σ H)
  (q : ∀ p ds vs H1, Goes f H H1 -> H1 p = none -> Reps K (hide H1 f) ds vs -> R ds -> Q (.ref p) (upd H1 p (.lst vs))) : ag0 ta σ H Q :=
 h σ H _ e fun xs vs H1 g1 r1 ⟨ds, ea, hl, p⟩ => by
  have rs := qy r1 ea
  exact ⟨by rw [rs.length]; exact anE (yg hl), fun l hn => q l ds vs H1 g1 hn rs p⟩
end
section
variable {K : amR} {f : Fx} {ρ : zr}
theorem Goes.free {H H' : Hp} {p : Addr} (g : Goes f H H') (fo : FOk f H) (h : H' p = none) : H p = none := by
 cases q : H p with
 | none => rfl
 | some o =>
  by_cases hh : f.f = some p \/ p ∈ f.M
  ·rcases hh with hh | hh
   ·obtain ⟨a, b, h1, _⟩ := g.ok.fd p hh
    rw [h] at h1; cases h1
   ·rw [g.kp p hh, q] at h; cases h
  ·have := zS (g.sm p o (zB hh q))
   rw [h] at this; cases this.2
def PEdL (K : amR) (f : Fx) (te : TE) (ρ : zr) (P : List PyData -> Prop) : Prop := ∀ (σ : St) (H : Hp) (Q : VK), EnvOk K f ρ σ H ->
 (∀ es D vs H', Goes f H H' -> H D = none -> H' D = some (.lst vs) -> Reps K (hide H' f) es vs -> P es -> Q (.ref D) H') -> te σ H Q
theorem PEdL.ped {te : TE} {P : PyData -> Prop} (h : PEdL K f te ρ fun es => P (.list es)) : PEd K f te ρ P := fun σ H Q e q => h σ H Q e fun es D vs H' g n h1 r p =>
 q (.list es) _ H' g (rep_list.mpr ⟨D, vs, rfl, .of (zB (fresh_ne e.fd n) h1), r⟩) p
end
structure TabAt (H : Hp) (a : Addr) (as : List Addr) (rows : List (List Int)) : Prop where
 top : H a = some (.lst (as.map .ref))
 nd : (a :: as).Nodup
 len : as.length = rows.length
 row : ∀ (i : Nat) x r, as[i]? = some x -> rows[i]? = some r -> H x = some (.lst (r.map .int))
end L2
end
section
namespace L2
open PySem PySem.Spec PyProof.Rows
section
variable {X : Cx} {K : amR}
theorem zG (hK : X.K = K) : IxR X (af1 K) := hK ▸ ai1
theorem jn (hK : X.K = K) : IxR X (ak1 K) := hK ▸ ak2
theorem yi (hK : X.K = K) : yk X (.builtin "len") (fun xs H Q => ∃ p ys, xs = [.ref p] /\ (SqL K H p ys \/ SqT K H p ys) /\ Q (.int ys.length) H) := hK ▸ abY
theorem ad4 (hK : X.K = K) : yk X (.type "list") (fun xs H Q => ∃ p ys, xs = [.ref p] /\ (SqL K H p ys \/ SqT K H p ys) /\ ∀ l, H l = none -> Q (.ref l) (upd H l (.lst ys))) := hK ▸ abZ
theorem ac1 (hK : X.K = K) : yk X (.type "tuple") (fun xs H Q => ∃ p ys, xs = [.ref p] /\ ((SqL K H p ys /\ ∀ l, H l = none -> Q (.ref l) (upd H l (.tup ys))) \/ (SqT K H p ys /\ Q (.ref p) H))) := hK ▸ aa6
theorem agb (hK : X.K = K) (hc : X.calm = true) : yk X (.builtin "min") (fun xs H Q => ∃ a ns, xs = [.ref a] /\ SqL K H a (ns.map V.int) /\ ns ≠ [] /\ ∀ M, M ∈ ns -> (∀ b ∈ ns, M <= b) -> Q (.int M) H) := hK ▸ af6 hc
theorem agc (hK : X.K = K) (hc : X.calm = true) : yk X (.builtin "max") (fun xs H Q => ∃ a ns, xs = [.ref a] /\ SqL K H a (ns.map V.int) /\ ns ≠ [] /\ ∀ M, M ∈ ns -> (∀ b ∈ ns, b <= M) -> Q (.int M) H) := hK ▸ af7 hc
theorem aaF (hK : X.K = K) (hu : X.A.units + 64 < cLine) : OpR X (compareOp .Eq) (af5 K false) := hK ▸ ak6 hu
theorem qU (hK : X.K = K) (hu : X.A.units + 64 < cLine) : OpR X (compareOp .NotEq) (af5 K true) := hK ▸ ak7 hu
variable {tg l e st : Expr} {tl te ts : TE} {ta : TA} {p pos p2 : Pos}
theorem yj (hK : X.K = K) (hl : PE X l tl) : PI X tg l (aeI K tl) := hK ▸ aiW hl
theorem aac (hK : X.K = K) (hl : PE X l tl) : PI X tg l (akT K tl) := hK ▸ akU hl
theorem ahh {es : List Expr} {k : Nat} {tpos : Pos} (hK : X.K = K) (hg : Gl X "enumerate") (hm : X.mg "enumerate" = none) (ha : PA X [l] ta) (hs : starEach [l] X.env = [(false, eval l X.env)] := by rfl) : PI X (.Tuple es k tpos) (.Call (.Name "enumerate" p) [l] [] pos) (ag5 K ta) := hK ▸ ai5 hg hm ha hs
theorem yu (hK : X.K = K) (ha : PE X e te) (he : ∀ whole, isTrue e X.env whole = (do let v <- whole; standAt e.pos; holding [v] (truthy v))) : PT X e (ak9 K te) := hK ▸ ala ha he
theorem zD {es : List Expr} {k : Nat} {t : TGs} {n : Nat} (hK : X.K = K) (hc : X.calm = true) (h : PGs X es t) (hn : (assignEach es X.env).length = n := by rfl) (hst : (assignEach es X.env).findIdx? (·.1) = none := by rfl) : PG X (.Tuple es k pos) (aiV K n t) := hK ▸ akS hc h hn hst
end
structure ItD (K : amR) (f : Fx) (ds : List PyData) (J : It) (H1 : Hp) : Prop where
 go : ∀ (f' : Fx) (H' : Hp) (i : Nat) d, FOk f' H' -> Same (hide H1 f) (hide H' f') -> ds[i]? = some d -> J.go i H' /\ ∀ x H3, J.yld i H' x H3 -> Goes f' H' H3 /\ Rep K (hide H3 f') d x
 st : ∀ (f' : Fx) (H' : Hp), FOk f' H' -> Same (hide H1 f) (hide H' f') -> J.stop ds.length H'
def PId (K : amR) (f : Fx) (wi : TI) (ρ : zr) (R : List PyData -> Prop) : Prop := ∀ (σ : St) (H : Hp) (C : It -> Hp -> Prop), EnvOk K f ρ σ H ->
 (∀ ds J H1, Goes f H H1 -> ItD K f ds J H1 -> R ds -> C J H1) -> wi σ H C
def qm (n : Nat) : List PyData := (am8 n).map fun (i : Nat) => .int (i : Int)
section
variable {K : amR} {f : Fx} {ρ : zr} {R : List PyData -> Prop} {tl : TE} {t : TA}
theorem PId.imp {wi : TI} {R' : List PyData -> Prop} (h : PId K f wi ρ R) (i : ∀ ds, R ds -> R' ds) : PId K f wi ρ R' := fun σ H C e q => h σ H C e fun ds J H1 g it r => q ds J H1 g it (i ds r)
theorem ve (h : PAd K f t ρ fun xs => ∃ j : Int, xs = [.dat (.int j)] /\ -(2 ^ 62) <= j /\ j < 2 ^ 62 /\ R (qm j.toNat)) : PId K f (aeJ t) ρ R := fun σ H C e q => h σ H _ e fun xs vs H1 g1 r1 ⟨j, ex, q1, q2, p⟩ => by
 subst ex
 cases r1 with
 | @cons _ v0 _ _ rx r' =>
  cases r'
  have rx' : Rep K (hide H1 f) (.int j) v0 := rx
  refine ⟨j, by rw [rep_int.mp rx'], q1, q2, q _ _ H1 g1 ⟨fun f' H' i d fo _ hd => ?_, fun f' H' _ _ => ?_⟩ p⟩
  ·unfold qm at hd
   rw [am1] at hd
   by_cases hi : i < j.toNat
   ·rw [aog hi] at hd
    cases hd
    refine ⟨hi, fun x H3 hy => ?_⟩
    obtain ⟨rfl, rfl⟩ := hy
    exact ⟨.refl fo, rep_int.mpr (by rw [Int.zero_add])⟩
   ·rw [anj (by rw [anO]; omega)] at hd
    cases hd
  ·show j.toNat <= (qm j.toNat).length
   unfold qm
   rw [amT, anO]
   exact amV _
theorem yN (h : PEd K f tl ρ fun x => ∃ ds, x = .list ds /\ R ds) : PId K f (aeI K tl) ρ R := fun σ H C e q => h σ H _ e fun x v H1 g1 r1 ⟨ds, ex, p⟩ => by
 subst ex
 obtain ⟨a, xs, rfl, h1, h2⟩ := rep_list.mp r1
 have hl := h2.length
 refine ⟨a, rfl, ⟨xs, (zl _ _).seq h1⟩, q ds _ H1 g1 ⟨fun f' H' i d fo sm hd => ?_, fun f' H' _ sm => ⟨xs, (zl _ _).seq (sm.seq h1), aoX hl⟩⟩ p⟩
 obtain ⟨z, hz, rz⟩ := h2.get hd
 have sq : SqL K H' a xs := (zl _ _).seq (sm.seq h1)
 refine ⟨⟨xs, z, sq, hz⟩, fun x H3 hy => ?_⟩
 obtain ⟨rfl, hy⟩ := hy
 have ez := hy xs sq
 rw [hz] at ez
 cases ez
 exact ⟨.refl fo, Rep.mono sm _ _ rz⟩
theorem ae0 (h : PEd K f tl ρ fun x => ∃ ds, x = .tuple ds /\ R ds) : PId K f (akT K tl) ρ R := fun σ H C e q => h σ H _ e fun x v H1 g1 r1 ⟨ds, ex, p⟩ => by
 subst ex
 obtain ⟨a, xs, rfl, h1, h2⟩ := rep_tuple.mp r1
 have hl := h2.length
 refine ⟨a, rfl, ⟨xs, (zl _ _).seqT h1⟩, q ds _ H1 g1 ⟨fun f' H' i d fo sm hd => ?_, fun f' H' _ sm => ⟨xs, (zl _ _).seqT (sm.seqT h1), aoX hl⟩⟩ p⟩
 obtain ⟨z, hz, rz⟩ := h2.get hd
 have sq : SqT K H' a xs := (zl _ _).seqT (sm.seqT h1)
 refine ⟨⟨xs, z, sq, hz⟩, fun x H3 hy => ?_⟩
 obtain ⟨rfl, hy⟩ := hy
 have ez := hy xs sq
 rw [hz] at ez
 cases ez
 exact ⟨.refl fo, Rep.mono sm _ _ rz⟩
end
section
variable {K : amR} {f : Fx} {ρ : zr} {D : DEnds} {wi : TI} {g : TG} {ts : TS}
theorem ac2 (h : PId K f wi ρ fun ds => ∃ J : Nat -> zr -> Prop, J 0 ρ /\
   (∀ (i : Nat) d ρ', ds[i]? = some d -> J i ρ' -> PGd K f g d ρ' fun ρ2 => PSd K f ts ρ2 { D with nx := J (i + 1), ct := J (i + 1), bk := D.nx }) /\ ∀ ρ', J ds.length ρ' -> D.nx ρ') :
  PSd K f (aiX wi g ts) ρ D := fun σ H E e n r b c => h σ H _ e fun ds J H1 g1 it ⟨Jv, j0, js, jd⟩ => by
 refine ⟨fun i m σ' H' => ∃ ρ', EnvOk K f ρ' σ' H' /\ Goes f H1 H' /\ Jv i ρ' /\ m + i = ds.length, ⟨ds.length, ρ, e.mono g1, .refl g1.2, j0, rfl⟩, fun i m σ' H' ⟨ρ', e', g', p, hm⟩ => ?_⟩
 by_cases hi : i < ds.length
 ·obtain ⟨hgo, hy⟩ := it.go f H' i _ e'.fd g'.sm (amP hi)
  refine .inr ⟨hgo, fun σ2 H2 => ∃ ρ2, EnvOk K f ρ2 σ2 H2 /\ Goes f H1 H2 /\ Jv (i + 1) ρ2, fun σ2 H2 ⟨ρ2, e2, g2, p2⟩ => ⟨m - 1, by omega, ρ2, e2, g2, p2, by omega⟩, fun x H3 hx => ?_⟩
  obtain ⟨g3, r3⟩ := hy x H3 hx
  refine js i _ ρ' (amP hi) p σ' H3 x _ (e'.mono g3) r3 fun ρ2 σ2 H4 g4 e4 p4 => ?_
  have gg := g'.trans (g3.trans g4)
  exact p4 σ2 H4 _ e4 (fun ρ5 σ5 H5 g5 e5 p5 => ⟨ρ5, e5, gg.trans g5, p5⟩) (fun d v H5 g5 r5 p5 => r d v H5 (g1.trans (gg.trans g5)) r5 p5) (fun ρ5 σ5 H5 g5 e5 p5 => n ρ5 σ5 H5 (g1.trans (gg.trans g5)) e5 p5) (fun ρ5 σ5 H5 g5 e5 p5 => ⟨ρ5, e5, gg.trans g5, p5⟩)
 ·have ei : i = ds.length := by omega
  subst ei
  exact .inl ⟨it.st f H' e'.fd g'.sm, n ρ' σ' H' (g1.trans g') e' (jd ρ' p)⟩
end
section
variable {K : amR} {f : Fx} {ρ : zr} {D : Addr} {wi : TI} {g : TG} {tt : TT} {te : TE}
theorem CSt.self {H2 H : Hp} {es : List PyData} {σ : St} (c : CSt K f D H2 ρ es σ H) : CSt K f D H ρ es σ H := ⟨c.env, Same.refl _, fun _ _ => rfl, c.lst⟩
theorem CSt.trans {H2 H H' : Hp} {es es' : List PyData} {ρ' : zr} {σ σ' : St} (c : CSt K f D H2 ρ es σ H) (d : CSt K f D H ρ' es' σ' H') : CSt K f D H2 ρ' es' σ' H' := ⟨d.env, c.sm.trans d.sm, fun b hb => (d.kp b hb).trans (c.kp b hb), d.lst⟩
def PBd (K : amR) (f : Fx) (D : Addr) (tb : TB) (ρ : zr) (es : List PyData) (R : zr -> List PyData -> Prop) : Prop := f.f ≠ some D -> D ∉ f.M -> ∀ (σ : St) (H H2 : Hp) (W : St -> Hp -> Prop), CSt K f D H2 ρ es σ H ->
 (∀ ρ2 es2 σ2 H', CSt K f D H2 ρ2 es2 σ2 H' -> R ρ2 es2 -> W σ2 H') -> tb σ H W
theorem yJ {es : List PyData} {R : zr -> List PyData -> Prop} (hl : es.length < 1000) (h : PEd K (f.with D) te ρ fun e => R ρ (es ++ [e])) : PBd K f D (qN D te) ρ es R := fun hD hM σ H H2 W c q =>
 h σ H _ c.env fun e u H5 g5 r5 p5 => by
  have c5 := c.go g5 (c.env.mono g5)
  obtain ⟨vs, h1, h2⟩ := c5.lst
  exact ⟨vs, h1, yg (by rw [h2.length]; omega), q _ _ _ _ (c5.put hD hM h1 h2 r5) p5⟩
theorem ahi {fi : Fx} {Hi H2 H : Hp} {ds es : List PyData} {J : It} {tb : TB} {σ : St} {W : St -> Hp -> Prop} (it : ItD K fi ds J Hi) (hD : f.f ≠ some D) (hM : D ∉ f.M) (c : CSt K f D H2 ρ es σ H) (sm : Same (hide Hi fi) (hide H (f.with D)))
  (Jv : Nat -> zr -> List PyData -> Prop) (j0 : Jv 0 ρ es)
  (js : ∀ (i : Nat) d ρ' es', ds[i]? = some d -> Jv i ρ' es' -> PGd K (f.with D) g d ρ' fun ρ2 => PTd K (f.with D) tt ρ2 fun b => if b = true then PBd K f D tb ρ2 es' (Jv (i + 1)) else Jv (i + 1) ρ2 es')
  (hW : ∀ ρ' es' σ' H', CSt K f D H2 ρ' es' σ' H' -> Jv ds.length ρ' es' -> W σ' H') : acQ J g tt tb σ H W := by
 refine ⟨fun i m σ' H' => ∃ ρ' es', CSt K f D H2 ρ' es' σ' H' /\ Same (hide Hi fi) (hide H' (f.with D)) /\ Jv i ρ' es' /\ m + i = ds.length, ⟨ds.length, ρ, es, c, sm, j0, rfl⟩, fun i m σ' H' ⟨ρ', es', c', sm', p, hm⟩ => ?_⟩
 by_cases hi : i < ds.length
 ·obtain ⟨hgo, hy⟩ := it.go (f.with D) H' i _ c'.env.fd sm' (amP hi)
  refine .inr ⟨hgo, fun x H3 hx => ?_⟩
  obtain ⟨g3, r3⟩ := hy x H3 hx
  have c3 := c'.go g3 (c'.env.mono g3)
  refine js i _ ρ' es' (amP hi) p σ' H3 x _ c3.env r3 fun ρ2 σ2 H4 g4 e4 p4 => ?_
  have c4 := c3.go g4 e4
  refine p4 σ2 H4 _ e4 fun b H5 g5 p5 => ?_
  have c5 := c4.go g5 (e4.mono g5)
  have sm5 := ((sm'.trans g3.sm).trans g4.sm).trans g5.sm
  cases b with
  | false =>
   rw [if_neg amQ] at p5 ⊢
   exact ⟨m - 1, by omega, ρ2, es', c5, sm5, p5, by omega⟩
  | true =>
   rw [if_pos rfl] at p5 ⊢
   exact p5 hD hM σ2 H5 H5 _ c5.self fun ρ6 es6 σ6 H6 c6 p6 => ⟨m - 1, by omega, ρ6, es6, c5.trans c6, sm5.trans c6.sm, p6, by omega⟩
 ·have ei : i = ds.length := by omega
  subst ei
  exact .inl ⟨it.st (f.with D) H' c'.env.fd sm', hW ρ' es' σ' H' c' p⟩
theorem ame {es : List PyData} {tb : TB} {R : zr -> List PyData -> Prop} (h : PId K (f.with D) wi ρ fun ds => ∃ Jv : Nat -> zr -> List PyData -> Prop, Jv 0 ρ es /\
   (∀ (i : Nat) d ρ' es', ds[i]? = some d -> Jv i ρ' es' -> PGd K (f.with D) g d ρ' fun ρ2 => PTd K (f.with D) tt ρ2 fun b => if b = true then PBd K f D tb ρ2 es' (Jv (i + 1)) else Jv (i + 1) ρ2 es') /\
   ∀ ρ' es', Jv ds.length ρ' es' -> R ρ' es') : PBd K f D (tIn wi g tt tb) ρ es R := fun hD hM σ H H2 W c q =>
 h σ H _ c.env fun ds J H1 g1 it ⟨Jv, j0, js, jd⟩ =>
  ahi it hD hM (c.go g1 (c.env.mono g1)) (Same.refl _) Jv j0 js fun ρ' es' σ' H' c' p => q ρ' es' σ' H' c' (jd ρ' es' p)
def PEdO (K : amR) (f : Fx) (te : TE) (ρ : zr) (P : List PyData -> Prop) : Prop := ∀ (σ : St) (H : Hp) (Q : VK), EnvOk K f ρ σ H ->
 (∀ es D vs H', Goes f H H' -> H D = none -> H' D = some (.lst vs) -> Reps K (hide H' (f.with D)) es vs -> P es -> Q (.ref D) H') -> te σ H Q
theorem PEdO.pedl {P : List PyData -> Prop} (h : PEdO K f te ρ P) : PEdL K f te ρ P := fun σ H Q e q => h σ H Q e fun es D vs H' g n h1 r p => q es D vs H' g n h1 (Reps.mono qz es vs r) p
theorem PEdO.ped {P : PyData -> Prop} (h : PEdO K f te ρ fun es => P (.list es)) : PEd K f te ρ P := h.pedl.ped
theorem amf {P : List PyData -> Prop} (h : P []) : PEdO K f (ag0 qj) ρ P := fun σ H Q e q => ⟨anA _, fun p hn => q [] p [] _ (.of_same (zY hn _) e.fd) hn zz .nil' h⟩
theorem vF {own : Nat} {fr : List Nat} {tb : Addr -> TB} {P : List PyData -> Prop} (h : PId K f wi ρ fun ds => ∃ Jv : Nat -> zr -> List PyData -> Prop, Jv 0 (vE own fr ρ) [] /\
   (∀ D (i : Nat) d ρ' es', ds[i]? = some d -> Jv i ρ' es' -> PGd K (f.with D) g d ρ' fun ρ2 => PTd K (f.with D) tt ρ2 fun b => if b = true then PBd K f D (tb D) ρ2 es' (Jv (i + 1)) else Jv (i + 1) ρ2 es') /\
   ∀ ρ' es', Jv ds.length ρ' es' -> P es') : PEdO K f (qe wi own fr g tt tb) ρ P := fun σ H Q e q =>
 h σ H _ e fun ds J H1 g1 it ⟨Jv, j0, js, jd⟩ D hn => by
  have nD := fresh_ne g1.2 hn
  have hD : f.f ≠ some D := fun z => nD (.inl z)
  have hM : D ∉ f.M := fun z => nD (.inr z)
  refine ahi it hD hM (aaE hn (e.mono g1)) (vc hn) Jv j0 (js D) fun ρ' es' σ' H' c' p => ?_
  obtain ⟨ge, rep⟩ := acY (σ' := σ') hn g1.2 c'
  obtain ⟨vs, h1, h2⟩ := c'.lst
  exact q es' D vs H' (g1.trans ge) (g1.free e.fd hn) h1 h2 (jd ρ' es' p)
end
section
variable {K : amR} {f : Fx} {ρ : zr} {D : Addr} {wi : TI} {g : TG} {tt : TT} {te : TE}
theorem vG {F : PyData -> List PyData} {ds : List PyData} {i : Nat} {d : PyData} (h : ds[i]? = some d) : (ds.take (i + 1)).flatMap F = (ds.take i).flatMap F ++ F d := by
 rw [api, h, aor]
 simp
theorem ai9 {F : PyData -> List PyData} {ds : List PyData} {i : Nat} : ((ds.take i).flatMap F).length <= (ds.flatMap F).length := by
 conv => rhs; rw [<- apv i ds, aor, am9]
 omega
def OwnE (own : Nat) (ρ0 : zr) (ρ' : zr) : Prop := ∃ us : zr, us.length = own /\ ρ' = us ++ ρ0
theorem OwnE.one {ρ0 ρ' : zr} (h : OwnE 1 ρ0 ρ') : ∃ u, ρ' = u :: ρ0 := by
 obtain ⟨us, h1, rfl⟩ := h
 match us, h1 with
 | [u], _ => exact ⟨u, rfl⟩
theorem OwnE.two {ρ0 ρ' : zr} (h : OwnE 2 ρ0 ρ') : ∃ u v, ρ' = u :: v :: ρ0 := by
 obtain ⟨us, h1, rfl⟩ := h
 match us, h1 with
 | [u, v], _ => exact ⟨u, v, rfl⟩
theorem OwnE.mk1 {ρ0 : zr} {u : Option DV} : OwnE 1 ρ0 (u :: ρ0) := ⟨[u], rfl, rfl⟩
theorem OwnE.mk2 {ρ0 : zr} {u v : Option DV} : OwnE 2 ρ0 (u :: v :: ρ0) := ⟨[u, v], rfl, rfl⟩
theorem ald {own : Nat} {fr : List Nat} {tb : Addr -> TB} {P : List PyData -> Prop} (h : PId K f wi ρ fun ds => ∃ F : PyData -> List PyData, (ds.flatMap F).length <= 1000 /\
   (∀ D d ρ' es, d ∈ ds -> OwnE own (frD fr ρ) ρ' -> es.length + (F d).length <= 1000 -> PGd K (f.with D) g d ρ' fun ρ2 => PTd K (f.with D) tt ρ2 fun b => if b = true then PBd K f D (tb D) ρ2 es fun ρ3 es3 => OwnE own (frD fr ρ) ρ3 /\ es3 = es ++ F d else OwnE own (frD fr ρ) ρ2 /\ F d = []) /\
   P (ds.flatMap F)) : PEdO K f (qe wi own fr g tt tb) ρ P :=
 vF (h.imp fun ds ⟨F, hl, hs, hp⟩ => by
  refine ⟨fun i ρ' es => OwnE own (frD fr ρ) ρ' /\ es = (ds.take i).flatMap F, ⟨⟨aoT own none, by simp, rfl⟩, by simp⟩, fun D i d ρ' es hd ⟨ho, he⟩ => ?_, fun ρ' es ⟨_, he⟩ => ?_⟩
  ·have hb : es.length + (F d).length <= 1000 := by
    rw [he, <- am9, <- vG hd]
    exact ank ai9 hl
   have := hs D d ρ' es (ana hd) ho hb
   intro σ H v Q e r q
   refine this σ H v Q e r fun ρ2 σ2 H2 g2 e2 p2 => q ρ2 σ2 H2 g2 e2 (p2.imp fun b hb2 => ?_)
   cases b with
   | false =>
    rw [if_neg amQ] at hb2 ⊢
    exact ⟨hb2.1, by rw [vG hd, hb2.2, anG]; exact he⟩
   | true =>
    rw [if_pos rfl] at hb2 ⊢
    intro h1 h2 σ3 H3 H4 W c k
    exact hb2 h1 h2 σ3 H3 H4 W c fun ρ5 es5 σ5 H5 c5 ⟨o5, p5⟩ => k ρ5 es5 σ5 H5 c5 ⟨o5, by rw [p5, vG hd, he]⟩
  ·rw [he, anS]
   exact hp)
theorem jo {B : Bool -> Prop} (h : B true) : PTd K f ai4 ρ B := fun σ H Q e q => q true H (.refl e.fd) h
end
structure OEnds where
 nx : zr -> List PyData -> Prop
 rt : PyData -> Prop
 bk : zr -> List PyData -> Prop := fun _ _ => False
 ct : zr -> List PyData -> Prop := fun _ _ => False
section
variable {K : amR} {f : Fx} {ρ : zr} {D : Addr} {wi : TI} {g : TG} {tt : TT} {te : TE} {ts tu : TS} {es : List PyData} {O : OEnds} {i : Nat}
def aad (n : Nat) : Option DV -> Option DV
 | some (.own k) => if k < n then some (.own k) else none
 | x => x
end
section
variable {K : amR} {f : Fx} {ρ : zr} {P : PyData -> Prop} {te ta tb : TE} {t : TA}
theorem Reps.drop {H : Hp} : ∀ {ds : List PyData} {xs : List V} (n : Nat), Reps K H ds xs -> Reps K H (ds.drop n) (xs.drop n)
 | _, _, 0, r => r
 | [], xs, n + 1, r => by
  rw [reps_nil.mp r]
  exact .nil'
 | d :: ds, xs, n + 1, r => by
  obtain ⟨x, r', rfl, _, h⟩ := reps_cons.mp r
  exact Reps.drop n h
theorem Reps.take {H : Hp} : ∀ {ds : List PyData} {xs : List V} (n : Nat), Reps K H ds xs -> Reps K H (ds.take n) (xs.take n)
 | _, _, 0, r => .nil'
 | [], xs, n + 1, r => by
  rw [reps_nil.mp r]
  exact .nil'
 | d :: ds, xs, n + 1, r => by
  obtain ⟨x, r', rfl, h0, h⟩ := reps_cons.mp r
  exact .cons' h0 (Reps.take n h)
def cutD (ds : List PyData) (lo hi : Option Int) : List PyData := (ds.drop (HT.sIx ds.length 0 lo)).take (HT.sIx ds.length ds.length hi - HT.sIx ds.length 0 lo)
theorem Reps.cut {H : Hp} {ds : List PyData} {xs : List V} {lo hi : Option Int} (r : Reps K H ds xs) : Reps K H (cutD ds lo hi) (adX xs lo hi) := by
 unfold cutD adX
 rw [r.length]
 exact (r.drop _).take _
def POd (K : amR) (f : Fx) (t : TO) (ρ : zr) (R : Option Int -> Prop) : Prop := ∀ (σ : St) (H : Hp) (Q : Option Int -> Hp -> Prop), EnvOk K f ρ σ H -> (∀ o H', Goes f H H' -> R o -> Q o H') -> t σ H Q
theorem ahj {R : Option Int -> Prop} (h : R none) : POd K f aeM ρ R := fun σ H Q e q => q none H (.refl e.fd) h
theorem ahk {R : Option Int -> Prop} (h : PEd K f te ρ fun d => ∃ i : Int, d = .int i /\ R (some i)) : POd K f (akl te) ρ R := fun σ H Q e q => h σ H _ e fun d v H1 g1 r1 ⟨i, ed, p⟩ => by
 subst ed
 exact ⟨i, rep_int.mp r1, q (some i) H1 g1 p⟩
theorem amg {tl th : TO} {P : List PyData -> Prop} (h : PEd K f te ρ fun x => ∃ ds, x = .list ds /\ POd K f tl ρ fun lo => POd K f th ρ fun hi => P (cutD ds lo hi)) : PEdL K f (tSl (ai2 K) te tl th) ρ P := fun σ H Q e q =>
 h σ H _ e fun x v H1 g1 r1 ⟨ds, ex, p1⟩ => p1 σ H1 _ (e.mono g1) fun lo H2 g2 p2 => p2 σ H2 _ ((e.mono g1).mono g2) fun hi H3 g3 p3 => by
  subst ex
  have gg := g1.trans (g2.trans g3)
  obtain ⟨a, xs, rfl, h1, h2⟩ := rep_list.mp (Rep.mono (g2.trans g3).sm _ _ r1)
  refine ⟨a, xs, rfl, (zl _ _).seq h1, fun p hn => ?_⟩
  have g4 : Goes f H3 (upd H3 p (.lst (adX xs lo hi))) := .of_same (zY hn _) g3.ok
  exact q _ p _ _ (gg.trans g4) (gg.free e.fd hn) zz (Reps.mono g4.sm _ _ h2.cut) p3
theorem ahl {tl th : TO} (h : PEd K f te ρ fun x => ∃ ds, x = .list ds /\ POd K f tl ρ fun lo => POd K f th ρ fun hi => P (.list (cutD ds lo hi))) : PEd K f (tSl (ai2 K) te tl th) ρ P := (amg h).ped
theorem aja (h : PAd K f t ρ fun xs => (∃ ds, xs = [.dat (.list ds)] /\ P (.tuple ds)) \/ (∃ ds, xs = [.dat (.tuple ds)] /\ P (.tuple ds))) :
  PEd K f (tCB (fun xs H Q => ∃ p ys, xs = [.ref p] /\ ((SqL K H p ys /\ ∀ l, H l = none -> Q (.ref l) (upd H l (.tup ys))) \/ (SqT K H p ys /\ Q (.ref p) H))) t) ρ P :=
 ad1 fun σ H Q e q => h σ H Q e fun xs vs H' g r p => by
  rcases p with ⟨ds, rfl, p⟩ | ⟨ds, rfl, p⟩
  ·refine q _ vs H' g r ⟨_, rfl, fun vs H Q fo rs k => ?_⟩
   obtain ⟨x, r, rfl, h2, h3⟩ := reps_cons.mp rs
   rw [reps_nil.mp h3]
   obtain ⟨a, ys, rfl, s1, s2⟩ := rep_list.mp h2
   refine ⟨a, ys, rfl, .inl ⟨(zl _ _).seq s1, fun l hn => ?_⟩⟩
   have g2 : Goes f H (upd H l (.tup ys)) := .of_same (zY hn _) fo
   exact k (.tuple ds) _ _ g2 (rep_tuple.mpr ⟨l, ys, rfl, .of (zB (fresh_ne fo hn) zz), Reps.mono g2.1 ds ys s2⟩) p
  ·refine q _ vs H' g r ⟨_, rfl, fun vs H Q fo rs k => ?_⟩
   obtain ⟨x, r, rfl, h2, h3⟩ := reps_cons.mp rs
   rw [reps_nil.mp h3]
   obtain ⟨a, ys, rfl, s1, s2⟩ := rep_tuple.mp h2
   exact ⟨a, ys, rfl, .inr ⟨(zl _ _).seqT s1, k (.tuple ds) _ H (.refl fo) (rep_tuple.mpr ⟨a, ys, rfl, s1, s2⟩) p⟩⟩
end
abbrev f0 : Fx := ⟨none, []⟩
theorem fok0 (H : Hp) : FOk f0 H := ⟨(fun p e => by cases e), (fun b hb => by cases hb), (fun p e => by cases e)⟩
theorem amh {H H' : Hp} (s : Same H H') : Goes f0 H H' := .of_same s (fok0 H)
theorem same0 {H H' : Hp} (g : Goes f0 H H') : Same H H' := fun b o h => (zS (g.sm b o (by rw [yG]; exact h))).2
def ab2 : Option DV -> Option DV
 | some (.dat d) => some (.dat d)
 | _ => none
section
variable {K : amR} {ρ : zr} {te : TE} {tu : TS} {i : Nat}
theorem aaG {p : Addr} {σ : St} {H : Hp} (e : EnvOk K ⟨some p, []⟩ ρ σ H) : EnvOk K f0 (ρ.map ab2) σ H := by
 refine ⟨by rw [amT]; exact e.len, fun i x h => ?_, fok0 H⟩
 rw [am1] at h
 cases eq : ρ[i]? with
 | none => rw [eq] at h; cases h
 | some y =>
  rw [eq] at h
  cases y with
  | none => cases h
  | some y =>
   obtain ⟨v, h1, h2⟩ := e.get i y eq
   cases y with
   | dat d =>
    cases h
    refine ⟨v, h1, ?_⟩
    show Rep K (hide H f0) d v
    rw [yG]
    exact Rep.mono (zl _ _) d v h2
   | feed => cases h
   | own k => cases h
   | exc C => cases h
   | mon φ => cases h
theorem ale {Dn : DEnds} (h : ∀ (σ : St) (H : Hp) (Q : VK), EnvOk K f0 ρ σ H -> (∀ (p : Addr) (x y : Int) (H' : Hp), Same H H' -> H p = none -> H' p = some (.lst [.int x, .int y]) -> 0 <= x -> 0 <= y -> y < 2147483647 -> Q (.ref p) H') -> te σ H Q)
  (hr : ∀ p, PSd K ⟨some p, []⟩ tu (ρ.set i (some .feed)) { nx := fun ρ' => Dn.nx (ρ'.map ab2), rt := Dn.rt, bk := fun ρ' => Dn.bk (ρ'.map ab2), ct := fun ρ' => Dn.ct (ρ'.map ab2) }) :
  PSd K f0 (v7 (qJ te (jf i)) tu) ρ Dn := fun σ H E e n r b k => h σ H _ e fun p x y H1 sm hn hp x0 y0 y1 => by
 have fo : FOk ⟨some p, []⟩ H1 := ⟨fun p' e => by cases e; exact ⟨x, y, hp, x0, y0, y1⟩, (fun b hb => by cases hb), fun _ _ hb => by cases hb⟩
 have sm0 : Same H (hide H1 ⟨some p, []⟩) := fun b o hb => by
  have nb : b ≠ p := fun e => by rw [e, hn] at hb; cases hb
  refine zB (fun z => ?_) (sm b o hb)
  rcases z with z | z
  ·cases z; exact nb rfl
  ·cases z
 have e1 : EnvOk K ⟨some p, []⟩ ρ σ H1 := by
  refine ⟨e.len, fun j z hz => ?_, fo⟩
  obtain ⟨v, a1, a2⟩ := e.get j z hz
  refine ⟨v, a1, ?_⟩
  cases z with
  | dat d =>
   have a2' : Rep K (hide H f0) d v := a2
   rw [yG] at a2'
   exact Rep.mono sm0 d v a2'
  | feed => obtain ⟨q, hq, _⟩ := a2; cases hq
  | own k => obtain ⟨q, hq, _⟩ := a2; cases hq
  | exc C =>
   obtain ⟨q, h3, h4⟩ := a2
   refine ⟨q, h3, sm0 _ _ ?_⟩
   rw [yG] at h4
   exact h4
  | mon φ =>
   intro H' s
   refine a2 H' (Same.trans ?_ s)
   rw [yG]
   exact sm0
 have gg : ∀ {H' : Hp}, Goes ⟨some p, []⟩ H1 H' -> Goes f0 H H' := fun g => amh fun b o hb => zl _ _ b o (g.sm b o (sm0 b o hb))
 refine hr p _ H1 E (e1.set i (x := .feed) ⟨p, rfl, rfl⟩) (fun ρ' σ' H' g' e' p' => n _ σ' H' (gg g') (aaG e') p') (fun d v H' g' r' p' => r d v H' (gg g') ?_ p') (fun ρ' σ' H' g' e' p' => b _ σ' H' (gg g') (aaG e') p') (fun ρ' σ' H' g' e' p' => k _ σ' H' (gg g') (aaG e') p')
 rw [yG]
 exact Rep.mono (zl _ _) d v r'
end
section
variable {X : Cx} {K : amR}
def ami (i j : Int) : Prop := 0 < j /\ j < 1152921504606846976
theorem ac3 : OpR X (binaryOp .FloorDiv) (rI ami fun i j => .int (i / j)) := opI fun i j _ _ _ _ _ hc q => by
 obtain ⟨h1, h2⟩ := hc
 rw [<- Int.fdiv_eq_ediv_of_nonneg i (Int.le_of_lt h1)] at q
 refine floordiv_int (by omega) q (.inl (ap2 ?_))
 have h0 : j.natAbs ≠ 0 := by omega
 have : j.natAbs.log2 < 60 := (aq3 h0).mpr (by omega)
 omega
theorem ac4 (hK : X.K = K) : SlR X (ai2 K) := hK ▸ ai3
end
section
variable {K : amR} {f : Fx} {ρ : zr} {wi : TI} {g : TG} {tt : TT} {own : Nat} {fr : List Nat} {tb : Addr -> TB} {P : List PyData -> Prop}
theorem vT {α : Type} {A B : α -> PyData} (xs : List α) (h : PId K f wi ρ fun ds => ds = xs.map A /\ xs.length <= 1000 /\
   (∀ D x ρ' es, x ∈ xs -> OwnE own (frD fr ρ) ρ' -> es.length < 1000 -> PGd K (f.with D) g (A x) ρ' fun ρ2 => PTd K (f.with D) tt ρ2 fun b => if b = true then PBd K f D (tb D) ρ2 es fun ρ3 es3 => OwnE own (frD fr ρ) ρ3 /\ es3 = es ++ [B x] else False) /\ P (xs.map B)) :
  PEdO K f (qe wi own fr g tt tb) ρ P :=
 vF (h.imp fun ds ⟨ed, hl, hs, hp⟩ => by
  subst ed
  refine ⟨fun i ρ' es => OwnE own (frD fr ρ) ρ' /\ es = (xs.take i).map B, ⟨⟨aoT own none, by simp, rfl⟩, by simp⟩, fun D i d ρ' es hd ⟨ho, he⟩ => ?_, fun ρ' es ⟨_, he⟩ => ?_⟩
  ·rw [am1] at hd
   cases eq : xs[i]? with
   | none => rw [eq] at hd; cases hd
   | some x =>
    rw [eq] at hd
    cases hd
    have hi : i < xs.length := (amU.mp eq).1
    have hb : es.length < 1000 := by
     rw [he, amT, anu]
     omega
    intro σ H v Q e r q
    refine hs D x ρ' es (ana eq) ho hb σ H v Q e r fun ρ2 σ2 H2 g2 e2 p2 => q ρ2 σ2 H2 g2 e2 (p2.imp fun b hb2 => ?_)
    cases b with
    | false =>
     rw [if_neg amQ] at hb2
     exact hb2.elim
    | true =>
     rw [if_pos rfl] at hb2 ⊢
     intro h1 h2 σ3 H3 H4 W c k
     exact hb2 h1 h2 σ3 H3 H4 W c fun ρ5 es5 σ5 H5 c5 ⟨o5, p5⟩ => k ρ5 es5 σ5 H5 c5 ⟨o5, by rw [p5, he, api, eq, anx]; rfl⟩
  ·rw [he, amT, anS]
   exact hp)
end
structure XLie (P : Program) (w : World) (outer : List Env) (H : Hp) (s : Shared) (e : Addr) (C : Value) (H' : Hp) (s' : Shared) : Prop where
 os : s'.os = s.os
 bare : AllBare s'.gens
 un : Un (frs outer) [] H H' s.heap s'.heap
 hok : HOk P w H' s'.heap
 fly : ∃ B a0, aqj B outer e C a0 s'.heap /\ (∀ b o, s.heap.get? b = some o -> b ∉ frs outer -> ∃ o', B.get? b = some o') /\ ∀ b o, H' b = some o -> ∃ o', B.get? b = some o'
 new : s.heap.get? e = none
 free : H' e = none
def CXe (P : Program) (w : World) : CXT := fun outer H s E e s' => ∃ a C H', e = .ref a /\ XLie P w outer H s a C H' s' /\ E C none H'
section
variable {P : Program} {w : World} {H H' : Hp} {h h' : Heap}
theorem ObjOk.is {a : Addr} {o : HO} (x : ObjOk P w H h a o) : ∃ u, h.get? a = some u := by
 induction o with
 | lst xs => obtain ⟨_, _, _, _, e⟩ := x; exact ⟨_, e⟩
 | tup xs => obtain ⟨_, _, _, ob, e, _⟩ := x; exact ⟨_, e⟩
 | dK kvs => obtain ⟨_, _, _, _, o, _, _, e, _⟩ := x; exact ⟨_, e⟩
 | dT kvs => obtain ⟨_, _, _, _, o, _, _, e, _⟩ := x; exact ⟨_, e⟩
 | set S n => obtain ⟨o, _, _, _, e, _⟩ := x; exact ⟨_, e⟩
 | ins C dx fs => obtain ⟨_, _, _, e, _⟩ := x; exact ⟨_, e⟩
 | own y => exact x
 | xd fs => obtain ⟨_, ⟨o, _, _, e, _⟩, _⟩ := x; exact ⟨_, e⟩
 | rng lo hi => obtain ⟨_, _, _, e⟩ := x; exact ⟨_, e⟩
 | frz ob u ih => exact ⟨_, x.1⟩
 | tbl ps => exact ⟨_, x⟩
 | met f y => exact ⟨_, x⟩
 | ext φ => exact x.2.1
theorem HOk.stays (x : HOk P w H h) (k : ∀ b o u, H b = some o -> h.get? b = some u -> h'.get? b = some u) : HOk P w H h' := fun a o e =>
 (x a o e).stay (fun b u hb q => by
  rcases hb with rfl | hb
  ·exact k b o u e q
  ·exact k b _ u hb q) (fun _ q => q) fun _ _ q => q
end
section
variable {X : Cx} {pins : List (Addr × Obj)} {σ : St} {H H' : Hp} {s s' : Shared} {a : Addr} {C : Value} {outer : List Env}
theorem Inv.old_ne (I : Inv X pins σ H s) (hst : X.stack = X.env :: X.outer) (hf : X.env.frame = some X.env.locals) {b : Addr} {o : Obj} (q : X.s₀.heap.get? b = some o) (hb : b ∉ frs X.outer) : b ∉ frs X.stack := fun z => by
 rw [hst] at z
 unfold frs at z
 rw [aoq, hf] at z
 rcases am2.mp z with z | z
 ·have h1 : b < X.s₀.heap.objs.size := amZ q
  rw [z] at h1
  exact absurd h1 (aqY.mpr I.ok.above)
 ·exact hb z
theorem leave_new {E : Value -> Shared -> Prop} {h1 : Heap} {args : List Value} (I : Inv X pins σ H s) (hst : X.stack = X.env :: X.outer) (hf : X.env.frame = some X.env.locals) (hex : X.ex = []) (hx : Heap.MadeExcOf s.heap h1 a C args) :
  wpAny (model X.prog X.w) X.A (leaving X.env (.ref a)) (fun _ s'' => XLie X.prog X.w X.outer X.H₀ X.s₀ a C H s'') E { s with heap := h1 } := by
 have ex0 : ∀ b : Addr, b ∉ X.ex := fun b => by rw [hex]; simp
 have hsub : ∀ env ∈ X.env :: X.outer, ∀ b, env.frame = some b -> b ∈ frs X.stack := fun env he b hb => by
  rw [hst]
  exact apa.mpr ⟨env, he, hb⟩
 have ff := I.stack
 rw [hst] at ff
 have st : (apH s.heap (frs X.stack)).StaysIn s.heap := fun b o hb => PySem.W.of_hideAll _ hb
 refine wpAny_leaves_madeW (base := apH s.heap (frs X.stack)) (h := s.heap) (by rw [I.ok.frames, hst]) hf st (PySem.W.funFrames_hide ff hsub) hx fun h' t fl tup tn up => ?_
 have kp : ∀ b o, s.heap.get? b = some o -> b ∉ frs X.stack -> h'.get? b = some o := fun b o q hb => fl.1 b o (ao2 _ q hb)
 have noF : ∀ b o, b ∈ frs X.outer -> s.heap.get? b = some o -> ∀ vs, o.data ≠ .fields vs := fun b o hb q => by
  obtain ⟨_, o1, q1, hd⟩ := I.stack.mem (b := b) (by
   show b ∈ frs X.stack
   rw [hst]
   unfold frs
   rw [aoq, hf]
   exact amY _ hb)
  rw [q] at q1
  cases q1
  exact hd
 have slots : ∀ b o, b ∈ frs X.outer -> s.heap.get? b = some o -> ∃ sl, h'.get? b = some { o with slots := sl } := fun b o hb q => up b o (hx.keeps b o q) (noF b o hb q)
 have inB : ∀ b o, X.s₀.heap.get? b = some o -> b ∉ frs X.outer -> ∃ o', (apH s.heap (frs X.stack)).get? b = some o' := fun b o q hb => by
  obtain ⟨o1, q1⟩ := I.base.there b o q (ex0 b)
  exact ⟨o1, ao2 _ q1 (I.old_ne hst hf q hb)⟩
 have trk : ∀ b o, H b = some o -> ∃ u, s.heap.get? b = some u /\ b ∉ frs X.stack := fun b o e => by
  have hn : b ∉ frs X.stack := fun z => by rw [I.stkFree b z] at e; cases e
  obtain ⟨u, q⟩ := (I.hok b o e).is
  exact ⟨u, q, hn⟩
 refine ⟨I.os, I.bare, ⟨fun b o q n hb _ => kp b o (I.base.keep b o q n hb (ex0 b)) (I.old_ne hst hf q hb), fun b o q n hb _ => ?_, fun b o q n _ => I.base.free b o q n (ex0 b), fun b o q _ => ?_, I.base.tups, I.base.frzs, I.base.tbls⟩, ?_, ⟨_, _, fl, inB, fun b o e => ?_⟩, ?_, ?_⟩
 ·obtain ⟨sl, q1⟩ := I.base.slot b o q n hb (ex0 b)
  obtain ⟨sl', q2⟩ := slots b _ hb q1
  exact ⟨sl', q2⟩
 ·obtain ⟨o1, q1⟩ := I.base.there b o q (ex0 b)
  by_cases hb : b ∈ frs X.outer
  ·obtain ⟨sl', q2⟩ := slots b _ hb q1
   exact ⟨_, q2⟩
  ·exact ⟨_, kp b o1 q1 (I.old_ne hst hf q hb)⟩
 ·refine HOk.stays I.hok fun b o u e q => kp b u q ?_
  obtain ⟨_, _, hn⟩ := trk b o e
  exact hn
 ·obtain ⟨u, q, hn⟩ := trk b o e
  exact ⟨u, ao2 _ q hn⟩
 ·cases q : X.s₀.heap.get? a with
  | none => rfl
  | some o =>
   obtain ⟨o1, q1⟩ := I.base.there a o q (ex0 a)
   rw [hx.new] at q1
   cases q1
 ·cases q : H a with
  | none => rfl
  | some o =>
   obtain ⟨u, q1, _⟩ := trk a o q
   rw [hx.new] at q1
   cases q1
end
theorem ajb {K : amR} {h : Heap} {mg : Str -> Option Value} {x : Str} {C : Addr} {bmB : List Value} {newId : String} (Y : K.In h) (hm : mg x = some (.ref C)) (he : apA K C bmB newId = true) : OwnCls x C bmB newId mg h := by
 refine ⟨hm, ?_⟩
 unfold apA at he
 split at he
 case h_2 => cases he
 case h_1 dd cd sl lk =>
  split at he
  case h_2 => cases he
  case h_1 D bm a0 a1 a2 a3 nn a5 hmro hsl =>
   simp only [amX, beq_iff_eq, Bool.not_eq_true'] at he
   obtain ⟨⟨⟨⟨⟨e1, e2⟩, e3⟩, e4⟩, e5⟩, e6⟩ := he
   have eo : (Obj.mk (.type "type") dd (.cls cd) sl) = excClassObj cd.name cd.qualname C cd.ns cd.bases bm cd.hasDict cd.slotNames cd.subclasses cd.abstract cd.collection dd a0 a1 a2 a3 a5 newId := by
    have s1 : sl = #[a0, a1, a2, a3, some (.builtin nn), a5] := by
     cases sl with
     | mk l => exact congrArg Array.mk hsl
    rw [s1, e2]
    cases cd
    simp only at hmro e3
    rw [hmro, e1, e3]
   exact ⟨bm, cd.ns, _, _, _, _, _, _, _, _, _, _, _, _, _, _, _, (Y _ _ lk).trans (congrArg some eo), .of_isNs (PySem.W.isNs_of_in Y e5), PySem.W.nsMap_none_of_in Y e5 e6, PySem.W.tail_of_in Y e4⟩
def ahm (C : Value) (E : XK) (t : TA) : TS := fun _ σ H => t σ H fun vs H1 => vs.length <= 1000 /\ E C none H1
section
variable {X : Cx} {pins : List (Addr × Obj)} {σ : St} {H H' H1 H2 : Hp} {s s' s1 s2 : Shared} {a : Addr} {C : Value} {i j : Nat}
theorem alf {M : Model} {A : Around} {E : Value -> Shared -> Prop} {x : Str} {v : V} {Q : Unit -> Shared -> Prop} (I : Inv X pins σ H s) (hN : X.N.Nodup) (hi : X.N[i]? = some x) (hk : X.env.scope.names.lookup x = some .local) (hv : σ[i]? = some (some v))
  (h : ∀ s', Inv X pins (σ.set i none) H s' -> Q () s') : wpAny M A (unbindName X.env x) Q E s := by
 obtain ⟨m, hn, hl⟩ := id I.loc
 obtain ⟨u, r, lk⟩ := hl i x v hi hv (.inl hk)
 have hm : m x = some u := by
  rcases lk with ⟨_, e⟩ | ⟨z, _⟩
  ·exact e
  ·rcases z with z | z
   ·have z' : X.env.scope.names.lookup x = some .cell := z
    rw [hk] at z'; cases z'
   ·have z' : X.env.scope.names.lookup x = some .free := z
    rw [hk] at z'; cases z'
 have plain : (X.env.scope.kind == .class
   || (X.env.scope.kind == .module
    && X.env.locals != X.env.globals)) = false := by
  rw [I.ok.kind]
  rfl
 have cne := I.cne
 refine wpAny_unbindName_local hk hn hm plain fun h' w hn' hs => ?_
 have old : ∀ {b : Addr} {o : Obj}, X.s₀.heap.get? b = some o -> b ≠ X.env.locals := fun {b o} e => ano (ane (amZ e) I.ok.above)
 refine h _ ⟨I.ok, I.os, I.bare, ⟨fun b o e n hb hx => (hs.2 b (old e)).trans (I.base.keep b o e n hb hx), fun b o e n hb hx => ?_, I.base.free, fun b o e hx => ?_, I.base.tups, I.base.frzs, I.base.tbls⟩, ⟨_, hn', fun q y v' e1 e2 e3 => ?_⟩, fun y c e => ?_, I.free, I.freeC, fun p hp => ?_, ?_, by rw [aoo]; exact I.len⟩
 ·obtain ⟨sl, e1⟩ := I.base.slot b o e n hb hx
  exact ⟨sl, (hs.2 b (old e)).trans e1⟩
 ·obtain ⟨o', e1⟩ := I.base.there b o e hx
  exact ⟨o', (hs.2 b (old e)).trans e1⟩
 ·by_cases hj : q = i
  ·subst hj
   rw [List.getElem?_set] at e2
   rw [if_pos rfl] at e2
   split at e2 <;> cases e2
  ·rw [aol (anU hj)] at e2
   obtain ⟨u', r', z⟩ := hl q y v' e1 e2 e3
   refine ⟨u', r', ?_⟩
   rcases z with ⟨k, e⟩ | ⟨k, c, e, z⟩
   ·refine .inl ⟨k, ?_⟩
    have : y ≠ x := fun e => hj (aaq hN e1 (e ▸ hi))
    show (if y = x then w else m y) = some u'
    rw [if_neg this]
    exact e
   ·exact .inr ⟨k, c, e, z.sameBut hs (cne y c e)⟩
 ·obtain ⟨w', z⟩ := I.cell y c e
  exact ⟨w', z.sameBut hs (cne y c e)⟩
 ·obtain ⟨e, n, ne, nf, d⟩ := I.pin p hp
  exact ⟨(hs.2 p.1 ne).trans e, n, ne, nf, d⟩
 ·refine HOk.stays I.hok fun b o u e q => (hs.2 b ?_).trans q
  rintro rfl
  rw [I.free] at e
  cases e
def Cx.marked (X : Cx) (e : Value) : Cx := { X with A := X.A.mark (some e), calm := false, xe := fun _ _ => False }
theorem Cx.Ok.marked (ok : X.Ok) (e : Value) : (X.marked e).Ok :=
 ⟨ok.mod, ok.kind, ok.glob, ok.blt, ok.above, ok.inj, ok.has, ok.cab, (fun z => by cases z), ok.frames, ok.stk, ok.exf, ok.bs, ok.bsz, ok.noex, ok.exfs, ok.funs, ok.frf⟩
theorem Inv.marked (I : Inv X pins σ H s) (e : Value) : Inv (X.marked e) pins σ H s := ⟨I.ok.marked e, I.os, I.bare, I.base, I.loc, I.cell, I.free, I.freeC, I.pin, I.hok, I.len⟩
theorem Inv.unmarked {e : Value} (ok : X.Ok) (I : Inv (X.marked e) pins σ H s) : Inv X pins σ H s := ⟨ok, I.os, I.bare, I.base, I.loc, I.cell, I.free, I.freeC, I.pin, I.hok, I.len⟩
theorem XLie.move {P : Program} {w : World} {outer : List Env} {B : Heap} {a0 : Value} {h'' : Heap} (x : XLie P w outer H s a C H' s') (fl : aqj B outer a C a0 s'.heap) (dom : ∀ b o, s.heap.get? b = some o -> b ∉ frs outer -> ∃ o', B.get? b = some o')
  (trk : ∀ b o, H' b = some o -> ∃ o', B.get? b = some o') (st : B.StaysIn h'') (up : s'.heap.UpToSlots h'') : Un (frs outer) [] H H' s.heap h'' /\ HOk P w H' h'' := by
 have eqB : ∀ b o o', B.get? b = some o' -> s'.heap.get? b = some o -> h''.get? b = some o := fun b o o' hb q => by
  have := fl.1 b o' hb
  rw [q] at this
  cases this
  exact st b o hb
 have noF : ∀ b o, b ∈ frs outer -> s'.heap.get? b = some o -> ∀ vs, o.data ≠ .fields vs := fun b o hb q => by
  obtain ⟨_, o1, q1, hd⟩ := fl.2.2.1.mem hb
  rw [q] at q1
  cases q1
  exact hd
 refine ⟨⟨fun b o q n hb z => ?_, fun b o q n hb z => ?_, x.un.free, fun b o q z => ?_, x.un.tups, x.un.frzs, x.un.tbls⟩, HOk.stays x.hok fun b o u e q => ?_⟩
 ·obtain ⟨o', hB⟩ := dom b o q hb
  exact eqB b o o' hB (x.un.keep b o q n hb z)
 ·obtain ⟨sl, q1⟩ := x.un.slot b o q n hb z
  obtain ⟨sl', q2⟩ := up b _ q1 (noF b _ hb q1)
  exact ⟨sl', q2⟩
 ·by_cases hb : b ∈ frs outer
  ·obtain ⟨o1, q1⟩ := x.un.there b o q z
   obtain ⟨sl', q2⟩ := up b _ q1 (noF b _ hb q1)
   exact ⟨_, q2⟩
  ·obtain ⟨o', hB⟩ := dom b o q hb
   exact ⟨_, st b o' hB⟩
 ·obtain ⟨o', hB⟩ := trk b o e
  exact eqB b u o' hB q
end
def ab3 (D : Ends) (j : Nat) : Ends where
 nx := fun σ H => D.nx (σ.set j none) H
 rt := D.rt
 bk := fun σ H => D.bk (σ.set j none) H
 ct := fun σ H => D.ct (σ.set j none) H
section
variable {X : Cx} {pins : List (Addr × Obj)} {σ : St} {H H1 H2 : Hp} {s s1 s2 : Shared} {a C0 : Addr} {C : Value} {i j : Nat} {n hx : Str} {b0 : Stmt} {suite : List Stmt} {hp hpos : Pos} {ts : TS} {D : Ends}
theorem ab4 {M : Model} {A : Around} {E : Value -> Shared -> Prop} {Q : Unit -> Shared -> Prop} (I : Inv X pins σ H s) (hN : X.N.Nodup) (hj : X.N[j]? = some n) (hn : X.env.scope.names.lookup n = some .local) (h : ∀ s', Inv X pins (σ.set j none) H s' -> Q () s') :
  wpAny M A (do bindName X.env n .none; unbindBehindTheSuite X.env n hpos) Q E s := by
 refine wpAny_bind (wpAny_bindName (je (v := .non) I hN hj (.inl hn) rfl (fun s' I' => ?_) (.inr hn)))
 unfold unbindBehindTheSuite
 refine wpAny_onRaise (alf (v := .non) I' hN hj hn ?_ fun s'' I'' => ?_)
 ·have : j < σ.length := by rw [I.len]; exact (amU.mp hj).1
  rw [aob this]
 ·rw [List.set_set] at I''
  exact h s'' I''
end
end L2
end
section
namespace L2
open PySem PySem.Spec PySem.W PyProof.Rows PySem.Calls PySem.Builtin Builtin Builtin.ObjectAttr Builtin.Getset_descriptor
section
variable {prog : Program} {w : World} {A : Around} {E : Value -> Shared -> Prop} {s : Shared} {K : amR} {a C : Addr}
structure ExcWays (K : amR) (C : Addr) : Prop where
 ga : findIn K (.ref C) "__getattribute__" = some (some (.builtin "BaseException.__getattribute__"))
 gt : findIn K (.ref C) "__getattr__" = some none
 cl : findIn K (.ref C) "__class__" = some (some (.builtin "object.__class__"))
 gs : specialIn K (.builtin "object.__class__") "__get__" = some (some (.builtin "getset_descriptor.__get__"))
 tk : takesIn K (.builtin "object.__class__") = some true
 ob : mroIn K C (.type "object") = some true
 be : mroIn K C (.type "BaseException") = some true
 iz : (clsIn K C).isSome = true
def aaH (a C : Addr) (h : Heap) : Prop := ∃ o, h.get? a = some o /\ o.cls = .ref C
theorem vf {M : Model} {h : Heap} (x : aaH a C h) : Looks M h (typeOf (.ref a)) (.ref C) := by
 obtain ⟨o, h1, h2⟩ := x
 exact h2 ▸ (Looks.ld h1).andThen .now
theorem agd {M : Model} {h : Heap} {x : Value} {nm : Str} {d g : Value} (X : K.In h) (h1 : findIn K (.ref C) nm = some (some d)) (h2 : specialIn K d "__get__" = some (some g)) (h3 : takesIn K d = some true) : Looks M h (find x (.ref C) nm) (.bind g d) := by
 have L1 := looks_findIn (M := M) X h1
 have L2 : Looks M h (getOf (some d)) (some g) := looks_specialIn X h2
 have L3 : Looks M h (dataDescriptor? (some d) (some g)) (some (g, d)) := (looks_takesIn (M := M) X h3).andThen .now
 exact L1.andThen (L2.andThen (L3.andThen (Looks.tag .now)))
theorem ad5 {R : Result -> Shared -> Prop} {tp : Value} (X : K.In s.heap) (I : aaH a C s.heap) (hm : mroIn K C (.type "object") = some true) (h : R (.ok (.ret (.ref C))) s) :
  codeAny (model prog w) A (.call (.builtin "getset_descriptor.__get__") ⟨[.builtin "object.__class__", .ref a, tp], []⟩) R s := by
 obtain ⟨hh, g, dr, t, os⟩ := s
 have L0 := vf (M := model prog w) I
 have L1 := looks_mroIn (M := model prog w) X hm
 refine codeAny_call_builtin KF.slot_gs.plain KF.entry_gs (KF.slot_gs.check _ _ _ _ _ _ _ _ KF.type_class (KF.args_gs _ _ _) ?_)
 unfold Builtin.«getset_descriptor.__get__» descrGet
 rw [dga_obj]
 refine wpAny_bind (wpAny_pure ?_)
 unfold descrGetter descrCheckInstance descrNameAndClass isInstance
 simp only [KF.owner_class]
 repeat lk
 refine ⟨Code.quiet_builtin _ (by decide +kernel), codeAny_builtin KF.entry_class ?_⟩
 unfold Builtin.«object.__class__» shownTypeOf
 repeat lk
 exact h
theorem ahn {M : Model} {nameV : Value} {Q : Unit -> Shared -> Prop} (X : K.In s.heap) (I : aaH a C s.heap) (Wy : ExcWays K C) (h : Q () s) : wpAny M A (checkBuiltinCall "BaseException.__getattribute__" ⟨[.ref a, nameV], []⟩) Q E s := by
 obtain ⟨hh, g, dr, t, os⟩ := s
 have hk : builtinKind "BaseException.__getattribute__" = some .slot := by decide +kernel
 have hsp : splitId "BaseException.__getattribute__" = some ("BaseException", "__getattribute__") := by decide +kernel
 have L0 := vf (M := M) I
 have L1 := looks_mroIn (M := M) X Wy.be
 have ha := F.args_bexc_ga (.ref a) nameV
 simp only [checkBuiltinCall, hk, hsp]
 unfold isInstance
 refine wpAny_bind (wpAny_bind (L0.at (L1.at ?_)))
 rw [anB, if_neg amQ]
 exact wpAny_of_eq ha h
theorem ajc {Q : Option Value -> Shared -> Prop} (X : K.In s.heap) (I : aaH a C s.heap) (Wy : ExcWays K C) (h : Q (some (.ref C)) { s with toks := s.toks + 1 }) : wpAny (model prog w) A (getAttr? (.ref a) "__class__") Q E s := by
 obtain ⟨hh, g, d, t, os⟩ := s
 have L0 := vf (M := model prog w) I
 have L1 := looks_findIn (M := model prog w) X Wy.ga
 have L2 := looks_findIn (M := model prog w) X Wy.gt
 unfold getAttr? getAttrBy? getAttrBy
 refine wpAny_bind (wpAny_mkText (wpAny_bind (wpAny_attempt (wpAny_holding (wpAny_bind (L0.at (wpAny_bind (L1.at ?_))))))))
 dsimp only
 rw [if_neg (by
  have z : (Value.builtin "BaseException.__getattribute__" == Value.builtin "object.__getattribute__") = false := by decide +kernel
  rw [z, apj]
  exact amQ)]
 unfold getAttrByItsOwn hookBefore
 rw [if_pos (show onTheHeap (Value.ref C) = true from rfl)]
 refine wpAny_bind (L2.at (wpAny_bind (wpAny_attempt (wpAny_holding ?_))))
 unfold callGetattribute
 rw [aoS, if_neg amQ]
 unfold boundAndCalled
 have f3 := aqA.ga.bind (.ref a)
 rw [f3]
 refine wpAny_bind (wpAny_pure ?_)
 dsimp only
 refine wpAny_call (codeAny_call_builtin aqA.ga.plain F.entry_bexc_ga (ahn (K := K) (C := C) X I Wy ?_))
 have LF := agd (M := model prog w) (x := .ref a) X Wy.cl Wy.gs Wy.tk
 unfold Builtin.«object.__getattribute__»
 refine wpAny_bind (wpAny_of_eq (a := (Value.ref a, [Value.str (aou "__class__") t])) rfl ?_)
 dsimp only
 refine wpAny_bind (wpAny_of_eq (a := (aou "__class__")) rfl ?_)
 refine wpAny_bind (L0.at (wpAny_bind (LF.at ?_)))
 dsimp only
 unfold bindTo
 refine wpAny_bind (wpAny_call (ad5 (K := K) X I Wy.ob ?_))
 show wpAny _ _ (pure _) _ _ _
 refine wpAny_pure ?_
 dsimp only
 exact handed_on rfl (wpAny_pure h)
theorem aho (Wy : ExcWays K C) : KitX K (.ref a) (.ref C) (aaH a C) where
 ty := fun _ _ _ I => vf I
 it := fun _ _ X _ => by
  obtain ⟨cd, hc⟩ := aoj.mp Wy.iz
  unfold clsIn at hc
  split at hc
  ·rename_i lk
   intro A' Q' E' s' k q
   unfold isType loadHead
   exact wpAny_bind (wpAny_loadPart (k _ _ (X _ _ lk)) (wpAny_pure q))
  ·cases hc
 ne := fun h tp dd its n sl X htp => by
  obtain ⟨cd, hc⟩ := aoj.mp Wy.iz
  refine Bool.eq_false_iff.mpr fun q => ?_
  have e : C = tp := Value.ref.inj (beq_iff_eq.mp q)
  unfold clsIn at hc
  split at hc
  ·rename_i lk
   have z := X _ _ lk
   rw [e] at z
   rw [htp] at z
   cases z
  ·cases hc
 ca := fun X I k => ajc X I Wy k
end
structure FnInX (P : Program) (w : World) (K : amR) (mg : Str -> Option Value) (base : Heap) (k : Nat) (x : Str) (ps : List Str) (sp : Sp) : Prop where
 ex : ∃ (f : Addr) (fd : FuncData), FnOk P w K mg base (CXe P w) k f fd ps sp /\ mg x = some (.ref f) /\ anH K (.ref f) = true /\ Binds K fd ps []
end L2
end
section
namespace L2
open PySem PySem.Spec PyProof.Rows
def alg (K : amR) : List V -> Hp -> VK -> Prop := fun xs H Q => ∃ (a : Addr) (bs : List Bool), xs = [.ref a] /\ SqL K H a (bs.map V.bl) /\ Q (.bl (bs.all id)) H
def amL (K : amR) : List V -> Hp -> VK -> Prop := fun xs H Q => ∃ (a : Addr) (bs : List Bool), xs = [.ref a] /\ SqL K H a (bs.map V.bl) /\ Q (.bl (bs.any id)) H
theorem aaI : ∀ {bs : List Bool} {us : List Value}, Vals (bs.map V.bl) us -> us = bs.map Value.bool
 | [], us, r => by
  cases r
  rfl
 | b :: bs, us, r => by
  cases r with
  | cons h t =>
   rw [aaI t]
   cases (show _ = Value.bool b from h)
   rfl
theorem range_all (bs : List Bool) : (am8 bs.length).all (fun i => bs.getD i false) = bs.all id := by
 rw [aqo, apy, apy]
 constructor
 ·intro h b hb
  obtain ⟨i, hi, rfl⟩ := aqB.mp hb
  have := h i (ans.mpr hi)
  rwa [amS, amP hi] at this
 ·intro h i hi
  have hi' := ans.mp hi
  rw [amS, amP hi']
  exact h _ (ani hi')
theorem range_any (bs : List Bool) : (am8 bs.length).any (fun i => bs.getD i false) = bs.any id := by
 rw [aqo, List.any_eq_true, List.any_eq_true]
 constructor
 ·rintro ⟨i, hi, h⟩
  have hi' := ans.mp hi
  rw [amS, amP hi'] at h
  exact ⟨_, ani hi', h⟩
 ·rintro ⟨b, hb, h⟩
  obtain ⟨i, hi, rfl⟩ := aqB.mp hb
  refine ⟨i, ans.mpr hi, ?_⟩
  rw [amS, amP hi]
  exact h
theorem vU (prog : Program) (w : World) (A : Around) (bs : List Bool) : TruthOf prog w A (fun i v => (bs.map Value.bool).toArray[i]? = some v) (fun i => bs.getD i false) := by
 intro i v s Q E hv hq
 rw [List.getElem?_toArray, am1] at hv
 cases eb : bs[i]? with
 | none => rw [eb] at hv; cases hv
 | some b =>
  rw [eb] at hv
  cases hv
  dsimp only at hq
  rw [amS, eb] at hq
  exact wpAny_pure hq
theorem age {X : Cx} (hc : X.calm = true) : yk X (.builtin "all") (alg X.K) := by
 intro pins s σ H xs us Q I r h
 obtain ⟨a, bs, rfl, hq, q⟩ := h
 obtain ⟨u, rfl, r1⟩ := vals1 r
 cases r1
 obtain ⟨its, rv, p, _⟩ := I.list hq
 have hl := p.isList
 rw [aaI rv] at hl
 have ha : a < s.heap.objs.size := by
  obtain ⟨o, ho, _⟩ := hl
  exact amZ ho
 refine call_all_walk (wpAny_pyIter_list hl ?_)
 have hne : a ≠ s.heap.objs.size := ano ha
 refine ⟨s.heap.objs.size, _, _, _, _, _, _, rfl, Walks.list (show (X.A.in1).handled = none from I.ok.hd hc) _ a hne _, ⟨?_, ?_⟩, vU _ _ _ bs, fun h' tk hk => ?_⟩
 ·exact ⟨_, anr _ rfl, rfl, rfl⟩
 ·exact hl.at fun o e => amW _ e
 ·have kp : ∀ b o, s.heap.get? b = some o -> h'.get? b = some o := fun b o e => hk b o (by
   intro z
   have := amZ e
   rw [anp.mp z] at this
   exact aoi _ this) (amW _ e)
  refine ⟨.bl _, H, I.kept (t' := tk) kp, ?_, q⟩
  show Value.bool _ = Value.bool _
  rw [am4, amT, range_all]
theorem abw {X : Cx} {K : amR} (hK : X.K = K) (hc : X.calm = true) : yk X (.builtin "all") (alg K) := hK ▸ age hc
section
variable {K : amR} {f : Fx} {ρ : zr} {P : PyData -> Prop} {te : TE}
theorem qV {H : Hp} : ∀ {bs : List Bool} {xs : List V}, Reps K H (bs.map .bool) xs -> xs = bs.map V.bl
 | [], xs, r => reps_nil.mp r
 | b :: bs, xs, r => by
  obtain ⟨x, r', rfl, h1, h2⟩ := reps_cons.mp r
  rw [qV h2, rep_bool.mp h1]
  rfl
theorem akr (h : PEd K f te ρ fun x => ∃ bs : List Bool, x = .list (bs.map .bool) /\ P (.bool (bs.all id))) : PEd K f (tCB (alg K) (yo te qj)) ρ P := fun σ H Q e q => h σ H _ e fun x v H1 g1 r1 ⟨bs, ex, p⟩ => by
 subst ex
 obtain ⟨a, xs, rfl, h1, h2⟩ := rep_list.mp r1
 rw [qV h2] at h1
 exact ⟨a, bs, rfl, (zl _ _).seq h1, q _ _ H1 g1 (rep_bool.mpr rfl) p⟩
end
section
variable {prog : Program} {w : World} {A : Around} {E : Value -> Shared -> Prop}
theorem abx {I : Addr} {fp wr : List Addr} {n : Nat} {P : Nat -> Value -> Prop} {St : Nat -> Heap -> Prop} (W : Walks prog w A I fp wr n P St) : ∀ (k i : Nat) (s : Shared) (Q : List Value -> Shared -> Prop), i + k <= n -> St i s.heap ->
  (∀ vs h' tk, vs.length = k -> (∀ (j : Nat) v, vs[j]? = some v -> P (i + j) v) -> St (i + k) h' -> (∀ b o, b ∉ wr -> s.heap.get? b = some o -> h'.get? b = some o) -> Q vs { s with heap := h', toks := tk }) -> wpAny (model prog w) A (draw (.ref I) k) Q E s
 | 0, i, s, Q, _, st, hQ => wpAny_pure (hQ [] s.heap s.toks rfl (fun j v e => by simp at e) st fun _ _ _ e => e)
 | k + 1, i, s, Q, hle, st, hQ => by
  show wpAny _ _ (pyNext (.ref I) >>= _) Q E s
  refine wpAny_bind (W.item i s _ E (by omega) st fun v h1 tk1 hv st1 k1 => ?_)
  refine wpAny_bind (wpAny_holding (abx W k (i + 1) _ _ (by omega) st1 fun vs h2 tk2 hl hp st2 k2 => wpAny_pure ?_))
  refine hQ (v :: vs) h2 tk2 (by rw [anb, hl]) (fun j u e => ?_) (by rw [show i + (k + 1) = i + 1 + k by omega]; exact st2) fun b o hb e => k2 b o hb (k1 b o hb e)
  cases j with
  | zero => cases e; exact hv
  | succ j =>
   have := hp j u e
   rwa [show i + (j + 1) = i + 1 + j by omega]
theorem ad6 {s : Shared} {a : Addr} {items : Array Value} {targets : List (Bool × (Value -> Sem Unit))} {Q : Unit -> Shared -> Prop} (hh : A.handled = none) (hl : s.heap.IsList a items)
  (hn : targets.length = items.size) (hstar : targets.findIdx? (·.1) = none)
  (h : ∀ h' tk, (∀ b o, s.heap.get? b = some o -> h'.get? b = some o) -> wpAny (model prog w) A (assignInOrder (targets.map (·.2)) items.toList) Q E { s with heap := h', toks := tk }) : wpAny (model prog w) A (unpack (.ref a) targets) Q E s := by
 have ha : a < s.heap.objs.size := by
  obtain ⟨o, ho, _⟩ := hl
  exact amZ ho
 unfold unpack
 rw [hn, hstar]
 refine wpAny_bind (wpAny_holding ?_)
 unfold unpackItems
 refine wpAny_bind ?_
 unfold notIterableAtAll
 refine wpAny_bind (wpAny_specialOf hl.typeIs slot_list_iter.lookup (wpAny_pure ?_))
 simp only [anw, if_false]
 refine wpAny_bind (wpAny_holding (wpAny_pyIter_list hl ?_))
 have W := Walks.list (prog := prog) (w := w) hh s.heap.objs.size a (ano ha) items
 have fr : ∀ b o, s.heap.get? b = some o -> b ∉ [s.heap.objs.size] := fun b o e z => by
  have := amZ e
  rw [anp.mp z] at this
  exact aoi _ this
 refine wpAny_bind (wpAny_holding (abx W items.size 0 _ _ (by omega) ⟨⟨_, anr _ rfl, rfl, rfl⟩, hl.at fun o e => amW _ e⟩ fun vs h1 tk1 hvl hp st1 k1 => ?_))
 have ev : vs = items.toList := by
  refine apk fun j => ?_
  by_cases hj : j < vs.length
  ·have := hp j _ (amP hj)
   rw [aqk] at this
   rw [amP hj, <- this, aqs]
  ·rw [anj (by omega), anj (by rw [am5]; omega)]
 subst ev
 rw [if_neg (by simp)]
 rw [aqk] at st1
 refine wpAny_bind (wpAny_holding (W.done _ _ _ st1 fun h2 tk2 k2 => ?_))
 simp only [Option.isSome_none, anw, if_false]
 exact wpAny_pure (h h2 tk2 fun b o e => k2 b o (fr b o e) (k1 b o (fr b o e) (amW _ e)))
end
def amj (K : amR) (n : Nat) (gs : TGs) : TG := fun v σ H Q => ∃ a xs, v = .ref a /\ SqL K H a xs /\ xs.length = n /\ gs xs σ H Q
theorem ab5 {X : Cx} {K : amR} {es : List Expr} {k : Nat} {t : TGs} {n : Nat} {pos : Pos} (hK : X.K = K) (hc : X.calm = true) (h : PGs X es t)
  (hn : (assignEach es X.env).length = n := by rfl) (hst : (assignEach es X.env).findIdx? (·.1) = none := by rfl) : PG X (.Tuple es k pos) (amj K n t) := by
 subst hK
 intro pins s σ H v u Q I r hw
 obtain ⟨a, xs, e1, hq, hl, hw⟩ := hw
 subst e1
 cases r
 obtain ⟨its, rv, p, hz⟩ := I.list hq
 rw [assign_Tuple]
 refine wpAny_bind (wpAny_standAt (ad6 (I.ok.hd hc) p.isList (by rw [hn, <- hl, rv.length, am4]) hst fun h' tk kp => ?_))
 exact h pins _ σ H xs _ Q (I.kept (t' := tk) kp) rv hw
section
variable {K : amR} {f : Fx} {ρ : zr}
theorem ahp {n : Nat} {gs : TGs} {ds : List PyData} {R : zr -> Prop} (hn : ds.length = n) (h : ahe K f gs ds ρ R) : PGd K f (amj K n gs) (.list ds) ρ R := fun σ H v Q e r q => by
 obtain ⟨a, xs, rfl, h1, h2⟩ := rep_list.mp r
 exact ⟨a, xs, rfl, (zl _ _).seq h1, by rw [h2.length]; exact hn, h σ H xs Q e h2 q⟩
end
section
variable {X : Cx} {pins : List (Addr × Obj)} {σ : St} {H : Hp} {s : Shared}
theorem agf {K : amR} (hK : X.K = K) : OpR X (compareOp .NotIn) (rIn K true) := hK ▸ abX
end
section
variable {K : amR} {f : Fx} {ρ : zr} {P : PyData -> Prop} {te ta tb : TE} {t : TA} {D : DEnds} {i j : Nat}
theorem ahq (h : PEd K f ta ρ fun d => ∃ n : Int, d = .int n /\ PEd K f tb ρ fun y => ∃ ns : List Int, y = .tuple (ns.map .int) /\ P (.bool (!ns.contains n))) : PEd K f (tOp (rIn K true) ta tb) ρ P := fun σ H Q e q =>
 h σ H _ e fun d v H1 g1 r1 ⟨n, ed, p1⟩ => p1 σ H1 _ (e.mono g1) fun y w H2 g2 r2 ⟨ns, ey, p2⟩ => by
  subst ed ey
  obtain ⟨a, xs, rfl, h1, h2⟩ := rep_tuple.mp r2
  have ex := h2.ints
  subst ex
  rw [rep_int.mp r1]
  have e1 : inV (.int n) (ns.map V.int) = ns.contains n := by
   unfold inV
   rw [List.any_map, List.contains_eq_any_beq]
   congr 1
   funext m
   show (m == n) = (n == m)
   exact BEq.comm
  refine ⟨a, _, rfl, .inr ((zl _ _).seqT h1), rfl, ?_, ?_⟩
  ·rw [List.all_map]
   exact apy.mpr fun _ _ => rfl
  ·rw [if_pos rfl, e1]
   exact q _ _ H2 (g1.trans g2) (rep_bool.mpr rfl) p2
theorem ae1 (h : PAd K f t ρ fun xs => ∃ d d', xs = [.dat d, .dat d'] /\ D.nx ((ρ.set i (some (.dat d))).set j (some (.dat d')))) : PSd K f (al8 i j t) ρ D := fun σ H E e n r b c =>
 h σ H _ e fun xs vs H1 g1 r1 ⟨d, d', ex, p⟩ => by
  subst ex
  cases r1 with
  | cons ra rs =>
   cases rs with
   | cons rb rs =>
    cases rs
    exact ⟨_, _, rfl, n _ _ H1 g1 (((e.mono g1).set i (x := .dat d) ra).set j (x := .dat d') rb) p⟩
end
section
variable {K : amR} {f : Fx} {ρ : zr} {D : DEnds}
theorem ae2 {tc : TT} {tb : TS} (J : zr -> Prop) (μ : zr -> Nat) (h0 : J ρ)
  (hs : ∀ ρ', J ρ' -> PTd K f tc ρ' fun b => if b = true then PSd K f tb ρ' { D with nx := fun r => J r /\ μ r < μ ρ', ct := fun r => J r /\ μ r < μ ρ', bk := D.nx } else D.nx ρ') : PSd K f (adS tc tb) ρ D := fun σ H E e n r b c => by
 refine ⟨fun m σ' H' => ∃ ρ', EnvOk K f ρ' σ' H' /\ Goes f H H' /\ J ρ' /\ m = μ ρ', ⟨_, ρ, e, .refl e.fd, h0, rfl⟩, ?_⟩
 rintro m σ1 H1 ⟨ρ1, e1, g1, j1, rfl⟩
 refine hs ρ1 j1 σ1 H1 _ e1 fun t H2 g2 p => ?_
 cases t with
 | true =>
  rw [if_pos rfl] at p ⊢
  refine ⟨fun σ' H' => ∃ ρ', EnvOk K f ρ' σ' H' /\ Goes f H H' /\ J ρ' /\ μ ρ' < μ ρ1, fun σ' H' ⟨ρ', e', g', j', l'⟩ => ⟨_, l', ρ', e', g', j', rfl⟩, ?_⟩
  have gg := g1.trans g2
  exact p σ1 H2 _ (e1.mono g2) (fun ρ5 σ5 H5 g5 e5 p5 => ⟨ρ5, e5, gg.trans g5, p5⟩) (fun d v H5 g5 r5 p5 => r d v H5 (gg.trans g5) r5 p5) (fun ρ5 σ5 H5 g5 e5 p5 => n ρ5 σ5 H5 (gg.trans g5) e5 p5) (fun ρ5 σ5 H5 g5 e5 p5 => ⟨ρ5, e5, gg.trans g5, p5⟩)
 | false =>
  rw [if_neg amQ] at p ⊢
  exact n ρ1 σ1 H2 (g1.trans g2) (e1.mono g2) p
end
section
variable {K : amR} {f : Fx} {ρ : zr} {E : XK} {te : TE} {ts tu : TS} {tt : TT} {t : TA} {P : PyData -> Prop} {D : DEnds}
theorem amk (h : PEd K f te ρ fun x => ∃ i, x = .int i /\ P (.int (-i))) : PEd K f (tUn (rU fun i => .int (-i)) te) ρ P :=
 amJ (h.imp fun x ⟨i, ex, p⟩ v H Q fo r q => by
  subst ex
  exact ⟨i, rep_int.mp r, q _ _ H (.refl fo) (rep_int.mpr rfl) p⟩)
end
end L2
end
section
namespace L2
open PySem PySem.Spec PyProof.Rows
end L2
end
section
namespace L2
open PySem PySem.Spec PyProof.Rows
def alh (K : amR) : List V -> Hp -> VK -> Prop := fun xs H Q => ∃ (a : Addr) (ns : List Int), xs = [.ref a] /\ SqL K H a (ns.map V.int) /\ Q (.int ns.sum) H
theorem agg {X : Cx} (hc : X.calm = true) : yk X (.builtin "sum") (alh X.K) := by
 intro pins s σ H xs us Q I r h
 obtain ⟨a, ns, rfl, hq, q⟩ := h
 obtain ⟨u, rfl, r1⟩ := vals1 r
 cases r1
 obtain ⟨its, rv, p, _⟩ := I.list hq
 have hl := p.isList
 have hi : IntsAre its ns := intsAre_of rv
 obtain ⟨zs, ez⟩ := hi.allInts.items
 rw [ez] at hl
 refine sum_intListG (show (X.A).handled = none from I.ok.hd hc) hl fun h' tk t' kp => ⟨.int _, H, I.kept (t' := tk) kp, ⟨_, rfl⟩, ?_⟩
 have e : preSum (numAt zs) zs.size = ns.sum := by
  rw [<- hi.numsOf, show its = its.toArray.toList from rfl, ez, nums_intItems, preSum_eq, aql (by simp)]
 rw [e]
 exact q
theorem ad7 {X : Cx} {K : amR} (hK : X.K = K) (hc : X.calm = true) : yk X (.builtin "sum") (alh K) := hK ▸ agg hc
section
variable {K : amR} {f : Fx} {ρ : zr} {P : PyData -> Prop} {te : TE}
theorem aml (h : PEd K f te ρ fun x => ∃ ns : List Int, x = .list (ns.map .int) /\ P (.int ns.sum)) : PEd K f (tCB (alh K) (yo te qj)) ρ P := fun σ H Q e q => h σ H _ e fun x v H1 g1 r1 ⟨ns, ex, p⟩ => by
 subst ex
 obtain ⟨a, xs, rfl, h1, h2⟩ := rep_list.mp r1
 rw [h2.ints] at h1
 exact ⟨a, ns, rfl, (zl _ _).seq h1, q _ _ H1 g1 (rep_int.mpr rfl) p⟩
end
section
variable {prog : Program} {w : World} {A : Around} {E : Value -> Shared -> Prop} {s : Shared}
theorem ajd {t b : Addr} {vs ws : List Value} {Q : Value -> Shared -> Prop} (ht : PlainL s.heap t vs.toArray) (hb : PlainL s.heap b ws.toArray)
  (h2 : Q (.ref s.heap.objs.size) { s with heap := s.heap.push { cls := .type "list", data := .seq (vs ++ ws).toArray } })
  (hsz : vs.length + ws.length <= sizeLine) : wpAny (model prog w) A (binaryOp .Add (.ref t) (.ref b)) Q E s := by
 obtain ⟨⟨cls, dd, data, sl⟩, n, ho, hc, _, hd⟩ := ht
 obtain ⟨⟨cls2, dd2, data2, sl2⟩, n2, ho2, hc2, _, hd2⟩ := hb
 simp only at hc hd hc2 hd2
 subst hc hd hc2 hd2
 have e : vs.toArray ++ ws.toArray = (vs ++ ws).toArray := by simp
 refine concat_meets ⟨_, ho, rfl⟩ ⟨_, ho2, rfl⟩ noFill_list_add seq_list_add PySem.F.slot_list_add PySem.F.entry_list_add (PySem.F.args_list_add_2 _ _) (list_addW t b vs.toArray ws.toArray n n2 dd dd2 sl sl2 (by rw [am4, am4]; exact hsz)) ⟨ho, ho2, ?_⟩
 rw [e]
 exact h2
end
def ahr (K : amR) : R2 := fun x y H Q => ∃ l b xs zs, x = .ref l /\ y = .ref b /\ SqL K H l xs /\ SqL K H b zs /\ xs.length + zs.length <= sizeLine /\ ∀ p, H p = none -> Q (.ref p) (upd H p (.lst (xs ++ zs)))
section
variable {X : Cx}
theorem aje : OpR X (binaryOp .Add) (ahr X.K) := by
 intro pins s σ H x y v u Q I rx ry h
 obtain ⟨l, b, xs, zs, rfl, rfl, ha, hb, hz, q⟩ := h
 cases rx
 cases ry
 obtain ⟨its, r1, p1, _⟩ := I.list ha
 obtain ⟨its2, r2, p2, _⟩ := I.list hb
 refine ajd p1 p2 ?_ (by rw [<- r1.length, <- r2.length]; exact hz)
 exact ⟨.ref _, _, I.lnew (t' := s.toks) (r1.append r2) (by rw [am9]; omega), rfl, q _ I.fresh⟩
theorem vg {K : amR} (hK : X.K = K) : OpR X (binaryOp .Add) (ahr K) := hK ▸ aje
end
section
variable {K : amR} {f : Fx} {ρ : zr} {P : PyData -> Prop} {te ta tb : TE} {t : TA}
theorem ab6 (h : PEd K f ta ρ fun x => ∃ ds, x = .list ds /\ PEd K f tb ρ fun y => ∃ es, y = .list es /\ ds.length + es.length <= 1000 /\ P (.list (ds ++ es))) : PEd K f (tOp (ahr K) ta tb) ρ P := fun σ H Q e q =>
 h σ H _ e fun x v H1 g1 r1 ⟨ds, ex, p1⟩ => p1 σ H1 _ (e.mono g1) fun y w H2 g2 r2 ⟨es, ey, hl, p2⟩ => by
  subst ex ey
  obtain ⟨a, xs, rfl, h1, h2⟩ := rep_list.mp (Rep.mono g2.sm _ _ r1)
  obtain ⟨b, ys, rfl, h3, h4⟩ := rep_list.mp r2
  have l1 := h2.length
  have l2 := h4.length
  refine ⟨a, b, xs, ys, rfl, rfl, (zl _ _).seq h1, (zl _ _).seq h3, by rw [l1, l2]; exact anE (yg hl), fun p hn => ?_⟩
  have g3 : Goes f H2 (upd H2 p (.lst (xs ++ ys))) := .of_same (zY hn _) g2.ok
  exact q (.list (ds ++ es)) _ _ (g1.trans (g2.trans g3)) (rep_list.mpr ⟨p, _, rfl, .of (zB (fresh_ne g2.ok hn) zz), Reps.mono g3.sm _ _ (h2.append h4)⟩) p2
theorem ac5 {R : List PyData -> Prop} (h : PAd K f t ρ fun xs => ∃ ds, jV xs = some ds /\ ds.length <= 1000 /\ R ds) : PEdO K f (ag0 t) ρ R := fun σ H Q e q =>
 h σ H _ e fun xs vs H1 g1 r1 ⟨ds, ea, hl, p⟩ => by
  have rs := qy r1 ea
  refine ⟨by rw [rs.length]; exact anE (yg hl), fun l hn => ?_⟩
  have g2 : Goes f H1 (upd H1 l (.lst vs)) := .of_same (zY hn _) g1.2
  have nl := fresh_ne g1.2 hn
  refine q ds l vs _ (g1.trans g2) (g1.free e.fd hn) zz (Reps.mono (fun b o hb => ?_) _ _ rs) p
  have hb' := zS hb
  have hbl : b ≠ l := fun z => by
   have := hb'.2
   rw [z, hn] at this
   cases this
  refine zB (fun z => ?_) (by rw [zy hbl]; exact hb'.2)
  rcases z with z | z
  ·exact hb'.1 (.inl z)
  ·rcases am2.mp z with z | z
   ·exact hbl z
   ·exact hb'.1 (.inr z)
end
def spN {γ : Type} (K : amR) (n : Nat) (pre : γ -> List DV -> Prop) (post : γ -> List PyData -> Prop) : Sp := fun vs H Q _ => ∃ f xs c, RepVs K f H xs vs /\ xs.length = n /\ FOk f H /\ pre c xs /\
 ∀ es D vs' H', Goes f H H' -> H D = none -> H' D = some (.lst vs') -> Reps K (hide H' (f.with D)) es vs' -> post c es -> Q (.ref D) H'
def PSn (K : amR) (f : Fx) (ts : TS) (ρ : zr) (R : List PyData -> Prop) : Prop := ∀ (σ : St) (H : Hp) (E : Ends), EnvOk K f ρ σ H ->
 (∀ es D vs H', Goes f H H' -> H D = none -> H' D = some (.lst vs) -> Reps K (hide H' (f.with D)) es vs -> R es -> E.rt (.ref D) H') -> ts E σ H
section
variable {K : amR} {f : Fx} {ρ : zr} {R : List PyData -> Prop} {te : TE} {ts tu : TS} {tt : TT} {t : TA} {i : Nat} {D : Addr} {es : List PyData} {O : OEnds}
theorem ac6 (h : PEdO K f te ρ R) : PSn K f (adR te) ρ R := fun σ H E e q => h σ H E.rt e q
theorem aaJ (h : PSd K f ts ρ { nx := fun ρ' => PSn K f tu ρ' R, rt := fun _ => False }) : PSn K f (v7 ts tu) ρ R := fun σ H E e q =>
 h σ H _ e (fun ρ' σ' H' g' e' p => p σ' H' E e' fun es D vs H2 g2 hn h1 rs r => q es D vs H2 (g'.trans g2) (g'.free e.fd hn) h1 rs r) (fun _ _ _ _ _ z => z.elim) (fun _ _ _ _ _ z => z.elim) (fun _ _ _ _ _ z => z.elim)
theorem aks (h : PTd K f tt ρ fun b => if b = true then PEdO K f te ρ R else PSn K f tu ρ R) : PSn K f (v7 (afX tt (adR te) aeG) tu) ρ R := fun σ H E e q =>
 h σ H _ e fun b H1 g1 p => by
  have q1 : ∀ es D vs H', Goes f H1 H' -> H1 D = none -> H' D = some (.lst vs) -> Reps K (hide H' (f.with D)) es vs -> R es -> E.rt (.ref D) H' := fun es D vs H' g' hn => q es D vs H' (g1.trans g') (g1.free e.fd hn)
  cases b with
  | true => rw [if_pos rfl] at p ⊢; exact p σ H1 E.rt (e.mono g1) q1
  | false => rw [if_neg amQ] at p ⊢; exact p σ H1 E (e.mono g1) q1
theorem ab7 {γ : Type} {n : Nat} {pre : γ -> List DV -> Prop} {post : γ -> List PyData -> Prop} {E : XK} (c : γ) (h : PAd K f t ρ fun xs => xs.length = n /\ pre c xs /\ ∀ es, post c es -> R es) : PEdO K f (abl (spN K n pre post) [] E t) ρ R := fun σ H Q e q =>
 h σ H _ e fun xs vs H1 g1 r1 ⟨hl, hp, k⟩ => ⟨f, xs, c, by rw [anG]; exact r1, hl, g1.2, hp, fun es D vs' H' g' hn h1 rs p => q es D vs' H' (g1.trans g') (g1.free e.fd hn) h1 rs (k es p)⟩
theorem akt {ta tb : TE} (h : PTd K f tt ρ fun b => if b = true then PEdO K f ta ρ R else PEdO K f tb ρ R) : PEdO K f (tIf tt ta tb) ρ R := fun σ H Q e q =>
 h σ H _ e fun b H1 g1 p => by
  have q1 : ∀ es D vs H', Goes f H1 H' -> H1 D = none -> H' D = some (.lst vs) -> Reps K (hide H' (f.with D)) es vs -> R es -> Q (.ref D) H' := fun es D vs H' g' hn => q es D vs H' (g1.trans g') (g1.free e.fd hn)
  cases b with
  | true => rw [if_pos rfl] at p ⊢; exact p σ H1 Q (e.mono g1) q1
  | false => rw [if_neg amQ] at p ⊢; exact p σ H1 Q (e.mono g1) q1
end
section
variable {P : Program} {w : World} {K : amR} {mg : Str -> Option Value} {base : Heap} {k : Nat} {x : Str} {st : Stmt} {ps : List Str} {N : List Str} {n : Nat} {γ : Type} {pre : γ -> List DV -> Prop} {post : γ -> List PyData -> Prop}
theorem Def.okN (F : Def K mg x st ps) (S : FnScope N ps (zh st)) (hn : ps.length = n)
  (h : ∀ (fa : Addr) (cdv : Value) (A : Around) (outer : List Env) (s : Shared) (H : Hp) (E : XK), Room k (A.deeper (envOfC x (zh st) s.heap.objs.size fa cdv)) ->
   ∃ t, PSs (zM CX0 P w K mg base N x (zh st) fa cdv A outer s H E).nox (yq st) t /\ ∀ (f : Fx) (xs : List DV) (c : γ), xs.length = n -> pre c xs -> PSn K f t (jE N xs) (post c)) :
  FnIn P w K mg base (k + 1) x ps (spN K n pre post) := by
 obtain ⟨fa, fd, F1, F2, F3⟩ := F.ex
 refine ⟨fa, fd, F1.ok S (fun vs H Q E h => ?_) (fun cdv A outer s H vs Q E hr hs => ?_), F3, F1.kp, F2⟩
 ·obtain ⟨f, xs, c, r, hl, _⟩ := h
  rw [r.length, hl, hn]
 ·obtain ⟨f, xs, c, r, hl, fo, hp, q⟩ := hs
  obtain ⟨t, h1, h2⟩ := h fa cdv A outer s H E hr
  exact ⟨t, h1, h2 f xs c hl hp (start N vs) H _ (jc r fo) (fun es D vs' H' g hn' h1' rs p => q es D vs' H' g hn' h1' rs p)⟩
end
end L2
end
section
namespace L2
open PySem PySem.W PyProof.Rows
structure Tot (n : Nat) (lt : Nat -> Nat -> Bool) : Prop where
 tri : ∀ i j, i < n -> j < n -> i ≠ j -> lt i j = !lt j i
 tra : ∀ i j k, i < n -> j < n -> k < n -> lt i j = true -> lt j k = true -> lt i k = true
def Ans (cmp : Nat -> Nat -> (Bool -> Shared -> Prop) -> Shared -> Prop) (n : Nat) (lt : Nat -> Nat -> Bool) (s : Shared) : Prop := ∀ i j C, i < n -> j < n -> C (lt i j) s -> cmp i j C s
def Pm (n : Nat) (p : Array Nat) : Prop := p.toList.Perm (am8 n)
def Up (lt : Nat -> Nat -> Bool) (p : Array Nat) (m : Nat) : Prop := ∀ i j, i < j -> j < m -> lt (p.getD i 0) (p.getD j 0) = true
def Dn (lt : Nat -> Nat -> Bool) (p : Array Nat) (m : Nat) : Prop := ∀ i j, i < j -> j < m -> lt (p.getD j 0) (p.getD i 0) = true
theorem Pm.size {n : Nat} {p : Array Nat} (h : Pm n p) : p.size = n := by
 have := h.length_eq
 rwa [am5, anO] at this
theorem jq (p : Array Nat) (i : Nat) : p.getD i 0 = p.toList.getD i 0 := by
 by_cases h : i < p.size <;> simp [aoM, h, List.getD]
theorem Pm.lt {n : Nat} {p : Array Nat} (h : Pm n p) {i : Nat} (hi : i < n) : p.getD i 0 < n := by
 have hs := h.size
 have hl : i < p.toList.length := by rw [am5, hs]; exact hi
 rw [jq, amS, amP hl]
 exact ans.mp (h.mem_iff.mp (ani hl))
theorem Pm.ne {n : Nat} {p : Array Nat} (h : Pm n p) {i j : Nat} (hi : i < n) (hj : j < n) (ne : i ≠ j) : p.getD i 0 ≠ p.getD j 0 := by
 have hs := h.size
 have nd : p.toList.Nodup := h.nodup_iff.mpr aqd
 have li : i < p.toList.length := by rw [am5, hs]; exact hi
 have lj : j < p.toList.length := by rw [am5, hs]; exact hj
 rw [jq, jq, amS, amS, amP li, amP lj]
 intro e
 exact ne ((apx nd).mp e)
theorem Pm.range (n : Nat) : Pm n (anT (am8 n)) := List.Perm.refl _
theorem Pm.of {n : Nat} {p q : Array Nat} (h : Pm n p) (e : q.Perm p) : Pm n q := (Array.perm_iff_toList_perm.mp e).trans h
theorem ae3 {p q : Array Nat} {i j : Nat} (h : p[i]? = q[j]?) : p.getD i 0 = q.getD j 0 := by
 rw [aov, aov, h]
section
variable {cmp : Nat -> Nat -> (Bool -> Shared -> Prop) -> Shared -> Prop} {n : Nat} {lt : Nat -> Nat -> Bool} {s : Shared} {p : Array Nat}
theorem Up.more (T : Tot n lt) (hp : Pm n p) {m : Nat} (h1 : 1 <= m) (hm : m < n) (u : Up lt p m) (h : lt (p.getD (m - 1) 0) (p.getD m 0) = true) : Up lt p (m + 1) := fun i j hij hj => by
 by_cases e : j = m
 ·subst e
  by_cases e2 : i = j - 1
  ·subst e2; exact h
  ·exact T.tra _ _ _ (hp.lt (by omega)) (hp.lt (by omega)) (hp.lt hm) (u i (j - 1) (by omega) (by omega)) h
 ·exact u i j hij (by omega)
theorem Dn.more (T : Tot n lt) (hp : Pm n p) {m : Nat} (h1 : 1 <= m) (hm : m < n) (u : Dn lt p m) (h : lt (p.getD m 0) (p.getD (m - 1) 0) = true) : Dn lt p (m + 1) := fun i j hij hj => by
 by_cases e : j = m
 ·subst e
  by_cases e2 : i = j - 1
  ·subst e2; exact h
  ·exact T.tra _ _ _ (hp.lt hm) (hp.lt (by omega)) (hp.lt (by omega)) h (u i (j - 1) (by omega) (by omega))
 ·exact u i j hij (by omega)
theorem aae (T : Tot n lt) (W : Ans cmp n lt s) (hp : Pm n p) {Q : Nat -> Shared -> Prop} : ∀ f m, 1 <= m -> m + f <= n -> Up lt p m -> (∀ m', m <= m' -> m' <= m + f -> Up lt p m' -> (m' = m + f \/ lt (p.getD m' 0) (p.getD (m' - 1) 0) = true) -> Q m' s) -> (kas_asc p f m).kasWp cmp Q s
 | 0, m, h1, hf, u, q => q m (amV _) (amV _) u (.inl rfl)
 | f + 1, m, h1, hf, u, q => by
  refine W _ _ _ (hp.lt (by omega)) (hp.lt (by omega)) ?_
  cases e : lt (p.getD m 0) (p.getD (m - 1) 0) with
  | true => exact q m (amV _) (by omega) u (.inr e)
  | false =>
   have e2 : lt (p.getD (m - 1) 0) (p.getD m 0) = true := by
    rw [T.tri _ _ (hp.lt (by omega)) (hp.lt (by omega)) (hp.ne (by omega) (by omega) (by omega)), e]
    rfl
   exact aae T W hp f (m + 1) (by omega) (by omega) (u.more T hp h1 (by omega) e2) fun m' a b c d => q m' (by omega) (by omega) c (d.imp (fun z => by omega) id)
theorem ac7 (T : Tot n lt) (W : Ans cmp n lt s) (hp : Pm n p) {Q : Array Nat × Nat × Nat -> Shared -> Prop} : ∀ f m, 1 <= m -> m + f <= n -> Dn lt p m -> (∀ m', m <= m' -> m' <= m + f -> Dn lt p m' -> Q (p, m', 0) s) -> (kas_desc f p m 0).kasWp cmp Q s
 | 0, m, h1, hf, u, q => q m (amV _) (amV _) u
 | f + 1, m, h1, hf, u, q => by
  refine W _ _ _ (hp.lt (by omega)) (hp.lt (by omega)) ?_
  cases e : lt (p.getD m 0) (p.getD (m - 1) 0) with
  | true => exact ac7 T W hp f (m + 1) (by omega) (by omega) (u.more T hp h1 (by omega) e) fun m' a b c => q m' (by omega) (by omega) c
  | false =>
   have e2 : lt (p.getD (m - 1) 0) (p.getD m 0) = true := by
    rw [T.tri _ _ (hp.lt (by omega)) (hp.lt (by omega)) (hp.ne (by omega) (by omega) (by omega)), e]
    rfl
   refine W _ _ _ (hp.lt (by omega)) (hp.lt (by omega)) ?_
   rw [e2]
   exact q m (amV _) (by omega) u
theorem ali {m : Nat} (hm : m <= p.size) (d : Dn lt p m) : Up lt (kas_rev p 0 m) m := fun i j hij hj => by
 have g : ∀ k, k < m -> (kas_rev p 0 m).getD k 0 = p.getD (m - 1 - k) 0 := fun k hk => ae3 (by
  unfold kas_rev
  rw [getElem?_mirror_all hm, if_pos ⟨anA _, hk⟩, aqk])
 rw [g i (by omega), g j hj]
 exact d _ _ (by omega) (by omega)
theorem agh (T : Tot n lt) (W : Ans cmp n lt s) (hp : Pm n p) (hn : 1 <= n) {Q : Nat × Array Nat -> Shared -> Prop} (q : ∀ m p', 1 <= m -> m <= n -> Pm n p' -> Up lt p' m -> Q (m, p') s) : (kas_count n p).kasWp cmp Q s := by
 unfold kas_count
 rw [KasT.kasWp_bind]
 refine aae T W hp (n - 1) 1 (amV _) (by omega) (fun i j a b => by omega) fun m h1 h2 u c => ?_
 by_cases e : (m == n) = true
 ·rw [if_pos e]
  exact q m p h1 (by omega) hp u
 ·rw [if_neg e]
  have hm : m < n := by
   have : m ≠ n := fun z => e (by rw [z]; exact beq_self_eq_true _)
   omega
  by_cases e2 : m > 1
  ·rw [if_pos e2]
   refine W _ _ _ (hp.lt (by omega)) (hp.lt (by omega)) ?_
   rw [u 0 (m - 1) (by omega) (by omega)]
   exact q m p h1 (by omega) hp u
  ·rw [if_neg e2]
   obtain rfl : m = 1 := by omega
   have c' : lt (p.getD 1 0) (p.getD (1 - 1) 0) = true := c.resolve_left (by omega)
   unfold kas_descPart
   rw [KasT.kasWp_bind]
   refine ac7 T W hp (n - (1 + 1)) (1 + 1) (by omega) (by omega) (Dn.more T hp (amV 1) hm (fun i j a b => by omega) c') fun m' a b d => ?_
   rw [if_neg (by show ¬ (0 > 0); omega)]
   unfold kas_tail3
   rw [KasT.kasWp_bind]
   have hp2 : Pm n (kas_rev p 0 m') := hp.of (mirror_perm _ _ _ _)
   exact aae T W hp2 (n - m') m' (by omega) (by omega) (ali (by rw [hp.size]; omega) d) fun m2 a2 b2 u2 _ => q m2 _ (by omega) (by omega) hp2 u2
theorem vH (T : Tot n lt) (W : Ans cmp n lt s) (hp : Pm n p) {k : Nat} (hk : k < n) (u : Up lt p k) {Q : Nat -> Shared -> Prop} : ∀ f l r, r - l <= f -> l <= r -> r <= k -> (∀ i, i < l -> lt (p.getD i 0) (p.getD k 0) = true) -> (∀ i, r <= i -> i < k -> lt (p.getD k 0) (p.getD i 0) = true) ->
  (∀ m, m <= k -> (∀ i, i < m -> lt (p.getD i 0) (p.getD k 0) = true) -> (∀ i, m <= i -> i < k -> lt (p.getD k 0) (p.getD i 0) = true) -> Q m s) -> (kas_place p k f l r).kasWp cmp Q s
 | 0, l, r, hf, hlr, hr, lo, hi, q => by
  obtain rfl : l = r := by omega
  exact q l hr lo hi
 | f + 1, l, r, hf, hlr, hr, lo, hi, q => by
  unfold kas_place
  by_cases e : l >= r
  ·rw [if_pos e]
   obtain rfl : l = r := by omega
   exact q l hr lo hi
  ·rw [if_neg e]
   refine W _ _ _ (hp.lt hk) (hp.lt (by omega)) ?_
   have hm : (l + r) / 2 < k := by omega
   cases e2 : lt (p.getD k 0) (p.getD ((l + r) / 2) 0) with
   | true =>
    refine vH T W hp hk u f l ((l + r) / 2) (by omega) (by omega) (by omega) lo (fun i h1 h2 => ?_) q
    by_cases e3 : i = (l + r) / 2
    ·rw [e3]; exact e2
    ·exact T.tra _ _ _ (hp.lt hk) (hp.lt (by omega)) (hp.lt (by omega)) e2 (u _ _ (by omega) h2)
   | false =>
    have e4 : lt (p.getD ((l + r) / 2) 0) (p.getD k 0) = true := by
     rw [T.tri _ _ (hp.lt (by omega)) (hp.lt hk) (hp.ne (by omega) hk (by omega)), e2]
     rfl
    refine vH T W hp hk u f ((l + r) / 2 + 1) r (by omega) (by omega) hr (fun i h1 => ?_) hi q
    by_cases e3 : i = (l + r) / 2
    ·rw [e3]; exact e4
    ·exact T.tra _ _ _ (hp.lt (by omega)) (hp.lt (by omega)) (hp.lt hk) (u _ _ (by omega) hm) e4
theorem alj {k m : Nat} (hk : k < p.size) (hm : m <= k) (u : Up lt p k) (lo : ∀ i, i < m -> lt (p.getD i 0) (p.getD k 0) = true) (hi : ∀ i, m <= i -> i < k -> lt (p.getD k 0) (p.getD i 0) = true) : Up lt (bubble p k (k - m)) (k + 1) := fun i j hij hj => by
 have g : ∀ t, t <= k -> (bubble p k (k - m)).getD t 0 = p.getD (if t = m then k else if t < m then t else t - 1) 0 := fun t ht => ae3 (by
  rw [getElem?_bubble hk (k - m) (by omega), show k - (k - m) = m by omega]
  by_cases e1 : t = m
  ·rw [if_pos e1, if_pos e1]
  ·rw [if_neg e1, if_neg e1]
   by_cases e2 : t < m
   ·rw [if_neg (by omega), if_pos e2]
   ·rw [if_pos (by omega), if_neg e2])
 rw [g i (by omega), g j (by omega)]
 by_cases a1 : i = m
 ·rw [if_pos a1, if_neg (by omega), if_neg (by omega)]
  exact hi _ (by omega) (by omega)
 ·rw [if_neg a1]
  by_cases a2 : j = m
  ·rw [if_pos a2, if_pos (by omega)]
   exact lo _ (by omega)
  ·rw [if_neg a2]
   by_cases a3 : i < m
   ·rw [if_pos a3]
    by_cases a4 : j < m
    ·rw [if_pos a4]; exact u _ _ hij (by omega)
    ·rw [if_neg a4]; exact u _ _ (by omega) (by omega)
   ·rw [if_neg a3, if_neg (by omega)]
    exact u _ _ (by omega) (by omega)
theorem ae4 (T : Tot n lt) (W : Ans cmp n lt s) {Q : Array Nat -> Shared -> Prop} : ∀ f k (p : Array Nat), Pm n p -> k + f = n -> Up lt p k -> (∀ p', Pm n p' -> Up lt p' n -> Q p' s) -> (kas_bin f p k).kasWp cmp Q s
 | 0, k, p, hp, hf, u, q => by
  obtain rfl : k = n := by omega
  exact q p hp u
 | f + 1, k, p, hp, hf, u, q => by
  unfold kas_bin
  rw [KasT.kasWp_bind]
  refine vH T W hp (by omega) u k 0 k (by omega) (anA _) (amV _) (fun i hi => by omega) (fun i a b => by omega) fun m h1 lo hi => ?_
  exact ae4 T W f (k + 1) _ (hp.of (bubble_perm _ _ _)) (by omega) (alj (by rw [hp.size]; omega) h1 u lo hi) q
theorem ahs (T : Tot n lt) (W : Ans cmp n lt s) (hn : 1 <= n) {Q : Array Nat -> Shared -> Prop} (q : ∀ p, Pm n p -> Up lt p n -> Q p s) : (kas_sort n).kasWp cmp Q s := by
 unfold kas_sort
 rw [KasT.kasWp_bind]
 refine agh T W (Pm.range n) hn fun m p h1 h2 hp u => ?_
 by_cases e : m < n
 ·show (if m < n then _ else _ : KasT (Array Nat)).kasWp cmp Q s
  rw [if_pos e, show max m 1 = m by omega]
  exact ae4 T W (n - m) m p hp (by omega) u q
 ·show (if m < n then _ else _ : KasT (Array Nat)).kasWp cmp Q s
  rw [if_neg e]
  obtain rfl : m = n := by omega
  exact q p hp u
end
end L2
end
section
namespace L2
open PySem PySem.W PySem.Calls PyProof.Rows
theorem aby : ∀ f n r, r <= 1 -> minRun' f n r <= n + 1
 | 0, n, r, h => by show n + r <= n + 1; omega
 | f + 1, n, r, h => by
  rw [minRun'_succ]
  by_cases e : n < 64
  ·rw [if_pos e]; omega
  ·rw [if_neg e]
   have := aby f (n / 2) (max r (n % 2)) (by omega)
   omega
theorem ad8 {n : Nat} (h : 1 <= n) : minRun' n n 0 <= n := by
 obtain ⟨f, rfl⟩ : ∃ f, n = f + 1 := ⟨n - 1, by omega⟩
 rw [minRun'_succ]
 by_cases e : f + 1 < 64
 ·rw [if_pos e]; omega
 ·rw [if_neg e]
  have := aby f ((f + 1) / 2) (max 0 ((f + 1) % 2)) (by omega)
  omega
section
variable {P : Program} {w : World} {A : Around} {X : Value -> Shared -> Prop} {s : Shared} {κ : SortKind} {it : Array Keyed} {n : Nat} {lt : Nat -> Nat -> Bool} {Q : SortSt -> Shared -> Prop}
theorem ajf (W : Ans (kas_cmp P w A κ it) n lt s) (T : Tot n lt) (h2 : 2 <= n) (up : ∀ i, i + 1 < n -> lt (i + 1) i = false)
  (q : ∀ st', arrOf st' = (anT (am8 n)).map (kas_item it) -> failedOf st' = none -> Q st' s) : kasC (model P w) A X sortRuns' (fun _ st' s' => Q st' s') (kas_st κ it (anT (am8 n))) s := by
 obtain ⟨r, rfl⟩ : ∃ r, n = r + 2 := ⟨n - 2, by omega⟩
 have sz : (anT (am8 (r + 2))).size = r + 2 := by simp
 have szA : (arrOf (kas_st κ it (anT (am8 (r + 2))))).size = r + 2 := by
  show (Array.map _ _).size = _
  rw [aqC, sz]
 have mr := ad8 (n := r + 2) (by omega)
 have at_ : ∀ i, i < r + 2 -> (anT (am8 (r + 2))).getD i 0 = i := fun i hi => by simp [aoM, hi]
 have cnt : (kas_count (r + 2) (anT (am8 (r + 2)))).kasWp (kas_cmp P w A κ it) (fun z s' => z = (r + 2, anT (am8 (r + 2))) /\ s' = s) s := by
  unfold kas_count
  rw [KasT.kasWp_bind]
  refine aae T W (Pm.range _) (r + 2 - 1) 1 (amV _) (by omega) (fun i j a b => by omega) fun m a b u c => ?_
  have e : m = r + 2 := by
   rcases c with c | c
   ·omega
   ·by_cases hm : m < r + 2
    ·rw [at_ m hm, at_ (m - 1) (by omega)] at c
     have := up (m - 1) (by omega)
     rw [show m - 1 + 1 = m by omega, c] at this
     cases this
    ·omega
  subst e
  rw [if_pos (beq_self_eq_true _)]
  exact ⟨rfl, rfl⟩
 rw [sortRuns'_eq]
 apply kasC_bind; apply kasC_get
 simp only [szA]
 apply kasC_bind; apply kasC_range
 change kasC _ _ _ (forIn (0 :: 1 :: List.range' 2 r) _ _) _ _ _
 apply kasC_cons
 simp only [Nat.sub_zero, aqk, show ¬ (0 >= r + 2) by omega, if_false]
 refine kasC_bind (kas_count_ (by omega) (aoX sz.symm) (fun m p' s' _ _ _ z => ?_) cnt)
 obtain ⟨z, rfl⟩ := z
 cases z
 simp only [show ¬ (r + 2 < minRun' (r + 2) (r + 2) 0) by omega, if_false]
 apply kasC_bind; apply kasC_get
 change kasC _ _ _ (modify (fun st => setPending st ((pendingOf st).push (0, r + 2, 0))) >>= _) _ _ _
 apply kasC_bind; apply kasC_modify; apply kasC_pure
 apply kasC_cons
 simp only [show r + 2 >= r + 2 from amV _, if_true]
 apply kasC_pure
 apply kasC_bind; apply kasC_range
 change kasC _ _ _ (forIn (0 :: 1 :: List.range' 2 r) _ _) _ _ _
 apply kasC_cons
 apply kasC_bind; apply kasC_get
 rw [if_pos (show (pendingOf (setPending (kas_st κ it (anT (am8 (r + 2)))) ((pendingOf (kas_st κ it (anT (am8 (r + 2))))).push (0, r + 2, 0)))).size <= 1 from amV 1)]
 apply kasC_pure
 exact kasC_pure (q _ rfl rfl)
theorem aht (W : Ans (kas_cmp P w A κ it) n lt s) (T : Tot n lt) (h2 : 2 <= n) (hs : n < 64 \/ ∀ i, i + 1 < n -> lt (i + 1) i = false)
  (q : ∀ st' p, Pm n p -> Up lt p n -> arrOf st' = p.map (kas_item it) -> failedOf st' = none -> Q st' s) : kasC (model P w) A X sortRuns' (fun _ st' s' => Q st' s') (kas_st κ it (anT (am8 n))) s := by
 rcases hs with hs | hs
 ·exact kas_runs h2 hs (G := fun p s' => s' = s /\ Pm n p /\ Up lt p n) (fun p st' s' _ e f ⟨z, a, b⟩ => by subst z; exact q st' p a b e f) (ahs T W (by omega) fun p a b => ⟨rfl, a, b⟩)
 ·refine ajf W T h2 hs fun st' e f => q st' _ (Pm.range n) (fun i j hij hj => ?_) e f
  have at_ : ∀ i, i < n -> (anT (am8 n)).getD i 0 = i := fun i hi => by simp [aoM, hi]
  rw [at_ i (by omega), at_ j hj]
  have key : ∀ d, i + d + 1 < n -> lt i (i + d + 1) = true := fun d => by
   induction d with
   | zero => intro hd; rw [T.tri _ _ (by omega) hd (by omega), hs i hd]; rfl
   | succ d ih =>
    intro hd
    refine T.tra _ (i + d + 1) _ (by omega) (by omega) hd (ih (by omega)) ?_
    rw [T.tri _ _ (by omega) hd (by omega), show i + (d + 1) + 1 = i + d + 1 + 1 by omega, hs (i + d + 1) (by omega)]
    rfl
  have := key (j - i - 1) (by omega)
  rwa [show i + (j - i - 1) + 1 = j by omega] at this
end
section
variable {P : Program} {w : World} {A : Around} {X : Value -> Shared -> Prop} {s : Shared} {κ : SortKind} {vs : List Value} {lt : Nat -> Nat -> Bool}
structure Asks (P : Program) (w : World) (A : Around) (s : Shared) (κ : SortKind) (vs : List Value) (lt : Nat -> Nat -> Bool) : Prop where
 kind : 2 <= vs.length -> ∀ (h' : Heap), (∀ b o, s.heap.get? b = some o -> h'.get? b = some o) -> ∀ R : SortKind -> Shared -> Prop, R κ { s with heap := h' } -> wpAny (model P w) A (keyKind' vs.toArray) R (fun _ _ => False) { s with heap := h' }
 less : ∀ (h' : Heap), (∀ b o, s.heap.get? b = some o -> h'.get? b = some o) -> Ans (kas_ask P w A κ vs) vs.length lt { s with heap := h' }
 ord : Tot vs.length lt
 few : vs.length < 64 \/ ∀ i, i + 1 < vs.length -> lt (i + 1) i = false
theorem ajg {a : Addr} {e : Nat} {R : PySem.Fin -> Shared -> Prop} (hz : vs.length <= sizeLine) (ha : s.heap.get? a = some (seqObj "list" vs.toArray e)) {h0 : Heap} (h0s : ∀ b o, h0.get? b = some o -> b ≠ a /\ s.heap.get? b = some o) (K : Asks P w A { s with heap := h0 } κ vs lt)
  (q : ∀ (h' : Heap) p c, Pm vs.length p -> Up lt p vs.length -> (∀ b o, b ≠ a -> s.heap.get? b = some o -> h'.get? b = some o) -> h'.get? a = some (seqObj "list" (p.toList.map fun i => vs.getD i Value.none).toArray c) -> R (.done (.ret .none)) { s with heap := h' }) :
  wpAny (model P w) A (Builtin.«list.sort» ⟨[.ref a], []⟩) R X s := by
 let h1 := s.heap.update a (aoU fun _ => (#[] : Array Value))
 obtain ⟨e1, a1⟩ : ∃ e1, h1.get? a = some (seqObj "list" #[] e1) := ⟨_, get?_update_seq ha fun _ => #[]⟩
 let h2' := (h1.push (seqObj "tuple" vs.toArray 0)).push (seqObj "list" #[] 0)
 have a2 : h2'.get? a = some (seqObj "list" #[] e1) := amW _ (amW _ a1)
 have k2 : ∀ b o, b ≠ a -> s.heap.get? b = some o -> h2'.get? b = some o := fun b o nb eb => amW _ (amW _ ((anz _ _ (anU nb)).trans eb))
 have kz : ∀ b o, h0.get? b = some o -> h2'.get? b = some o := fun b o eb => k2 b o (h0s b o eb).1 (h0s b o eb).2
 rw [list_sort_plain]
 apply wpAny_bind; apply listItems_at ha rfl
 apply wpAny_bind; refine listUpdate_at ha rfl ?_ (by simpa using hz) (anA _)
 apply wpAny_bind; apply seqEpoch_at a1 rfl
 apply wpAny_bind; refine wpAny_newTuple ?_ (by simpa using hz)
 apply wpAny_bind; refine wpAny_newList ?_ (anA _)
 apply wpAny_holding
 dsimp only
 change wpAny _ A _ _ _ { s with heap := h2' }
 have st0 : SortSt.mk' κ (vs.toArray.zip vs.toArray) #[] 7 none = kas_st κ (pairsOf vs) (anT (am8 vs.length)) := by
  have z := kas_range (pairsOf vs)
  rw [pairsOf_size] at z
  unfold kas_st
  rw [z]
  rfl
 have fin : ∀ (st' : SortSt) (p : Array Nat), Pm vs.length p -> Up lt p vs.length -> arrOf st' = p.map (kas_item (pairsOf vs)) -> failedOf st' = none -> wpAny (model P w) A (do
   let sorted := (arrOf st').map (·.2)
   let touched := (<- seqEpoch a) != e1
   Builtin.List.listUpdate (.ref a) fun _ => sorted
   if let some e := failedOf st' then rule "list.sort.comparison-raised"; throw e
   if touched then rule "list.sort.modified"; raiseError "ValueError" "list modified during sort"
   ret .none) R X { s with heap := h2' } := fun st' p x1 x2 x3 x4 => by
  have out : (arrOf st').map (·.2) = (p.toList.map fun i => vs.getD i Value.none).toArray := by
   apply Array.toList_inj.mp
   rw [x3, Array.map_map, Array.toList_map]
   refine ao3 fun i _ => ?_
   show (kas_item (pairsOf vs) i).2 = _
   rw [kas_item_eq]
  dsimp only
  rw [out, x4]
  obtain ⟨c, a3⟩ : ∃ c, (h2'.update a (aoU fun _ => (p.toList.map fun i => vs.getD i Value.none).toArray)).get? a = some (seqObj "list" (p.toList.map fun i => vs.getD i Value.none).toArray c) := ⟨_, get?_update_seq a2 fun _ => (p.toList.map fun i => vs.getD i Value.none).toArray⟩
  apply wpAny_bind; apply seqEpoch_at a2 rfl
  apply wpAny_bind
  refine listUpdate_at a2 rfl ?_ (anA _) (by
   rw [am4, amT, am5, x1.size]; omega)
  simp only [bne_self_eq_false, anw, if_false]
  exact wpAny_pure (q _ p c x1 x2 (fun b o nb eb => (anz _ _ (anU nb)).trans (k2 b o nb eb)) a3)
 by_cases h2 : vs.length < 2
 ·have two : vs.toArray.size < 2 := by rw [am4]; exact h2
  rw [if_pos two, if_pos two]
  apply wpAny_bind; apply wpAny_pure
  apply wpAny_bind
  rw [StateT.run_pure]
  apply wpAny_pure
  have z := kas_range (pairsOf vs)
  rw [pairsOf_size] at z
  exact fin _ (anT (am8 vs.length)) (Pm.range _) (fun i j x y => by omega) z.symm rfl
 have two : ¬ vs.toArray.size < 2 := by rw [am4]; exact h2
 rw [if_neg two, if_neg two]
 apply wpAny_bind
 refine wpAny_mono (K.kind (by omega) h2' kz (fun κ' s' => κ' = κ /\ s' = { s with heap := h2' }) ⟨rfl, rfl⟩) ?_ fun _ _ z => z.elim
 rintro κ' s' ⟨eκ, es⟩
 rw [eκ, es]
 have W := K.less h2' kz
 rw [kas_ask_eq] at W
 rw [st0]
 apply wpAny_bind
 refine wpAny_mono (aht (Q := fun st' s' => s' = { s with heap := h2' } /\ ∃ p, Pm vs.length p /\ Up lt p vs.length /\ arrOf st' = p.map (kas_item (pairsOf vs)) /\ failedOf st' = none) W K.ord (by omega) K.few fun st' p x1 x2 x3 x4 => ⟨rfl, p, x1, x2, x3, x4⟩) ?_ fun _ _ z => z
 rintro ⟨⟨⟩, st'⟩ s' ⟨rfl, p, x1, x2, x3, x4⟩
 exact fin st' p x1 x2 x3 x4
theorem ac8 {l : Addr} {Q : Value -> Shared -> Prop} (hz : vs.length <= sizeLine) (hl : s.heap.IsList l vs.toArray) (K : Asks P w A.in1.in1 s κ vs lt)
  (q : ∀ (h' : Heap) D p c, Pm vs.length p -> Up lt p vs.length -> s.heap.objs.size <= D -> (∀ b o, s.heap.get? b = some o -> h'.get? b = some o) -> h'.get? D = some (seqObj "list" (p.toList.map fun i => vs.getD i Value.none).toArray c) -> Q (.ref D) { s with heap := h' }) :
  wpAny (model P w) A (call (.builtin "sorted") [.ref l]) Q X s := by
 let h1 := (s.heap.push (seqObj "list" #[] 0)).update s.heap.objs.size (aoU (· ++ vs.toArray))
 have s1 : h1.objs.size = s.heap.objs.size + 1 := by rw [Heap.size_update, size_push']
 let h2' := h1.push (seqObj "list" vs.toArray 0)
 have at2 : h2'.get? (s.heap.objs.size + 1) = some (seqObj "list" vs.toArray 0) := by rw [<- s1]; exact anr _ rfl
 have keep : ∀ b o, s.heap.get? b = some o -> b ≠ s.heap.objs.size + 1 /\ h2'.get? b = some o := fun b o eb => by
  have lb := amZ eb
  refine ⟨fun z => ?_, amW _ ((anz _ _ fun z => ?_).trans (amW _ eb))⟩
  ·rw [z] at lb; exact aoi _ (aq0 lb (aqc _))
  ·rw [<- z] at lb; exact aoi _ lb
 refine Calls.call_function_entry kind_sorted plain_sorted entry_sorted (args_sorted1 _) ?_
 unfold Builtin.«sorted»
 apply wpAny_bind (m := checkCount "sorted" 1 1 _); apply wpAny_pure
 apply wpAny_bind; refine collect_list hl ?_ hz
 apply wpAny_bind; refine wpAny_newList ?_ hz
 change wpAny _ _ _ _ _ { s with heap := h2' }
 rw [show Value.ref ((s.heap.push (seqObj "list" #[] 0)).update s.heap.objs.size (aoU (· ++ vs.toArray))).objs.size = Value.ref (s.heap.objs.size + 1) from congrArg Value.ref s1]
 apply wpAny_bind; apply wpAny_holding
 refine wpAny_call_entry slot_list_sort ⟨_, at2, rfl⟩ entry_list_sort ?_ (args_list_sort _)
 refine ajg (s := { s with heap := h2' }) hz at2 (h0 := s.heap) keep K fun h' p c x1 x2 x3 x4 => ⟨_, rfl, wpAny_pure ⟨_, rfl, ?_⟩⟩
 exact q h' _ p c x1 x2 (aqz _) (fun b o eb => x3 b o (keep b o eb).1 (keep b o eb).2) x4
end
mutual
def zw : PyData -> Bool
 | .int _ => true
 | .str s => (PyData.str s).canLay0
 | .tuple xs => zC xs
 | _ => false
def zC : List PyData -> Bool
 | [] => true
 | x :: xs => zw x && zC xs
end
mutual
def ltD : PyData -> PyData -> Bool
 | .int a, .int b => decide (a < b)
 | .str a, .str b => decide (a.cps.toList < b.cps.toList)
 | .tuple xs, .tuple ys => ltL xs ys
 | .int _, .str _ => true
 | .int _, .tuple _ => true
 | .str _, .tuple _ => true
 | _, _ => false
def ltL : List PyData -> List PyData -> Bool
 | [], [] => false
 | [], _ :: _ => true
 | _ :: _, [] => false
 | x :: xs, y :: ys => if anl x y = true then ltL xs ys else ltD x y
end
mutual
def aaa : PyData -> PyData -> Bool
 | .int _, .int _ => true
 | .str _, .str _ => true
 | .tuple xs, .tuple ys => vh xs ys
 | _, _ => false
def vh : List PyData -> List PyData -> Bool
 | [], _ => true
 | _ :: _, [] => true
 | x :: xs, y :: ys => if anl x y = true then vh xs ys else aaa x y
end
mutual
theorem yy : ∀ d : PyData, zw d = true -> d.canLay0 = true
 | .int _, _ => rfl
 | .str _, h => h
 | .tuple xs, h => by rw [PyData.canLay0]; exact aaK xs (by rw [zw] at h; exact h)
 | .none, h => by cases h
 | .bool _, h => by cases h
 | .list _, h => by cases h
 | .dict _, h => by cases h
theorem aaK : ∀ xs : List PyData, zC xs = true -> aoF xs = true
 | [], _ => rfl
 | x :: xs, h => by
  rw [zC, amX] at h
  rw [aoF, yy x h.1, aaK xs h.2]
  rfl
end
mutual
theorem ahu : ∀ a b : PyData, zw a = true -> zw b = true -> anl a b = true -> a = b
 | .int a, .int b, _, _, h => by simpa [anl] using h
 | .str a, .str b, _, _, h => by simpa [anl] using h
 | .tuple xs, .tuple ys, h1, h2, h => by rw [ae5 xs ys (by rw [zw] at h1; exact h1) (by rw [zw] at h2; exact h2) (by rw [anl] at h; exact h)]
 | .int _, .str _, _, _, h => by simp [anl] at h
 | .int _, .tuple _, _, _, h => by simp [anl] at h
 | .str _, .int _, _, _, h => by simp [anl] at h
 | .str _, .tuple _, _, _, h => by simp [anl] at h
 | .tuple _, .int _, _, _, h => by simp [anl] at h
 | .tuple _, .str _, _, _, h => by simp [anl] at h
 | .none, _, h, _, _ => by cases h
 | .bool _, _, h, _, _ => by cases h
 | .list _, _, h, _, _ => by cases h
 | .dict _, _, h, _, _ => by cases h
 | .int _, .none, _, h, _ => by cases h
 | .int _, .bool _, _, h, _ => by cases h
 | .int _, .list _, _, h, _ => by cases h
 | .int _, .dict _, _, h, _ => by cases h
 | .str _, .none, _, h, _ => by cases h
 | .str _, .bool _, _, h, _ => by cases h
 | .str _, .list _, _, h, _ => by cases h
 | .str _, .dict _, _, h, _ => by cases h
 | .tuple _, .none, _, h, _ => by cases h
 | .tuple _, .bool _, _, h, _ => by cases h
 | .tuple _, .list _, _, h, _ => by cases h
 | .tuple _, .dict _, _, h, _ => by cases h
theorem ae5 : ∀ xs ys : List PyData, zC xs = true -> zC ys = true -> ap3 xs ys = true -> xs = ys
 | [], [], _, _, _ => rfl
 | [], _ :: _, _, _, h => by simp [ap3] at h
 | _ :: _, [], _, _, h => by simp [ap3] at h
 | x :: xs, y :: ys, h1, h2, h => by
  rw [zC, amX] at h1 h2
  rw [ap3, amX] at h
  rw [ahu x y h1.1 h2.1 h.1, ae5 xs ys h1.2 h2.2 h.2]
end
theorem aaf {a b : PyData} (ha : zw a = true) (hb : zw b = true) : anl a b = true ↔ a = b :=
 ⟨ahu a b ha hb, fun h => by subst h; exact aqD a (yy a ha)⟩
theorem jJ {x y : PyData} {xs ys : List PyData} (hx : zw x = true) (hy : zw y = true) [Decidable (x = y)] : ltL (x :: xs) (y :: ys) = if x = y then ltL xs ys else ltD x y := by
 rw [ltL]
 by_cases h : x = y
 ·rw [if_pos ((aaf hx hy).mpr h), if_pos h]
 ·rw [if_neg (fun z => h ((aaf hx hy).mp z)), if_neg h]
theorem ahv {a b : List Nat} (h : a ≠ b) : decide (a < b) = !decide (b < a) := by
 by_cases h1 : a < b
 ·rw [decide_eq_true h1, decide_eq_false (fun z => List.lt_irrefl a (List.lt_trans h1 z))]
  rfl
 ·have h2 : b < a := by
   have : b <= a := List.not_lt.mp h1
   rcases List.le_iff_lt_or_eq.mp this with z | z
   ·exact z
   ·exact absurd z.symm h
  rw [decide_eq_false h1, decide_eq_true h2]
  rfl
theorem alk {a b : Str} (h : a ≠ b) : a.cps.toList ≠ b.cps.toList := fun z => h (by
 cases a; cases b
 simp only [Str.mk.injEq] at *
 exact Array.toList_inj.mp z)
mutual
theorem ad9 : ∀ a b : PyData, zw a = true -> zw b = true -> a ≠ b -> ltD a b = !ltD b a
 | .int a, b, ha, hb, ne => by
  cases b with
  | int b =>
   rw [ltD, ltD]
   have : a ≠ b := fun z => ne (by rw [z])
   by_cases h : a < b
   ·rw [decide_eq_true h, decide_eq_false (by omega)]; rfl
   ·rw [decide_eq_false h, decide_eq_true (by omega)]; rfl
  | str b => simp [ltD]
  | tuple ys => simp [ltD]
  | none => cases hb
  | bool _ => cases hb
  | list _ => cases hb
  | dict _ => cases hb
 | .str a, b, ha, hb, ne => by
  cases b with
  | int b => simp [ltD]
  | str b =>
   rw [ltD, ltD]
   exact ahv (alk fun z => ne (by rw [z]))
  | tuple ys => simp [ltD]
  | none => cases hb
  | bool _ => cases hb
  | list _ => cases hb
  | dict _ => cases hb
 | .tuple xs, b, ha, hb, ne => by
  cases b with
  | int b => simp [ltD]
  | str b => simp [ltD]
  | tuple ys =>
   rw [ltD, ltD]
   rw [zw] at ha hb
   exact ae6 xs ys ha hb fun z => ne (by rw [z])
  | none => cases hb
  | bool _ => cases hb
  | list _ => cases hb
  | dict _ => cases hb
 | .none, _, h, _, _ => by cases h
 | .bool _, _, h, _, _ => by cases h
 | .list _, _, h, _, _ => by cases h
 | .dict _, _, h, _, _ => by cases h
theorem ae6 : ∀ xs ys : List PyData, zC xs = true -> zC ys = true -> xs ≠ ys -> ltL xs ys = !ltL ys xs
 | [], [], _, _, ne => absurd rfl ne
 | [], _ :: _, _, _, _ => by simp [ltL]
 | _ :: _, [], _, _, _ => by simp [ltL]
 | x :: xs, y :: ys, h1, h2, ne => by
  rw [zC, amX] at h1 h2
  have := anP (x = y)
  have := anP (y = x)
  rw [jJ h1.1 h2.1, jJ h2.1 h1.1]
  by_cases e : x = y
  ·rw [if_pos e, if_pos e.symm]
   exact ae6 xs ys h1.2 h2.2 fun z => ne (by rw [e, z])
  ·rw [if_neg e, if_neg (anU e)]
   exact ad9 x y h1.1 h2.1 e
end
mutual
theorem alm : ∀ a : PyData, zw a = true -> ltD a a = false
 | .int a, _ => by rw [ltD]; exact decide_eq_false (Int.lt_irrefl a)
 | .str a, _ => by rw [ltD]; exact decide_eq_false (List.lt_irrefl _)
 | .tuple xs, h => by rw [ltD]; rw [zw] at h; exact ae7 xs h
 | .none, h => by cases h
 | .bool _, h => by cases h
 | .list _, h => by cases h
 | .dict _, h => by cases h
theorem ae7 : ∀ xs : List PyData, zC xs = true -> ltL xs xs = false
 | [], _ => by rw [ltL]
 | x :: xs, h => by
  rw [zC, amX] at h
  have := anP (x = x)
  rw [jJ h.1 h.1, if_pos rfl]
  exact ae7 xs h.2
end
theorem lt_asymm {a b : PyData} (ha : zw a = true) (hb : zw b = true) (h : ltD a b = true) : a ≠ b := fun z => by
 subst z
 rw [alm a ha] at h
 cases h
mutual
theorem ahw : ∀ a b c : PyData, zw a = true -> zw b = true -> zw c = true -> ltD a b = true -> ltD b c = true -> ltD a c = true
 | .int a, b, c, ha, hb, hc, h1, h2 => by
  cases b <;> first | (cases hb; done) | skip
  all_goals cases c <;> first | (cases hc; done) | skip
  all_goals first | (simp [ltD] at h1 h2 ⊢; omega) | (simp [ltD] at h1 h2 ⊢; done) | (simp [ltD] at h1; done) | (simp [ltD] at h2; done)
 | .str a, b, c, ha, hb, hc, h1, h2 => by
  cases b <;> first | (cases hb; done) | skip
  all_goals cases c <;> first | (cases hc; done) | skip
  all_goals first | (simp [ltD] at h1; done) | (simp [ltD] at h2; done) | (rw [ltD] at h1 h2 ⊢; exact decide_eq_true (List.lt_trans (of_decide_eq_true h1) (of_decide_eq_true h2))) | (simp [ltD] at h1 h2 ⊢; done)
 | .tuple xs, b, c, ha, hb, hc, h1, h2 => by
  cases b with
  | tuple ys =>
   cases c with
   | tuple zs =>
    rw [ltD] at h1 h2 ⊢
    rw [zw] at ha hb hc
    exact ae8 xs ys zs ha hb hc h1 h2
   | int _ => simp [ltD] at h2
   | str _ => simp [ltD] at h2
   | none => cases hc
   | bool _ => cases hc
   | list _ => cases hc
   | dict _ => cases hc
  | int _ => simp [ltD] at h1
  | str _ => simp [ltD] at h1
  | none => cases hb
  | bool _ => cases hb
  | list _ => cases hb
  | dict _ => cases hb
 | .none, _, _, h, _, _, _, _ => by cases h
 | .bool _, _, _, h, _, _, _, _ => by cases h
 | .list _, _, _, h, _, _, _, _ => by cases h
 | .dict _, _, _, h, _, _, _, _ => by cases h
theorem ae8 : ∀ xs ys zs : List PyData, zC xs = true -> zC ys = true -> zC zs = true -> ltL xs ys = true -> ltL ys zs = true -> ltL xs zs = true
 | [], ys, [], _, _, _, h1, h2 => by
  cases ys with
  | nil => exact h1
  | cons y ys => simp [ltL] at h2
 | [], _, _ :: _, _, _, _, _, _ => by rw [ltL]
 | _ :: _, [], _, _, _, _, h1, _ => by simp [ltL] at h1
 | _ :: _, _ :: _, [], _, _, _, _, h2 => by simp [ltL] at h2
 | x :: xs, y :: ys, z :: zs, p1, p2, p3, h1, h2 => by
  rw [zC, amX] at p1 p2 p3
  have := anP (x = y)
  have := anP (y = z)
  have := anP (x = z)
  rw [jJ p1.1 p2.1] at h1
  rw [jJ p2.1 p3.1] at h2
  rw [jJ p1.1 p3.1]
  by_cases e1 : x = y
  ·rw [if_pos e1] at h1
   by_cases e2 : y = z
   ·rw [if_pos e2] at h2
    rw [if_pos (e1.trans e2)]
    exact ae8 xs ys zs p1.2 p2.2 p3.2 h1 h2
   ·rw [if_neg e2] at h2
    rw [if_neg (fun q => e2 (e1.symm.trans q)), e1]
    exact h2
  ·rw [if_neg e1] at h1
   by_cases e2 : y = z
   ·rw [if_neg (fun q => e1 (q.trans e2.symm)), <- e2]
    exact h1
   ·rw [if_neg e2] at h2
    have h3 := ahw x y z p1.1 p2.1 p3.1 h1 h2
    rw [if_neg (lt_asymm p1.1 p3.1 h3)]
    exact h3
end
end L2
end
section
namespace L2
open PySem PySem.Spec PyProof.Rows PySem.SeqAt
open PySem.AutoSeq1 (wpAny_loadPart')
open PySem.MeetsSeq PySem.MeetsSeq2 PySem.MeetsSeq3
def amm (A : Around) (s : Shared) (y x : Value) (b : Bool) : Prop :=
 ∀ (prog : Program) (w : World) (E : Value -> Shared -> Prop) (Q : Value -> Shared -> Prop), Q (.bool b) s -> wpAny (model prog w) A (richCompare .Lt y x) Q E s
inductive Lex (A : Around) (s : Shared) : List Value -> List Value -> Bool -> Prop where
 | nn : Lex A s [] [] false
 | nc {w ws} : Lex A s [] (w :: ws) true
 | cn {v vs} : Lex A s (v :: vs) [] false
 | eq {v w vs ws b} : EqAt A s v w true -> Lex A s vs ws b -> Lex A s (v :: vs) (w :: ws) b
 | lt {v w vs ws b} : EqAt A s v w false -> amm A s v w b -> Lex A s (v :: vs) (w :: ws) b
theorem ab8 (l m : Addr) (xs ys : Array Value) (n n2 : Nat) (dd dd2 : Option Addr) (sl sl2 : Array (Option Value)) (c : Bool) :
  Meets (Builtin.«tuple.__lt__» ⟨[.ref l, .ref m], []⟩)
   (fun A R s => s.heap.get? l = some { cls := .type "tuple", dict := dd, data := .seq xs n, slots := sl } /\ s.heap.get? m = some { cls := .type "tuple", dict := dd2, data := .seq ys n2, slots := sl2 } /\
    Lex A.in1 s xs.toList ys.toList c /\ R (.ok (.ret (.bool c))) s) :=
 .of_wp fun prog w A R s h => by
  obtain ⟨hp, g, d, tk, os⟩ := s; obtain ⟨hl, hb, hx, h⟩ := h
  have f2 := AutoSeq1.sub_tuple_tuple
  wp_walk using wpAny_loadPart' hl, wpAny_loadPart' hb, wpAny_forIn_list _ (fun rest b s' => b.1 = none /\ s' = ⟨hp, g, d, tk, os⟩ /\ ∃ (vs ws : List Value), rest = vs.zip ws /\ Lex A.in1 ⟨hp, g, d, tk, os⟩ vs ws c /\ vs.length + ys.size = ws.length + xs.size) _
  case turn =>
   rintro ⟨y, x⟩ rest b s' ⟨hb', rfl, vs, ws, hz, lx, hn⟩
   cases lx with
   | nn => cases hz
   | nc => cases hz
   | cn => cases hz
   | eq he lx' =>
    rw [aoN] at hz
    cases hz
    refine wpAny_bind (he prog w _ _ ?_)
    wp_walk
    exact ⟨rfl, rfl, _, _, rfl, lx', by simp only [anb] at hn; omega⟩
   | lt he hlt =>
    rw [aoN] at hz
    cases hz
    refine wpAny_bind (he prog w _ _ ?_)
    have hri := hlt prog w
    wp_walk using hri
    exact ⟨_, rfl, h⟩
  case fin =>
   rintro ⟨b1, b2⟩ s' ⟨hb', rfl, vs, ws, hz, lx, hn⟩
   simp only at hb'
   subst hb'
   have hv : decide (xs.size < ys.size) = c := by
    cases lx with
    | nn => simp only [aoE] at hn; exact decide_eq_false (by omega)
    | nc => simp only [aoE, anb] at hn; exact decide_eq_true (by omega)
    | cn => simp only [aoE, anb] at hn; exact decide_eq_false (by omega)
    | eq _ _ => cases hz
    | lt _ _ => cases hz
   wp_walk
   rw [<- hv] at h
   exact ⟨_, rfl, by simpa [Builtin.Tuple.tupleCompareSizes] using h⟩
  case h => exact ⟨rfl, rfl, _, _, rfl, hx, by simp only [am5]; omega⟩
mutual
theorem ac9 : ∀ (da db : PyData) (A : Around) (s : Shared) (a b : Value) (as bs : List Addr), Reads s.heap a da as -> Reads s.heap b db bs -> zw da = true -> zw db = true -> aaa da db = true ->
  A.units + max da.depth db.depth < cLine -> amm A s a b (ltD da db)
 | .int x, db, A, s, _, _, _, _, ra, rb, _, _, hc, hu => by
  cases ra with
  | int _ t =>
   cases db with
   | int y =>
    cases rb with
    | int _ u =>
     intro prog w E Q q
     exact HT.rcLt_int A s x t y u prog w E Q (by rw [ltD] at q; exact q)
   | _ => cases hc
 | .str x, db, A, s, _, _, _, _, ra, rb, _, _, hc, hu => by
  cases ra with
  | str _ t =>
   cases db with
   | str y =>
    cases rb with
    | str _ u =>
     intro prog w E Q q
     exact (PyProof.Rows.lt_str (by rw [ltD] at q; exact q) : wpAny (model prog w) A (compareOp .Lt (.str x t) (.str y u)) Q E s)
   | _ => cases hc
 | .tuple xs, db, A, s, _, _, _, _, ra, rb, pa, pb, hc, hu => by
  cases ra with
  | @tuple l o vs n _ as h1 h2 h3 h4 =>
   cases db with
   | tuple ys =>
    cases rb with
    | @tuple m o2 ws n2 _ bs k1 k2 k3 k4 =>
     intro prog w E Q q
     obtain ⟨cls, dd, data, sl⟩ := o
     obtain ⟨cls2, dd2, data2, sl2⟩ := o2
     simp only at h2 h3 k2 k3
     subst h2 h3 k2 k3
     rw [zw] at pa pb
     rw [aaa] at hc
     rw [ltD] at q
     have hd : A.in1.units + max (am0 xs) (am0 ys) < cLine := by
      have e1 : (PyData.tuple xs).depth = am0 xs + 1 := rfl
      have e2 : (PyData.tuple ys).depth = am0 ys + 1 := rfl
      have e3 : A.in1.units = A.units + 1 := rfl
      rw [e1, e2] at hu
      omega
     have lx := abz xs ys A.in1 s _ _ _ _ h4 k4 pa pb hc hd
     exact richCompare_meets_room (op := .Lt) ⟨_, h1, rfl⟩ ⟨_, k1, rfl⟩ PySem.F.slot_tuple_lt PySem.F.entry_tuple_lt (PySem.F.args_tuple_lt_2 _ _) (ab8 l m vs ws n n2 dd dd2 sl sl2 (ltL xs ys))
      ⟨h1, k1, lx, show Value.bool (ltL xs ys) ≠ Value.notImplemented /\ Q (.bool (ltL xs ys)) s from ⟨(fun x => nomatch x), q⟩⟩ (by omega)
   | _ => cases hc
 | .none, _, _, _, _, _, _, _, _, _, h, _, _, _ => by cases h
 | .bool _, _, _, _, _, _, _, _, _, _, h, _, _, _ => by cases h
 | .list _, _, _, _, _, _, _, _, _, _, h, _, _, _ => by cases h
 | .dict _, _, _, _, _, _, _, _, _, _, h, _, _, _ => by cases h
theorem abz : ∀ (xs ys : List PyData) (A : Around) (s : Shared) (vs ws : List Value) (as bs : List Addr), ReadsAll s.heap vs xs as -> ReadsAll s.heap ws ys bs -> zC xs = true -> zC ys = true -> vh xs ys = true ->
  A.units + max (am0 xs) (am0 ys) < cLine -> Lex A s vs ws (ltL xs ys)
 | [], [], _, _, _, _, _, _, ra, rb, _, _, _, _ => by cases ra; cases rb; rw [ltL]; exact .nn
 | [], _ :: _, _, _, _, _, _, _, ra, rb, _, _, _, _ => by cases ra; cases rb; rw [ltL]; exact .nc
 | _ :: _, [], _, _, _, _, _, _, ra, rb, _, _, _, _ => by cases ra; cases rb; rw [ltL]; exact .cn
 | x :: xs, y :: ys, A, s, _, _, _, _, ra, rb, pa, pb, hc, hu => by
  cases ra with
  | cons r rs =>
   cases rb with
   | cons r' rs' =>
    rw [zC, amX] at pa pb
    rw [vh] at hc
    rw [ltL]
    have e1 : am0 (x :: xs) = max x.depth (am0 xs) := rfl
    have e2 : am0 (y :: ys) = max y.depth (am0 ys) := rfl
    rw [e1, e2] at hu
    have eq := eqAt_reads x y A s _ _ _ _ r r' (yy x pa.1) (yy y pb.1) (by omega)
    by_cases e : anl x y = true
    ·rw [if_pos e] at hc ⊢
     rw [e] at eq
     exact .eq eq (abz xs ys A s _ _ _ _ rs rs' pa.2 pb.2 hc (by omega))
    ·rw [if_neg e] at hc ⊢
     rw [Bool.not_eq_true] at e
     rw [e] at eq
     exact .lt eq (ac9 x y A s _ _ _ _ r r' pa.1 pb.1 hc (by omega))
end
end L2
end
section
namespace L2
open PySem PySem.Spec PyProof.Rows PySem.SeqAt PySem.W
section
variable {P : Program} {w : World} {A : Around} {s : Shared} {b : Bool} {Q : Bool -> Shared -> Prop}
theorem ab9 {fin : Bool} {x y : PyData} {p q : Value} {r : List (Value × Value)} {i : Nat} {as bs : List Addr} {c : Bool} (rx : Reads s.heap p x as) (ry : Reads s.heap q y bs) (px : zw x = true) (py : zw y = true) (hu : A.units + max x.depth y.depth < cLine)
  (h1 : anl x y = true -> KatLex P w A b fin Q r (i + 1) s) (h2 : anl x y = false -> wpAny (model P w) A (oneLt' (b && i == 0) p q) Q (fun _ _ => False) s) : KatLex P w A b fin Q ((p, q) :: r) i s := by
 refine kat_cons (eqAt_reads x y A s _ _ _ _ rx ry (yy x px) (yy y py) (by omega) P w _ _ ?_)
 exact kat_go (fun e => kat_yes (h1 e)) fun e => kat_no (h2 e)
theorem vi {m n : Nat} : ∀ (xs ys : List PyData) (vs ws : List Value) (as bs : List Addr) (i : Nat), (1 <= i \/ b = false) -> ReadsAll s.heap vs xs as -> ReadsAll s.heap ws ys bs -> zC xs = true -> zC ys = true -> vh xs ys = true ->
  A.units + max (am0 xs) (am0 ys) < cLine -> xs.length + n = ys.length + m -> Q (ltL xs ys) s -> KatLex P w A b (decide (m < n)) Q (vs.zip ws) i s
 | [], [], _, _, _, _, i, _, ra, rb, _, _, _, _, hl, q => by
  cases ra; cases rb
  rw [ltL] at q
  simp only [aoE] at hl
  rw [decide_eq_false (show ¬ m < n by omega)]
  exact kat_nil q
 | [], y :: ys, _, _, _, _, i, _, ra, rb, _, _, _, _, hl, q => by
  cases ra; cases rb
  rw [ltL] at q
  simp only [aoE, anb] at hl
  rw [decide_eq_true (show m < n by omega)]
  exact kat_nil q
 | x :: xs, [], _, _, _, _, i, _, ra, rb, _, _, _, _, hl, q => by
  cases ra; cases rb
  rw [ltL] at q
  simp only [aoE, anb] at hl
  rw [decide_eq_false (show ¬ m < n by omega), List.zip_nil_right]
  exact kat_nil q
 | x :: xs, y :: ys, _, _, _, _, i, hi, ra, rb, pa, pb, hc, hu, hl, q => by
  cases ra with
  | cons r rs =>
   cases rb with
   | cons r' rs' =>
    rw [zC, amX] at pa pb
    rw [vh] at hc
    rw [ltL] at q
    have e1 : am0 (x :: xs) = max x.depth (am0 xs) := rfl
    have e2 : am0 (y :: ys) = max y.depth (am0 ys) := rfl
    rw [e1, e2] at hu
    simp only [anb] at hl
    rw [aoN]
    refine ab9 (c := true) r r' pa.1 pb.1 (by omega) (fun e => ?_) fun e => ?_
    ·rw [if_pos e] at hc q
     exact vi xs ys _ _ _ _ (i + 1) (.inl (by omega)) rs rs' pa.2 pb.2 hc (by omega) (by omega) q
    ·rw [if_neg (by rw [e]; exact amQ)] at hc q
     have ef : (b && i == 0) = false := by
      rcases hi with hi | hi
      ·rw [show (i == 0) = false from beq_eq_false_iff_ne.mpr (by omega), apj]
      ·rw [hi]; rfl
     rw [ef]
     exact kat_one _ _ (ac9 x y A s _ _ _ _ r r' pa.1 pb.1 hc (by omega) P w _ _ q)
end
def jK : PyData -> Option String
 | .tuple (.int _ :: _) => some "int"
 | .tuple (.str _ :: _) => some "str"
 | .tuple (.tuple _ :: _) => some "tuple"
 | _ => none
structure SortOk (T : String) (ds : List PyData) : Prop where
 plain : ∀ d ∈ ds, zw d = true
 head : ∀ d ∈ ds, jK d = some T
 cmp : ∀ d ∈ ds, ∀ e ∈ ds, aaa d e = true
 depth : ∀ d ∈ ds, d.depth <= 50
 nd : ds.Nodup
theorem qo {d : PyData} {T : String} (h : jK d = some T) : ∃ x xs, d = .tuple (x :: xs) /\ ((T = "int" /\ ∃ n, x = .int n) \/ (T = "str" /\ ∃ n, x = .str n) \/ (T = "tuple" /\ ∃ n, x = .tuple n)) := by
 unfold jK at h
 split at h
 ·cases h; exact ⟨_, _, rfl, .inl ⟨rfl, _, rfl⟩⟩
 ·cases h; exact ⟨_, _, rfl, .inr (.inl ⟨rfl, _, rfl⟩)⟩
 ·cases h; exact ⟨_, _, rfl, .inr (.inr ⟨rfl, _, rfl⟩)⟩
 ·cases h
section
variable {P : Program} {w : World} {A : Around} {s : Shared} {T : String}
theorem aln {d e : PyData} {v u : Value} {as bs : List Addr} {C : Bool -> Shared -> Prop} (rd : Reads s.heap v d as) (re : Reads s.heap u e bs) (pd : zw d = true) (pe : zw e = true) (hd : jK d = some T) (he : jK e = some T) (hc : aaa d e = true)
  (hu : A.units + 60 < cLine) (d1 : d.depth <= 50) (d2 : e.depth <= 50) (q : C (ltD d e) s) : wpAny (model P w) A (keyLt' (tuples' (Value.type T != Value.type "tuple")) v u) C (fun _ _ => False) s := by
 obtain ⟨x, xs, rfl, hx⟩ := qo hd
 obtain ⟨y, ys, rfl, hy⟩ := qo he
 cases rd with
 | @tuple l o vs n _ as h1 h2 h3 h4 =>
  cases re with
  | @tuple m o2 ws n2 _ bs k1 k2 k3 k4 =>
   have l1 := apw _ _ _ h4
   have l2 := apw _ _ _ k4
   rw [am5] at l1 l2
   refine kat_lt h1 h3 k1 k3 ?_
   rw [zw] at pd pe
   rw [aaa] at hc
   rw [ltD] at q
   have e1 : (PyData.tuple (x :: xs)).depth = am0 (x :: xs) + 1 := rfl
   have e2 : (PyData.tuple (y :: ys)).depth = am0 (y :: ys) + 1 := rfl
   have e3 : am0 (x :: xs) = max x.depth (am0 xs) := rfl
   have e4 : am0 (y :: ys) = max y.depth (am0 ys) := rfl
   rcases hx with ⟨rfl, nx, rfl⟩ | ⟨rfl, nx, rfl⟩ | ⟨rfl, nx, rfl⟩
   ·obtain ⟨ny, rfl⟩ : ∃ ny, y = .int ny := by
     rcases hy with ⟨_, h⟩ | ⟨z, _⟩ | ⟨z, _⟩
     ·exact h
     ·exact absurd z (by decide)
     ·exact absurd z (by decide)
    obtain ⟨vl⟩ := vs
    obtain ⟨wl⟩ := ws
    cases h4 with
    | cons r rs =>
     cases k4 with
     | cons r' rs' =>
      rw [zC, amX] at pd pe
      rw [vh] at hc
      rw [ltL] at q
      rw [aoN]
      refine ab9 (c := true) r r' rfl rfl (by omega) (fun e => ?_) fun e => ?_
      ·rw [if_pos e] at hc q
       exact vi xs ys _ _ _ _ 1 (.inl (amV 1)) rs rs' pd.2 pe.2 hc (by omega) (by simp only [anb] at l1 l2; omega) q
      ·rw [if_neg (by rw [e]; exact amQ)] at q
       rw [show ((Value.type "int" != Value.type "tuple") && (0 == 0)) = true by decide]
       cases r
       cases r'
       rw [ltD] at q
       exact oneLt_int q
   ·obtain ⟨ny, rfl⟩ : ∃ ny, y = .str ny := by
     rcases hy with ⟨z, _⟩ | ⟨_, h⟩ | ⟨z, _⟩
     ·exact absurd z (by decide)
     ·exact h
     ·exact absurd z (by decide)
    obtain ⟨vl⟩ := vs
    obtain ⟨wl⟩ := ws
    cases h4 with
    | cons r rs =>
     cases k4 with
     | cons r' rs' =>
      rw [zC, amX] at pd pe
      rw [vh] at hc
      rw [ltL] at q
      rw [aoN]
      refine ab9 (c := true) r r' pd.1 pe.1 (by omega) (fun e => ?_) fun e => ?_
      ·rw [if_pos e] at hc q
       exact vi xs ys _ _ _ _ 1 (.inl (amV 1)) rs rs' pd.2 pe.2 hc (by omega) (by simp only [anb] at l1 l2; omega) q
      ·rw [if_neg (by rw [e]; exact amQ)] at q
       rw [show ((Value.type "str" != Value.type "tuple") && (0 == 0)) = true by decide]
       cases r
       cases r'
       rw [ltD] at q
       exact oneLt_str q
   ·exact vi _ _ _ _ _ _ 0 (.inr (by decide)) h4 k4 pd pe hc (by omega) (by rw [l1, l2]; omega) q
theorem ReadsAll.at {h : Heap} : ∀ {vs : List Value} {ds : List PyData} {as : List Addr}, ReadsAll h vs ds as -> ∀ i, i < ds.length -> ∃ bs, Reads h (vs.getD i Value.none) (ds.getD i .none) bs
 | _, _, _, .nil, i, hi => absurd hi (aop _)
 | _, _, _, .cons r rs, 0, _ => ⟨_, r⟩
 | _, _, _, .cons r rs, i + 1, hi => ReadsAll.at rs i (Nat.lt_of_succ_lt_succ hi)
theorem ReadsAll.keep {h h' : Heap} (k : ∀ b o, h.get? b = some o -> h'.get? b = some o) : ∀ {vs : List Value} {ds : List PyData} {as : List Addr}, ReadsAll h vs ds as -> ReadsAll h' vs ds as
 | _, _, _, .nil => .nil
 | _, _, _, .cons r rs => .cons (PyProof.Rows.Reads.keeps k r) (ReadsAll.keep k rs)
theorem ae9 {h : Heap} : ∀ {vs : List Value} {ds : List PyData} {as : List Addr}, ReadsAll h vs ds as -> (∀ d ∈ ds, jK d = some T) -> ∃ fs, KatTups h vs fs /\ fs.length = vs.length /\ ∀ v ∈ fs, Looks (model P w) h (typeOf v) (.type T)
 | _, _, _, .nil, _ => ⟨[], .nil, rfl, fun _ h => nomatch h⟩
 | _, d :: ds, _, .cons r rs, hh => by
  obtain ⟨fs, h1, h2, h3⟩ := ae9 rs fun d hd => hh d (amY _ hd)
  obtain ⟨x, xs, rfl, hx⟩ := qo (hh d am6)
  cases r with
  | @tuple l o vs n _ as k1 k2 k3 k4 =>
   obtain ⟨vl⟩ := vs
   cases k4 with
   | @cons v0 vs0 _ _ _ _ r0 rs0 =>
    refine ⟨v0 :: fs, .cons k1 k2 k3 rfl h1, by simp [h2], fun v hv => ?_⟩
    rcases am2.mp hv with rfl | hv
    ·rcases hx with ⟨rfl, nx, rfl⟩ | ⟨rfl, nx, rfl⟩ | ⟨rfl, nx, rfl⟩
     ·cases r0; exact Looks.of_pure rfl
     ·cases r0; exact Looks.of_pure rfl
     ·cases r0 with
      | tuple q1 q2 q3 q4 => rw [<- q2]; exact (Looks.ld q1).andThen .now
    ·exact h3 v hv
theorem alo {ds : List PyData} (ok : SortOk T ds) : Tot ds.length fun i j => ltD (ds.getD i .none) (ds.getD j .none) := by
 have mem : ∀ i, i < ds.length -> ds.getD i .none ∈ ds := fun i hi => by
  rw [amS, amP hi]
  exact ani hi
 refine ⟨fun i j hi hj ne => ad9 _ _ (ok.plain _ (mem i hi)) (ok.plain _ (mem j hj)) fun z => ne ?_, fun i j k hi hj hk => ahw _ _ _ (ok.plain _ (mem i hi)) (ok.plain _ (mem j hj)) (ok.plain _ (mem k hk))⟩
 rw [amS, amS, amP hi, amP hj] at z
 exact (apx ok.nd).mp z
theorem ajh {vs : List Value} {ds : List PyData} {as : List Addr} (ra : ReadsAll s.heap vs ds as) (ok : SortOk T ds) (hu : A.units + 60 < cLine) (few : ds.length < 64 \/ ds.Pairwise fun d e => ltD d e = true) :
  Asks P w A s (tuples' (Value.type T != Value.type "tuple")) vs fun i j => ltD (ds.getD i .none) (ds.getD j .none) := by
 have len := apw _ _ _ ra
 have mem : ∀ i, i < ds.length -> ds.getD i .none ∈ ds := fun i hi => by
  rw [amS, amP hi]
  exact ani hi
 refine ⟨fun h2 h' k R q => ?_, fun h' k i j C hi hj q => ?_, by rw [len]; exact alo ok, ?_⟩
 ·obtain ⟨fs, f1, f2, f3⟩ := ae9 (P := P) (w := w) (ReadsAll.keep k ra) ok.head
  exact kat_kind f1 (by omega) f3 (beq_self_eq_true _) q
 ·rw [len] at hi hj
  obtain ⟨b1, r1⟩ := ReadsAll.at (ReadsAll.keep k ra) i hi
  obtain ⟨b2, r2⟩ := ReadsAll.at (ReadsAll.keep k ra) j hj
  exact aln r1 r2 (ok.plain _ (mem i hi)) (ok.plain _ (mem j hj)) (ok.head _ (mem i hi)) (ok.head _ (mem j hj)) (ok.cmp _ (mem i hi) _ (mem j hj)) hu (ok.depth _ (mem i hi)) (ok.depth _ (mem j hj)) q
 ·rw [len]
  refine few.imp id fun pw i hi => ?_
  have h1 := aoB.mp pw i (i + 1) (by omega) hi (by omega)
  have g : ∀ j (hj : j < ds.length), ds.getD j .none = ds[j] := fun j hj => by rw [amS, amP hj]; rfl
  rw [g _ hi, g i (by omega)]
  have ne := lt_asymm (ok.plain _ (ani _)) (ok.plain _ (ani _)) h1
  have := ad9 _ _ (ok.plain _ (ani _)) (ok.plain _ (ani _)) ne
  rw [h1] at this
  revert this
  cases ltD ds[i + 1] ds[i] <;> simp
end
def pick {α : Type} (d : α) (p : Array Nat) (xs : List α) : List α := p.toList.map fun i => xs.getD i d
theorem afa : ∀ {xs : List V} {us : List Value}, Vals xs us -> ∀ i, RelV (xs.getD i .non) (us.getD i Value.none)
 | _, _, .nil, i => rfl
 | _, _, .cons r t, 0 => r
 | _, _, .cons r t, i + 1 => afa t i
theorem agi {xs : List V} {us : List Value} (r : Vals xs us) (p : Array Nat) : Vals (pick .non p xs) (pick Value.none p us) := by
 unfold pick
 induction p.toList with
 | nil => exact .nil
 | cons i l ih => exact .cons (afa r i) ih
theorem afb {K : amR} {H : Hp} : ∀ {ds : List PyData} {xs : List V}, Reps K H ds xs -> ∀ i, Rep K H (ds.getD i .none) (xs.getD i .non)
 | [], xs, r, i => by
  rw [reps_nil.mp r]
  exact rep_none.mpr rfl
 | d :: ds, xs, r, i => by
  obtain ⟨x, xs', rfl, r1, r2⟩ := reps_cons.mp r
  cases i with
  | zero => exact r1
  | succ i => exact afb r2 i
theorem agj {K : amR} {H : Hp} {ds : List PyData} {xs : List V} (r : Reps K H ds xs) (p : Array Nat) : Reps K H (pick .none p ds) (pick .non p xs) := by
 unfold pick
 induction p.toList with
 | nil => exact .nil'
 | cons i l ih => exact .cons' (afb r i) ih
theorem agk {α : Type} {d : α} {n : Nat} {p : Array Nat} {xs : List α} (h : Pm n p) (hn : n = xs.length) : (pick d p xs).Perm xs := by
 have e : (am8 n).map (fun i => xs.getD i d) = xs := by
  subst hn
  refine apk fun i => ?_
  rw [am1]
  by_cases hi : i < xs.length
  ·rw [aog hi, amP hi]
   simp [hi]
  ·rw [anj (by simp; omega), anj (by omega)]
   rfl
 have := h.map fun i => xs.getD i d
 rw [e] at this
 exact this
theorem aji {n : Nat} {p : Array Nat} {ds : List PyData} (h : Pm n p) (u : Up (fun i j => ltD (ds.getD i .none) (ds.getD j .none)) p n) : (pick .none p ds).Pairwise fun d e => ltD d e = true := by
 unfold pick
 rw [aoG]
 refine aoB.mpr fun i j hi hj hij => ?_
 have hs := h.size
 rw [am5] at hi hj
 have := u i j hij (by omega)
 have g : ∀ k (hk : k < p.toList.length), p.getD k 0 = p.toList[k] := fun k hk => by
  rw [jq, amS, amP hk]
  rfl
 rw [g i (by simpa using hi), g j (by simpa using hj)] at this
 exact this
def aca (K : amR) : List V -> Hp -> VK -> Prop := fun xs H Q => ∃ (a : Addr) (vs : List V) (ds : List PyData) (T : String), xs = [.ref a] /\ SqL K H a vs /\ Reps K H ds vs /\ SortOk T ds /\ ds.length <= 1000 /\ (ds.length < 64 \/ ds.Pairwise fun d e => ltD d e = true) /\
 ∀ l p, H l = none -> Pm ds.length p -> Up (fun i j => ltD (ds.getD i .none) (ds.getD j .none)) p ds.length -> Q (.ref l) (upd H l (.lst (pick .non p vs)))
theorem acb {X : Cx} (hu : X.A.units + 64 < cLine) : yk X (.builtin "sorted") (aca X.K) := by
 intro pins s σ H xs us Q I r h
 obtain ⟨a, vs, ds, T, rfl, ha, rd, ok, hl, few, q⟩ := h
 obtain ⟨u, rfl, rx⟩ := vals1 r
 cases rx
 obtain ⟨its, rv, pl, hz⟩ := I.list ha
 have le := rv.length
 have ld := rd.length
 obtain ⟨as, ra⟩ := jm I ds vs its rd rv
 have e2 : X.A.in1.in1.units = X.A.units + 1 + 1 := rfl
 have lt' : its.length = ds.length := by omega
 refine ac8 (by omega) pl.isList (ajh ra ok (by omega) few) fun h' D p c x1 x2 x3 x4 x5 => ?_
 rw [lt'] at x1 x2
 have hD : H D = none := I.hok.fresh x3
 have lp : p.toList.length = ds.length := by rw [am5]; exact x1.size
 exact ⟨.ref D, upd H D (.lst (pick .non p vs)), I.laid (t' := s.toks) x4 x3 ⟨by unfold pick; rw [amT]; omega, pick Value.none p its, c, agi rv p, x5⟩, rfl, q D p hD x1 x2⟩
theorem acd {X : Cx} {K : amR} (hK : X.K = K) (hu : X.A.units + 64 < cLine) : yk X (.builtin "sorted") (aca K) := hK ▸ acb hu
section
variable {K : amR} {f : Fx} {ρ : zr} {P : List PyData -> Prop} {te : TE}
theorem ahx (T : String) (h : PEd K f te ρ fun x => ∃ ds, x = .list ds /\ SortOk T ds /\ ds.length <= 1000 /\ (ds.length < 64 \/ ds.Pairwise fun d e => ltD d e = true) /\ ∀ es, es.Perm ds -> (es.Pairwise fun d e => ltD d e = true) -> P es) :
  PEdO K f (tCB (aca K) (yo te qj)) ρ P := fun σ H Q e q => h σ H _ e fun x v H1 g1 r1 ⟨ds, ex, ok, hl, few, p⟩ => by
 subst ex
 obtain ⟨a, xs, rfl, h1, h2⟩ := rep_list.mp r1
 refine ⟨a, xs, ds, T, rfl, (zl _ _).seq h1, Reps.mono (zl _ _) _ _ h2, ok, hl, few, fun l pm hn m u => ?_⟩
 have g2 : Goes f H1 (upd H1 l (.lst (pick .non pm xs))) := .of_same (zY hn _) g1.2
 refine q (pick .none pm ds) l _ _ (g1.trans g2) (g1.free e.fd hn) zz (Reps.mono (fun b o hb => ?_) _ _ (agj h2 pm)) (p _ (agk m rfl) (aji m u))
 have hb' := zS hb
 have hbl : b ≠ l := fun z => by
  have := hb'.2
  rw [z, hn] at this
  cases this
 refine zB (fun z => ?_) (by rw [zy hbl]; exact hb'.2)
 rcases z with z | z
 ·exact hb'.1 (.inl z)
 ·rcases am2.mp z with z | z
  ·exact hbl z
  ·exact hb'.1 (.inr z)
end
end L2
end
section
namespace L2.ST
open PySem PySem.SetTable
def ada (xs : Array Nat) : Prop := ∀ i j, i < j -> j < xs.size -> xs.getD i 0 < xs.getD j 0
theorem ahy {xs : Array Nat} {i d e : Nat} (h : i < xs.size) : xs.getD i d = xs.getD i e := by simp [aoM, h]
theorem aaL {xs : Array Nat} {j : Nat} : ∀ f lo hi, hi - lo <= f -> lo <= hi -> hi <= xs.size -> (∀ i, i < lo -> xs.getD i 0 < j) -> (∀ i, hi <= i -> i < xs.size -> j <= xs.getD i 0) -> ada xs ->
  lo <= below.go xs j f lo hi /\ below.go xs j f lo hi <= hi /\ (∀ i, i < below.go xs j f lo hi -> xs.getD i 0 < j) /\ (∀ i, below.go xs j f lo hi <= i -> i < xs.size -> j <= xs.getD i 0)
 | 0, lo, hi, hf, hl, hh, a, b, r => by
  obtain rfl : lo = hi := by omega
  exact ⟨amV _, amV _, a, b⟩
 | f + 1, lo, hi, hf, hl, hh, a, b, r => by
  unfold below.go
  by_cases h : lo < hi
  ·rw [if_pos h]
   have hm : (lo + hi) / 2 < xs.size := by omega
   simp only
   rw [ahy (e := 0) hm]
   by_cases h2 : xs.getD ((lo + hi) / 2) 0 < j
   ·rw [if_pos h2]
    have := aaL f ((lo + hi) / 2 + 1) hi (by omega) (by omega) hh (fun i hi' => by
     by_cases e : i = (lo + hi) / 2
     ·rw [e]; exact h2
     ·exact aq0 (r i _ (by omega) hm) h2) b r
    exact ⟨by omega, this.2.1, this.2.2⟩
   ·rw [if_neg h2]
    have := aaL f lo ((lo + hi) / 2) (by omega) (by omega) (by omega) a (fun i hi' hs => by
     by_cases e : i = (lo + hi) / 2
     ·rw [e]; omega
     ·have := r ((lo + hi) / 2) i (by omega) hs; omega) r
    exact ⟨this.1, by omega, this.2.2⟩
  ·rw [if_neg h]
   obtain rfl : lo = hi := by omega
   exact ⟨amV _, amV _, a, b⟩
theorem adb {xs : Array Nat} (r : ada xs) (j : Nat) : below xs j <= xs.size /\ (∀ i, i < below xs j -> xs.getD i 0 < j) /\ (∀ i, below xs j <= i -> i < xs.size -> j <= xs.getD i 0) := by
 have := aaL (xs := xs) (j := j) xs.size 0 xs.size (by omega) (anA _) (amV _) (fun i hi => absurd hi (aop _)) (fun i a b => by omega) r
 exact this.2
theorem below_at {xs : Array Nat} (r : ada xs) {i : Nat} (hi : i < xs.size) : below xs (xs.getD i 0) = i := by
 obtain ⟨a, b, c⟩ := adb r (xs.getD i 0)
 by_cases h : below xs (xs.getD i 0) < i
 ·have h1 := c _ (amV _) (by omega)
  have h2 := r _ i h hi
  omega
 ·by_cases h2 : i < below xs (xs.getD i 0)
  ·have := b i h2; omega
  ·omega
def Tk (t : SetTable) (j : Nat) : Prop := ∃ i, i < t.place.size /\ t.place.getD i 0 = j
theorem slot_live {t : SetTable} (r : ada t.place) {i : Nat} (hi : i < t.place.size) : t.slot (t.place.getD i 0) = .live i := by
 unfold slot
 simp only
 rw [below_at r hi]
 have : (t.place[i]? == some (t.place.getD i 0)) = true := by simp [aoM, hi]
 rw [if_pos this]
theorem agl {t : SetTable} (d : t.dummies = #[]) {j : Nat} (h : ¬ Tk t j) : t.slot j = .empty := by
 unfold slot
 simp only
 have h1 : ¬ (t.place[below t.place j]? == some j) = true := fun e => h (by
  have e2 := eq_of_beq e
  obtain ⟨hl, e3⟩ := Array.getElem?_eq_some_iff.mp e2
  exact ⟨_, hl, by simp [aoM, hl, e3]⟩)
 rw [if_neg h1]
 have h2 : has t.dummies j = false := by rw [d]; rfl
 rw [h2]
 rfl
def road (mask : Nat) (h : Int) : Nat -> Probe
 | 0 => { j := bits h % (mask + 1), more := runEnd mask (bits h % (mask + 1)) - bits h % (mask + 1), i := bits h % (mask + 1), perturb := bits h, dummy := none }
 | k + 1 => if (road mask h k).more > 0 then { road mask h k with j := (road mask h k).j + 1, more := (road mask h k).more - 1 } else
  { road mask h k with j := (leap mask (road mask h k).i (road mask h k).perturb).1, more := runEnd mask (leap mask (road mask h k).i (road mask h k).perturb).1 - (leap mask (road mask h k).i (road mask h k).perturb).1, i := (leap mask (road mask h k).i (road mask h k).perturb).1, perturb := (leap mask (road mask h k).i (road mask h k).perturb).2 }
theorem road_start (t : SetTable) (h : Int) : t.probeStart h = road t.mask h 0 := rfl
theorem qW (mask : Nat) (h : Int) : ∀ k, (road mask h k).dummy = none
 | 0 => rfl
 | k + 1 => by
  unfold road
  split
  ·exact qW mask h k
  ·exact qW mask h k
abbrev pos (mask : Nat) (h : Int) (k : Nat) : Nat := (road mask h k).j
def lp (mask : Nat) (h : Int) : Nat -> Nat × Nat
 | 0 => (bits h % (mask + 1), bits h)
 | r + 1 => leap mask (lp mask h r).1 (lp mask h r).2
theorem vI (mask i : Nat) (h : i <= mask) : i <= runEnd mask i /\ runEnd mask i <= mask /\ runEnd mask i - i <= 9 := by
 unfold runEnd
 split <;> omega
theorem ade (mask : Nat) (h : Int) : ∀ r, (lp mask h r).1 <= mask
 | 0 => apI.mp (aqZ _ (apP _))
 | r + 1 => apI.mp (aqZ _ (apP _))
def At (mask : Nat) (h : Int) (k r d : Nat) : Prop := d <= runEnd mask (lp mask h r).1 - (lp mask h r).1 /\ road mask h k = { j := (lp mask h r).1 + d, more := runEnd mask (lp mask h r).1 - (lp mask h r).1 - d, i := (lp mask h r).1, perturb := (lp mask h r).2, dummy := none }
theorem ace (mask : Nat) (h : Int) : At mask h 0 0 0 := ⟨anA _, rfl⟩
theorem afc {mask : Nat} {h : Int} {k r d : Nat} (a : At mask h k r d) (hd : d < runEnd mask (lp mask h r).1 - (lp mask h r).1) : At mask h (k + 1) r (d + 1) := by
 obtain ⟨a1, a2⟩ := a
 refine ⟨hd, ?_⟩
 unfold road
 rw [a2]
 simp only
 rw [if_pos (by omega)]
 simp only [Probe.mk.injEq, and_true]
 omega
theorem acf {mask : Nat} {h : Int} {k r d : Nat} (a : At mask h k r d) (hd : d = runEnd mask (lp mask h r).1 - (lp mask h r).1) : At mask h (k + 1) (r + 1) 0 := by
 obtain ⟨a1, a2⟩ := a
 refine ⟨anA _, ?_⟩
 unfold road
 rw [a2]
 simp only
 rw [if_neg (by omega)]
 rfl
theorem acg {mask : Nat} {h : Int} {k r : Nat} (a : At mask h k r 0) : ∀ d, d <= runEnd mask (lp mask h r).1 - (lp mask h r).1 -> At mask h (k + d) r d
 | 0, _ => a
 | d + 1, hd => afc (acg a d (by omega)) (by omega)
theorem adf (mask : Nat) (h : Int) : ∀ r, ∃ k, k <= 10 * r /\ At mask h k r 0
 | 0 => ⟨0, amV _, ace mask h⟩
 | r + 1 => by
  obtain ⟨k, hk, a⟩ := adf mask h r
  have := (vI mask _ (ade mask h r)).2.2
  exact ⟨_, by omega, acf (acg a _ (amV _)) rfl⟩
theorem ahz (mask : Nat) (h : Int) : ∀ k, ∃ r d, At mask h k r d
 | 0 => ⟨0, 0, ace mask h⟩
 | k + 1 => by
  obtain ⟨r, d, a⟩ := ahz mask h k
  by_cases e : d < runEnd mask (lp mask h r).1 - (lp mask h r).1
  ·exact ⟨r, d + 1, afc a e⟩
  ·exact ⟨r + 1, 0, acf a (Nat.le_antisymm a.1 (by omega))⟩
theorem ach (mask : Nat) (h : Int) (k : Nat) : pos mask h k <= mask := by
 obtain ⟨r, d, a1, a2⟩ := ahz mask h k
 unfold pos
 rw [a2]
 have := vI mask _ (ade mask h r)
 show (lp mask h r).1 + d <= mask
 omega
def stp (m i : Nat) : Nat := (i * 5 + 1) % m
def itr (m : Nat) : Nat -> Nat -> Nat
 | 0, i => i
 | r + 1, i => stp m (itr m r i)
theorem vj (m : Nat) (a : Nat) : ∀ b i, itr m (a + b) i = itr m b (itr m a i)
 | 0, i => rfl
 | b + 1, i => by show stp m (itr m (a + b) i) = stp m (itr m b (itr m a i)); rw [vj m a b i]
def orb (m : Nat) : Nat -> Nat -> List Nat
 | 0, _ => []
 | f + 1, i => i :: orb m f (stp m i)
theorem ahA (m : Nat) : ∀ f i r, r < f -> (orb m f i)[r]? = some (itr m r i)
 | 0, _, _, h => absurd h (aop _)
 | f + 1, i, 0, _ => rfl
 | f + 1, i, r + 1, h => by
  show (orb m f (stp m i))[r]? = _
  rw [ahA m f (stp m i) r (by omega), show r + 1 = 1 + r by omega, vj m 1 r i]
  rfl
def ji (m : Nat) : Bool := (am8 m).all (fun j => (orb m m 0).contains j) && itr m m 0 == 0
theorem afd : ji 8 = true := by decide +kernel
theorem adg : ji 32 = true := by decide +kernel
theorem abA : ji 128 = true := by decide +kernel
theorem abB : ji 512 = true := by decide +kernel
theorem aci (m : Nat) : ∀ f i, (orb m f i).length = f
 | 0, _ => rfl
 | f + 1, i => by show (orb m f (stp m i)).length + 1 = f + 1; rw [aci m f]
theorem adh {m : Nat} (h : ji m = true) {j : Nat} (hj : j < m) : ∃ r, r < m /\ itr m r 0 = j := by
 unfold ji at h
 rw [amX] at h
 have := apy.mp h.1 j (ans.mpr hj)
 have hm : j ∈ orb m m 0 := by simpa using this
 obtain ⟨r, hr, e⟩ := aoJ hm
 rw [aci] at hr
 have e2 := ahA m m 0 r hr
 rw [amP (by rw [aci]; exact hr), e] at e2
 exact ⟨r, hr, (Option.some.inj e2).symm⟩
theorem afe {m : Nat} (h : ji m = true) {i j : Nat} (hi : i < m) (hj : j < m) : ∃ r, r < m /\ itr m r i = j := by
 obtain ⟨a, ha, ea⟩ := adh h hi
 obtain ⟨b, hb, eb⟩ := adh h hj
 have e0 : itr m m 0 = 0 := by
  unfold ji at h
  rw [amX] at h
  exact eq_of_beq h.2
 by_cases hab : a <= b
 ·exact ⟨b - a, by omega, by rw [<- ea, <- vj, show a + (b - a) = b by omega]; exact eb⟩
 ·refine ⟨m - a + b, by omega, ?_⟩
  rw [<- ea, <- vj, show a + (m - a + b) = m + b by omega, vj, e0]
  exact eb
theorem aff (mask : Nat) (h : Int) : ∀ r, (lp mask h r).2 = bits h / 32 ^ r
 | 0 => by simp [lp]
 | r + 1 => by
  show (lp mask h r).2 / 32 = _
  rw [aff mask h r, Nat.div_div_eq_div_mul, aq1]
theorem ajj (h : Int) : bits h < 2 ^ 64 := by
 unfold bits
 have := aow h (show (0 : Int) < 2 ^ 64 by decide)
 have := apJ h (show (2 ^ 64 : Int) ≠ 0 by decide)
 omega
theorem ajk (mask : Nat) (h : Int) (r : Nat) (hr : 13 <= r) : (lp mask h r).2 = 0 := by
 rw [aff]
 refine Nat.div_eq_of_lt (ane (ajj h) ?_)
 exact ank (show 2 ^ 64 <= 32 ^ 13 by decide) (aqE (by decide) hr)
theorem aea (mask : Nat) (h : Int) : ∀ r, (lp mask h (13 + r)).1 = itr (mask + 1) r (lp mask h 13).1
 | 0 => rfl
 | r + 1 => by
  show (leap mask (lp mask h (13 + r)).1 (lp mask h (13 + r)).2).1 = stp (mask + 1) (itr (mask + 1) r (lp mask h 13).1)
  rw [ajk mask h (13 + r) (by omega), aea mask h r]
  rfl
theorem ahB {mask : Nat} (g : ji (mask + 1) = true) (h : Int) {j : Nat} (hj : j <= mask) : ∃ k, k < 10 * turns mask /\ pos mask h k = j := by
 obtain ⟨r, hr, e⟩ := afe g (i := (lp mask h 13).1) (j := j) (apl (ade mask h 13)) (apl hj)
 obtain ⟨k, hk, a1, a2⟩ := adf mask h (13 + r)
 refine ⟨k, by unfold turns; omega, ?_⟩
 unfold pos
 rw [a2]
 show (lp mask h (13 + r)).1 + 0 = j
 rw [aea, e]
 rfl
end L2.ST
end
section
namespace L2.ST
open PySem PySem.SetTable
structure TB (t : SetTable) (hs : List Int) : Prop where
 mask : t.mask = 7 \/ t.mask = 31 \/ t.mask = 127 \/ t.mask = 511
 dum : t.dummies = #[]
 rise : ada t.place
 le : ∀ i, i < t.place.size -> t.place.getD i 0 <= t.mask
 size : t.place.size = hs.length
 most : hs.length <= t.mask
 reach : ∀ i, i < hs.length -> ∃ k, pos t.mask (hs.getD i 0) k = t.place.getD i 0 /\ ∀ k', k' < k -> Tk t (pos t.mask (hs.getD i 0) k')
structure TOk (t : SetTable) (hs : List Int) : Prop extends TB t hs where
 room : hs.length * 5 < t.mask * 3
theorem ahD {t : SetTable} {hs : List Int} (o : TB t hs) : ji (t.mask + 1) = true := by
 rcases o.mask with e | e | e | e <;> rw [e]
 ·exact afd
 ·exact adg
 ·exact abA
 ·exact abB
theorem agm {t : SetTable} (r : ada t.place) (hs : t.place.size <= t.mask) : ∃ j, j <= t.mask /\ ¬ Tk t j := by
 refine aoh fun no => ?_
 have all : ∀ j, j <= t.mask -> Tk t j := fun j hj => aoh fun z => no ⟨j, hj, z⟩
 have up : ∀ j, j <= t.mask -> j <= below t.place j /\ below t.place j < t.place.size := fun j => by
  induction j with
  | zero =>
   intro hj
   obtain ⟨i, hi, e⟩ := all 0 hj
   have := below_at r hi
   rw [e] at this
   exact ⟨anA _, by omega⟩
  | succ j ih =>
   intro hj
   obtain ⟨i, hi, e⟩ := all (j + 1) hj
   obtain ⟨i', hi', e'⟩ := all j (by omega)
   have b1 := below_at r hi
   have b2 := below_at r hi'
   rw [e] at b1
   rw [e'] at b2
   have lt : i' < i := by
    by_cases h : i' < i
    ·exact h
    ·by_cases h2 : i' = i
     ·subst h2; omega
     ·have := r i i' (by omega) hi'; omega
   have := ih (by omega)
   omega
 have := up t.mask (amV _)
 omega
structure First (t : SetTable) (h : Int) (E : Nat) : Prop where
 lt : E < 10 * turns t.mask
 free : ¬ Tk t (pos t.mask h E)
 ahead : ∀ k, k < E -> Tk t (pos t.mask h k)
theorem least {p : Nat -> Prop} : ∀ n, p n -> ∃ m, m <= n /\ p m /\ ∀ k, k < m -> ¬ p k := fun n => by
 induction n using Nat.strongRecOn with
 | ind n ih =>
  intro h
  by_cases q : ∃ k, k < n /\ p k
  ·obtain ⟨k, hk, pk⟩ := q
   obtain ⟨m, a, b⟩ := ih k hk pk
   exact ⟨m, by omega, b⟩
  ·exact ⟨n, amV _, h, fun k hk z => q ⟨k, hk, z⟩⟩
theorem agn {t : SetTable} (g : ji (t.mask + 1) = true) (r : ada t.place) (hs : t.place.size <= t.mask) (h : Int) : ∃ E, First t h E := by
 obtain ⟨j, hj, nj⟩ := agm r hs
 obtain ⟨k, hk, e⟩ := ahB g h hj
 obtain ⟨m, a, b, c⟩ := least (p := fun k => ¬ Tk t (pos t.mask h k)) k (by show ¬ Tk t (pos t.mask h k); rw [e]; exact nj)
 exact ⟨m, by omega, b, fun q hq => aoh (c q hq)⟩
theorem first_of {t : SetTable} {hs : List Int} (o : TB t hs) (h : Int) : ∃ E, First t h E := agn (ahD o) o.rise (by have := o.size; have := o.most; omega) h
theorem probe_go {t : SetTable} (d : t.dummies = #[]) (r : ada t.place) {hashAt : Nat -> Int} {h : Int} {E : Nat} (F : First t h E) : ∀ f k, k <= E -> E < k + f ->
  (probe.go t hashAt h f (road t.mask h k) = some (.empty (pos t.mask h E) none) /\ ∀ q i, k <= q -> q < E -> i < t.place.size -> pos t.mask h q = t.place.getD i 0 -> hashAt i ≠ h) \/
  ∃ q i, k <= q /\ q < E /\ i < t.place.size /\ pos t.mask h q = t.place.getD i 0 /\ hashAt i = h /\ probe.go t hashAt h f (road t.mask h k) = some (.candidate (pos t.mask h q) i (road t.mask h (q + 1))) /\ ∀ q' i', k <= q' -> q' < q -> i' < t.place.size -> pos t.mask h q' = t.place.getD i' 0 -> hashAt i' ≠ h
 | 0, k, h1, h2 => by omega
 | f + 1, k, h1, h2 => by
  unfold probe.go
  by_cases e : k = E
  ·subst e
   refine .inl ⟨?_, fun q i a b => by omega⟩
   rw [agl d F.free]
   show some (Met.empty _ _) = _
   rw [qW]
  ·obtain ⟨i, hi, ei⟩ := F.ahead k (by omega)
   have sl : t.slot (road t.mask h k).j = .live i := by
    have := slot_live r hi
    rw [ei] at this
    exact this
   rw [sl]
   show (if (hashAt i == h) = true then _ else _ : Option Met) = _ /\ _ \/ _
   have uniq : ∀ i', i' < t.place.size -> pos t.mask h k = t.place.getD i' 0 -> i' = i := fun i' hi' e' => by
    have b1 := below_at r hi
    have b2 := below_at r hi'
    rw [ei] at b1
    rw [<- e'] at b2
    omega
   by_cases hh : (hashAt i == h) = true
   ·rw [if_pos hh]
    refine .inr ⟨k, i, amV _, by omega, hi, ei.symm, eq_of_beq hh, ?_, fun q' i' a b => by omega⟩
    show (if (hashAt i == h) = true then _ else _ : Option Met) = _
    rw [if_pos hh]
    rfl
   ·rw [if_neg hh]
    have hne : hashAt i ≠ h := fun z => hh (by rw [z]; exact beq_self_eq_true _)
    rcases probe_go d r (hashAt := hashAt) F f (k + 1) (by omega) (by omega) with ⟨a, b⟩ | ⟨q, i2, a1, a2, a3, a4, a5, a6, a7⟩
    ·refine .inl ⟨a, fun q i' c1 c2 c3 c4 => ?_⟩
     by_cases eq : q = k
     ·subst eq; rw [uniq i' c3 c4]; exact hne
     ·exact b q i' (by omega) c2 c3 c4
    ·refine .inr ⟨q, i2, by omega, a2, a3, a4, a5, ?_, fun q' i' c1 c2 c3 c4 => ?_⟩
     ·show (if (hashAt i == h) = true then _ else _ : Option Met) = _
      rw [if_neg hh]
      exact a6
     ·by_cases eq : q' = k
      ·subst eq; rw [uniq i' c3 c4]; exact hne
      ·exact a7 q' i' (by omega) c2 c3 c4
end L2.ST
end
section
namespace L2.ST
open PySem PySem.SetTable
theorem vk {α : Type} (xs : Array α) (i : Nat) (d : α) : xs.getD i d = xs.toList.getD i d := by
 by_cases h : i < xs.size <;> simp [aoM, h, List.getD]
theorem adi {α : Type} (l : List α) (p : Nat) (x d : α) (hp : p <= l.length) (i : Nat) : (l.take p ++ x :: l.drop p).getD i d = if i < p then l.getD i d else if i = p then x else l.getD (i - 1) d := by
 have lt : (l.take p).length = p := by rw [anu]; omega
 by_cases h1 : i < p
 ·rw [if_pos h1, amS, am3 (by omega), aoH h1, amS]
 ·rw [if_neg h1, amS, am7 (by omega), lt]
  by_cases h2 : i = p
  ·rw [if_pos h2, h2, aoY]
   rfl
  ·rw [if_neg h2, show i - p = (i - p - 1) + 1 by omega, List.getElem?_cons_succ, apS, show p + (i - p - 1) = i - 1 by omega, amS]
section
variable {t : SetTable} {hs : List Int} {h : Int} {E : Nat}
theorem put_tb (o : TB t hs) (F : First t h E) (more : hs.length + 1 <= t.mask) : below t.place (pos t.mask h E) <= hs.length /\ TB (t.put (pos t.mask h E)).1 (hs.take (below t.place (pos t.mask h E)) ++ h :: hs.drop (below t.place (pos t.mask h E))) := by
 obtain ⟨b1, b2, b3⟩ := adb o.rise (pos t.mask h E)
 have sz := o.size
 generalize hp : below t.place (pos t.mask h E) = p at *
 have hpl : p <= t.place.toList.length := by rw [am5]; exact b1
 have pl : ∀ i, (t.put (pos t.mask h E)).1.place.getD i 0 = if i < p then t.place.getD i 0 else if i = p then pos t.mask h E else t.place.getD (i - 1) 0 := fun i => by
  show (insertAt t.place (below t.place (pos t.mask h E)) (pos t.mask h E)).getD i 0 = _
  rw [hp, vk, ao7, adi _ _ _ _ hpl, vk, vk]
 have psz : (t.put (pos t.mask h E)).1.place.size = t.place.size + 1 := by
  show (insertAt t.place (below t.place (pos t.mask h E)) (pos t.mask h E)).size = _
  rw [<- am5, ao7, hp, am9, anb, anu, anZ, am5]
  omega
 have ne : ∀ i, i < t.place.size -> t.place.getD i 0 ≠ pos t.mask h E := fun i hi e => F.free ⟨i, hi, e⟩
 have b3' : ∀ i, p <= i -> i < t.place.size -> pos t.mask h E < t.place.getD i 0 := fun i a b => by
  have := b3 i a b
  have := ne i b
  omega
 have hm : (t.put (pos t.mask h E)).1.mask = t.mask := rfl
 have tk : ∀ j, Tk t j -> Tk (t.put (pos t.mask h E)).1 j := fun j ⟨i, hi, e⟩ => by
  by_cases q : i < p
  ·exact ⟨i, by omega, by rw [pl, if_pos q]; exact e⟩
  ·exact ⟨i + 1, by omega, by rw [pl, if_neg (by omega), if_neg (by omega), Nat.add_sub_cancel]; exact e⟩
 have hl : ∀ i, (hs.take p ++ h :: hs.drop p).getD i 0 = if i < p then hs.getD i 0 else if i = p then h else hs.getD (i - 1) 0 := fun i => adi hs p h 0 (by omega) i
 have ln : (hs.take p ++ h :: hs.drop p).length = hs.length + 1 := by
  rw [am9, anb, anu, anZ]
  omega
 refine ⟨by omega, ⟨o.mask, ?_, fun i j hij hj => ?_, fun i hi => ?_, by rw [psz, ln, sz], by rw [ln, hm]; exact more, fun i hi => ?_⟩⟩
 ·show (if has t.dummies (pos t.mask h E) = true then _ else t.dummies) = #[]
  rw [o.dum]
  rfl
 ·rw [pl, pl]
  rw [psz] at hj
  by_cases c1 : i < p
  ·rw [if_pos c1]
   by_cases c2 : j < p
   ·rw [if_pos c2]; exact o.rise i j hij (by omega)
   ·rw [if_neg c2]
    by_cases c3 : j = p
    ·rw [if_pos c3]; exact b2 i c1
    ·rw [if_neg c3]; exact o.rise i (j - 1) (by omega) (by omega)
  ·rw [if_neg c1, if_neg (show ¬ j < p by omega)]
   by_cases c3 : i = p
   ·rw [if_pos c3, if_neg (by omega)]; exact b3' (j - 1) (by omega) (by omega)
   ·rw [if_neg c3, if_neg (by omega)]; exact o.rise (i - 1) (j - 1) (by omega) (by omega)
 ·rw [pl, hm]
  rw [psz] at hi
  by_cases c1 : i < p
  ·rw [if_pos c1]; exact o.le i (by omega)
  ·rw [if_neg c1]
   by_cases c3 : i = p
   ·rw [if_pos c3]; exact ach _ _ _
   ·rw [if_neg c3]; exact o.le (i - 1) (by omega)
 ·rw [hl, pl, hm]
  rw [ln] at hi
  by_cases c1 : i < p
  ·rw [if_pos c1, if_pos c1]
   obtain ⟨k, e, a⟩ := o.reach i (by omega)
   exact ⟨k, e, fun k' hk => tk _ (a k' hk)⟩
  ·rw [if_neg c1, if_neg c1]
   by_cases c3 : i = p
   ·rw [if_pos c3, if_pos c3]
    exact ⟨E, rfl, fun k' hk => tk _ (F.ahead k' hk)⟩
   ·rw [if_neg c3, if_neg c3]
    obtain ⟨k, e, a⟩ := o.reach (i - 1) (by omega)
    exact ⟨k, e, fun k' hk => tk _ (a k' hk)⟩
end
def Occ (ow : Array (Option Nat)) (j : Nat) : Prop := ow.getD j (some 0) ≠ none
theorem afg {mask : Nat} {ow : Array (Option Nat)} {h : Int} : ∀ f r k, At mask h k r 0 -> (∃ r', r <= r' /\ r' < r + f /\ ¬ Occ ow (lp mask h r').1) ->
  ∃ E, k <= E /\ (∀ q, k <= q -> q < E -> Occ ow (pos mask h q)) /\ ¬ Occ ow (pos mask h E) /\ layClean.free mask ow f (lp mask h r).1 (lp mask h r).2 = some (pos mask h E)
 | 0, r, k, a, ⟨r', h1, h2, _⟩ => by omega
 | f + 1, r, k, a, ⟨r', h1, h2, h3⟩ => by
  have re := vI mask _ (ade mask h r)
  have at_ : ∀ d, d <= runEnd mask (lp mask h r).1 - (lp mask h r).1 -> pos mask h (k + d) = (lp mask h r).1 + d := fun d hd => by
   have := (acg a d hd).2
   unfold pos
   rw [this]
  unfold layClean.free
  cases hf : (am8 (runEnd mask (lp mask h r).1 + 1 - (lp mask h r).1)).find? fun k => (ow.getD ((lp mask h r).1 + k) (some 0)).isNone with
  | some d =>
   have hm := List.mem_of_find?_eq_some hf
   have hd := ans.mp hm
   have hs := List.find?_some hf
   have bef : ∀ d', d' < d -> ¬ (ow.getD ((lp mask h r).1 + d') (some 0)).isNone = true := fun d' hd' => by
    obtain ⟨_, as, bs, e, al⟩ := List.find?_eq_some_iff_append.mp hf
    have : as = am8 d := by
     have l1 : (am8 (runEnd mask (lp mask h r).1 + 1 - (lp mask h r).1))[as.length]? = some d := by
      rw [e, am7 (amV _), aoY]
      rfl
     have lt : as.length < runEnd mask (lp mask h r).1 + 1 - (lp mask h r).1 := by
      have := congrArg List.length e
      simp at this
      omega
     rw [aog lt] at l1
     have el : as.length = d := Option.some.inj l1
     have : as = (am8 (runEnd mask (lp mask h r).1 + 1 - (lp mask h r).1)).take as.length := by
      rw [e, List.take_append_of_le_length (amV _), anS]
     rw [this, List.take_range, Nat.min_eq_left (by omega), el]
    have al2 := al d' (by rw [this]; exact ans.mpr hd')
    intro z
    have z2 : (!(ow.getD ((lp mask h r).1 + d') (some 0)).isNone) = true := al2
    rw [z] at z2
    cases z2
   refine ⟨k + d, by omega, fun q hq1 hq2 => ?_, ?_, ?_⟩
   ·have := bef (q - k) (by omega)
    rw [show q = k + (q - k) by omega, at_ (q - k) (by omega)]
    intro z
    rw [z] at this
    exact this rfl
   ·rw [at_ d (by omega)]
    intro z
    have hs' : (ow.getD ((lp mask h r).1 + d) (some 0)).isNone = true := hs
    exact z (Option.isNone_iff_eq_none.mp hs')
   ·rw [at_ d (by omega)]
  | none =>
   have all : ∀ d, d < runEnd mask (lp mask h r).1 + 1 - (lp mask h r).1 -> Occ ow ((lp mask h r).1 + d) := fun d hd z => by
    have := List.find?_eq_none.mp hf d (ans.mpr hd)
    simp [z] at this
   have ne : r' ≠ r := fun z => by
    rw [z] at h3
    exact h3 (by have := all 0 (by omega); rwa [Nat.add_zero] at this)
   have a2 := acf (acg a _ (amV _)) rfl
   obtain ⟨E, e1, e2, e3, e4⟩ := afg f (r + 1) _ a2 ⟨r', by omega, by omega, h3⟩
   refine ⟨E, by omega, fun q hq1 hq2 => ?_, e3, e4⟩
   by_cases hq : q < k + (runEnd mask (lp mask h r).1 - (lp mask h r).1) + 1
   ·rw [show q = k + (q - k) by omega, at_ (q - k) (by omega)]
    exact all _ (by omega)
   ·exact e2 q (by omega) hq2
end L2.ST
end
section
namespace L2.ST
open PySem PySem.SetTable
structure OwnT (mask : Nat) (ow : Array (Option Nat)) (hs : List Int) (sl : List Nat) : Prop where
 size : ow.size = mask + 1
 len : sl.length = hs.length
 nd : sl.Nodup
 le : ∀ j ∈ sl, j <= mask
 own : ∀ j, j <= mask -> ∀ i, ow.getD j none = some i ↔ sl[i]? = some j
 reach : ∀ i, i < hs.length -> ∃ q, pos mask (hs.getD i 0) q = sl.getD i 0 /\ ∀ q', q' < q -> pos mask (hs.getD i 0) q' ∈ sl
theorem OwnT.occ {mask : Nat} {ow : Array (Option Nat)} {hs : List Int} {sl : List Nat} (o : OwnT mask ow hs sl) {j : Nat} (hj : j <= mask) : Occ ow j ↔ j ∈ sl := by
 have hs' : j < ow.size := by rw [o.size]; omega
 have e : ow.getD j (some 0) = ow.getD j none := by simp [aoM, hs']
 unfold Occ
 rw [e]
 constructor
 ·intro h
  obtain ⟨i, hi⟩ := Option.ne_none_iff_exists'.mp h
  exact ana ((o.own j hj i).mp hi)
 ·intro h z
  obtain ⟨i, hi, e2⟩ := aoJ h
  have := (o.own j hj i).mpr (by rw [amP hi, e2])
  rw [z] at this
  cases this
def afh (mask : Nat) : Option (Array (Option Nat) × Nat) -> Int -> Option (Array (Option Nat) × Nat) := fun acc h => do
  let (owner, k) <- acc
  let j <- layClean.free mask owner (turns mask) (bits h % (mask + 1)) (bits h)
  pure (owner.setIfInBounds j (some k), k + 1)
theorem ahE {mask : Nat} (g : ji (mask + 1) = true) {ow : Array (Option Nat)} {hs : List Int} {sl : List Nat} (o : OwnT mask ow hs sl) (hm : hs.length <= mask) (h : Int) :
  ∃ ow' sl', afh mask (some (ow, hs.length)) h = some (ow', hs.length + 1) /\ OwnT mask ow' (hs ++ [h]) sl' := by
 obtain ⟨j, hj, nj⟩ : ∃ j, j <= mask /\ j ∉ sl := by
  refine aoh fun no => ?_
  have sub : am8 (mask + 1) ⊆ sl := fun j hj => aoh fun z => no ⟨j, apI.mp (ans.mp hj), z⟩
  have := List.Nodup.length_le_of_subset aqd sub
  rw [anO, o.len] at this
  omega
 obtain ⟨r, hr, e⟩ := afe g (i := (lp mask h 13).1) (j := j) (apl (ade mask h 13)) (apl hj)
 obtain ⟨E, _, e2, e3, e4⟩ := afg (ow := ow) (turns mask) 0 0 (ace mask h) ⟨13 + r, anA _, by unfold turns; omega, by rw [aea, e, o.occ hj]; exact nj⟩
 have e3' : pos mask h E ∉ sl := fun z => e3 ((o.occ (ach mask h E)).mpr z)
 have e2' : ∀ q, q < E -> pos mask h q ∈ sl := fun q hq => (o.occ (ach mask h q)).mp (e2 q (anA _) hq)
 have e4' : layClean.free mask ow (turns mask) (bits h % (mask + 1)) (bits h) = some (pos mask h E) := e4
 refine ⟨ow.setIfInBounds (pos mask h E) (some hs.length), sl ++ [pos mask h E], ?_, ?_⟩
 ·show (layClean.free mask ow (turns mask) (bits h % (mask + 1)) (bits h) >>= fun j => pure (ow.setIfInBounds j (some hs.length), hs.length + 1)) = _
  rw [e4']
  rfl
 ·have ls : ∀ i, (sl ++ [pos mask h E])[i]? = if i < sl.length then sl[i]? else if i = sl.length then some (pos mask h E) else none := fun i => by
   by_cases c : i < sl.length
   ·rw [if_pos c, am3 c]
   ·rw [if_neg c, am7 (by omega)]
    by_cases c2 : i = sl.length
    ·rw [if_pos c2, c2, aoY]; rfl
    ·rw [if_neg c2]; exact anj (by simp; omega)
  refine ⟨by rw [Array.size_setIfInBounds]; exact o.size, by simp [o.len], ?_, fun j hj => ?_, fun j hj i => ?_, fun i hi => ?_⟩
  ·rw [aoQ]
   refine ⟨o.nd, by simp, fun a ha b hb => ?_⟩
   rw [anp.mp hb]
   intro z
   rw [z] at ha
   exact e3' ha
  ·rcases anF.mp hj with hj | hj
   ·exact o.le j hj
   ·rw [anp.mp hj]; exact ach _ _ _
  ·have hsz : j < ow.size := by rw [o.size]; omega
   rw [ls]
   by_cases c : j = pos mask h E
   ·subst c
    have : (ow.setIfInBounds (pos mask h E) (some hs.length)).getD (pos mask h E) none = some hs.length := by simp [aoM, hsz]
    rw [this]
    constructor
    ·intro z
     have z' : hs.length = i := Option.some.inj z
     rw [if_neg (by rw [o.len]; omega), if_pos (by rw [o.len]; omega)]
    ·intro z
     by_cases c2 : i < sl.length
     ·rw [if_pos c2] at z
      exact absurd (ana z) e3'
     ·rw [if_neg c2] at z
      by_cases c3 : i = sl.length
      ·rw [c3, o.len]
      ·rw [if_neg c3] at z; cases z
   ·have : (ow.setIfInBounds (pos mask h E) (some hs.length)).getD j none = ow.getD j none := by
     rw [aov, aov, apt (anU c)]
    rw [this, o.own j hj i]
    by_cases c2 : i < sl.length
    ·rw [if_pos c2]
    ·rw [if_neg c2]
     constructor
     ·intro z
      rw [anj (by omega)] at z
      cases z
     ·intro z
      by_cases c3 : i = sl.length
      ·rw [if_pos c3] at z
       exact absurd (Option.some.inj z).symm c
      ·rw [if_neg c3] at z; cases z
  ·have gl : ∀ i, (hs ++ [h]).getD i 0 = if i < hs.length then hs.getD i 0 else if i = hs.length then h else 0 := fun i => by
    by_cases c : i < hs.length
    ·rw [if_pos c, amS, am3 c, amS]
    ·rw [if_neg c, amS, am7 (by omega)]
     by_cases c2 : i = hs.length
     ·rw [if_pos c2, c2, aoY]; rfl
     ·rw [if_neg c2, anj (by simp; omega)]; rfl
   rw [am9, anD] at hi
   have gs : (sl ++ [pos mask h E]).getD i 0 = ((sl ++ [pos mask h E])[i]?).getD 0 := amS ..
   rw [gl, gs, ls]
   by_cases c : i < hs.length
   ·rw [if_pos c, if_pos (by rw [o.len]; exact c)]
    obtain ⟨q, a, b⟩ := o.reach i c
    exact ⟨q, by rw [<- amS]; exact a, fun q' hq => anQ _ (b q' hq)⟩
   ·rw [if_neg c, if_pos (by omega), if_neg (by rw [o.len]; omega), if_pos (by rw [o.len]; omega)]
    exact ⟨E, rfl, fun q' hq => anQ _ (e2' q' hq)⟩
theorem afi {mask : Nat} (g : ji (mask + 1) = true) : ∀ (l : List Int) (ow : Array (Option Nat)) (hs : List Int) (sl : List Nat), OwnT mask ow hs sl -> hs.length + l.length <= mask + 1 ->
  ∃ ow' sl', l.foldl (afh mask) (some (ow, hs.length)) = some (ow', hs.length + l.length) /\ OwnT mask ow' (hs ++ l) sl'
 | [], ow, hs, sl, o, _ => ⟨ow, sl, rfl, by rw [anG]; exact o⟩
 | h :: l, ow, hs, sl, o, hm => by
  rw [anb] at hm
  obtain ⟨ow1, sl1, e1, o1⟩ := ahE g o (by omega) h
  obtain ⟨ow2, sl2, e2, o2⟩ := afi g l ow1 (hs ++ [h]) sl1 o1 (by rw [am9, anD]; omega)
  refine ⟨ow2, sl2, ?_, by rw [apm] at o2; exact o2⟩
  rw [List.foldl_cons, e1]
  rw [am9, anD] at e2
  rw [e2, anb, ap4, Nat.add_comm 1]
theorem ajl (mask : Nat) : OwnT mask (apK (mask + 1) none) [] [] where
 size := by simp
 len := rfl
 nd := .nil
 le := fun _ h => nomatch h
 own := fun j hj i => by
  have : (apK (mask + 1) (none : Option Nat)).getD j none = none := by simp [aoM]
  rw [this]
  constructor <;> intro z <;> cases z
 reach := fun i hi => absurd hi (aop _)
theorem ahF {mask : Nat} (g : ji (mask + 1) = true) (hs : Array Int) (hm : hs.size <= mask + 1) : ∃ ow sl, layClean mask hs = some ow /\ OwnT mask ow hs.toList sl := by
 obtain ⟨ow, sl, e, o⟩ := afi g hs.toList _ [] [] (ajl mask) (by simpa using hm)
 refine ⟨ow, sl, ?_, by simpa using o⟩
 unfold layClean
 rw [<- Array.foldl_toList]
 have : hs.toList.foldl (afh mask) (some (apK (mask + 1) none, 0)) = some (ow, 0 + hs.toList.length) := e
 show Option.map _ (hs.toList.foldl (afh mask) (some (apK (mask + 1) none, 0))) = _
 rw [this]
 rfl
theorem laid_ok {mask : Nat} (mk : mask = 7 \/ mask = 31 \/ mask = 127 \/ mask = 511) (hs : Array Int) (hm : hs.size <= mask) (finger moves : Nat) (led plain : Bool) :
  ∃ t ord, laid mask finger moves led plain hs = some (t, ord) /\ t.mask = mask /\ t.plain = plain /\ t.led = led /\ ord.toList.Perm (am8 hs.size) /\ TB t (ord.toList.map fun i => hs.toList.getD i 0) := by
 have g : ji (mask + 1) = true := by
  rcases mk with rfl | rfl | rfl | rfl
  ·exact afd
  ·exact adg
  ·exact abA
  ·exact abB
 obtain ⟨ow, sl, e, o⟩ := ahF g hs (by omega)
 let live := (am8 (mask + 1)).filterMap fun j => (ow.getD j none).map (j, ·)
 have mem : ∀ p : Nat × Nat, p ∈ live ↔ p.1 <= mask /\ sl[p.2]? = some p.1 := fun ⟨j, i⟩ => by
  show (j, i) ∈ List.filterMap _ _ ↔ _
  rw [apa]
  constructor
  ·rintro ⟨j', hj, e⟩
   have hj' := apI.mp (ans.mp hj)
   cases e2 : ow.getD j' none with
   | none => rw [e2] at e; cases e
   | some i' =>
    rw [e2] at e
    cases e
    exact ⟨hj', (o.own _ hj' _).mp e2⟩
  ·rintro ⟨h1, h2⟩
   refine ⟨j, ans.mpr (by omega), ?_⟩
   rw [(o.own j h1 i).mpr h2]
   rfl
 have up : (live.map (·.1)).Pairwise (· < ·) := by
  rw [aoG]
  show (List.filterMap _ _).Pairwise _
  rw [List.pairwise_filterMap]
  refine List.pairwise_lt_range.imp fun {a b} hab p hp q hq => ?_
  cases e1 : ow.getD a none with
  | none => rw [e1] at hp; cases hp
  | some i =>
   cases e2 : ow.getD b none with
   | none => rw [e2] at hq; cases hq
   | some i2 =>
    rw [e1] at hp
    rw [e2] at hq
    cases hp
    cases hq
    exact hab
 have nd2 : (live.map (·.2)).Nodup := by
  show List.Pairwise _ _
  rw [aoG]
  have u2 := aoG.mp up
  refine u2.imp_of_mem fun {p q} hp hq hlt hz => ?_
  have a1 := ((mem p).mp hp).2
  have a2 := ((mem q).mp hq).2
  rw [hz, a2] at a1
  have := Option.some.inj a1
  omega
 have pm : (live.map (·.2)).Perm (am8 hs.size) := by
  refine (List.perm_ext_iff_of_nodup nd2 aqd).mpr fun i => ?_
  have ls : sl.length = hs.size := by rw [o.len, am5]
  constructor
  ·intro hi
   obtain ⟨p, hp, rfl⟩ := ant.mp hi
   have := (amU.mp ((mem p).mp hp).2).1
   exact ans.mpr (by omega)
  ·intro hi
   have hi' := ans.mp hi
   have hl : i < sl.length := by omega
   exact ant.mpr ⟨(sl[i], i), (mem _).mpr ⟨o.le _ (ani hl), amP hl⟩, rfl⟩
 refine ⟨_, _, by unfold laid; rw [e]; rfl, rfl, rfl, rfl, pm, ?_⟩
 have ln : live.length = hs.size := by have := pm.length_eq; rwa [amT, anO] at this
 have tk : ∀ j, j ∈ sl -> ∃ i, i < live.length /\ (live.map (·.1)).getD i 0 = j := fun j hj => by
  obtain ⟨i, hi, e2⟩ := aoJ hj
  have : (j, i) ∈ live := (mem _).mpr ⟨o.le j hj, by rw [amP hi, e2]⟩
  obtain ⟨q, hq, e3⟩ := aoJ this
  exact ⟨q, hq, by rw [amS, am1, amP hq, e3]; rfl⟩
 have gd : ∀ i, (live.map (·.1)).toArray.getD i 0 = (live.map (·.1)).getD i 0 := fun i => by rw [vk]
 refine ⟨mk, rfl, fun i j hij hj => ?_, fun i hi => ?_, ?_, ?_, fun i hi => ?_⟩
 ·show (live.map (·.1)).toArray.getD i 0 < (live.map (·.1)).toArray.getD j 0
  have hj' : j < (live.map (·.1)).length := by
   have h2 : j < (live.map (·.1)).toArray.size := hj
   rwa [am4] at h2
  rw [gd, gd, amS, amS, amP hj', amP (show i < (live.map (·.1)).length by omega)]
  exact aoB.mp up i j (by omega) hj' hij
 ·show (live.map (·.1)).toArray.getD i 0 <= mask
  have hi' : i < (live.map (·.1)).length := by
   have h2 : i < (live.map (·.1)).toArray.size := hi
   rwa [am4] at h2
  rw [gd, amS, amP hi']
  obtain ⟨p, hp, e2⟩ := ant.mp (ani hi')
  show (live.map (·.1))[i] <= mask
  rw [<- e2]
  exact ((mem p).mp hp).1
 ·show (live.map (·.1)).toArray.size = _
  simp
 ·show (aqe _ (live.map (·.2))).length <= mask
  rw [amT, amT, ln]
  exact hm
 ·have hi' : i < live.length := by
   have hi2 : i < (aqe (fun i => hs.toList.getD i 0) (live.map (·.2))).length := hi
   rwa [amT, amT] at hi2
  have pl : (live.map (·.1)).toArray.getD i 0 = live[i].1 := by
   rw [gd, amS, am1, amP hi']
   rfl
  have hh : (aqe (fun i => hs.toList.getD i 0) (live.map (·.2))).getD i 0 = hs.toList.getD live[i].2 0 := by
   rw [amS, am1, am1, amP hi']
   rfl
  have m2 := (mem live[i]).mp (ani hi')
  have l2 := (amU.mp m2.2).1
  obtain ⟨q, a, b⟩ := o.reach live[i].2 (by rw [<- o.len]; exact l2)
  refine ⟨q, ?_, fun q' hq => ?_⟩
  ·show pos mask ((aqe (fun i => hs.toList.getD i 0) (live.map (·.2))).getD i 0) q = (live.map (·.1)).toArray.getD i 0
   rw [hh, pl, a, amS, m2.2]
   rfl
  ·show Tk _ (pos mask ((aqe (fun i => hs.toList.getD i 0) (live.map (·.2))).getD i 0) q')
   rw [hh]
   obtain ⟨z, hz, ez⟩ := tk _ (b q' hq)
   exact ⟨z, by show z < (live.map (·.1)).toArray.size; simpa using hz, by show (live.map (·.1)).toArray.getD z 0 = _; rw [gd]; exact ez⟩
end L2.ST
end
section
namespace L2
open PySem PySem.Spec PyProof.Rows
mutual
def zt (w : World) : PyData -> Int
 | .int i => hashInt i
 | .str x => hashStr w x
 | .tuple xs => reduceHash (aoC (qi w xs))
 | _ => 0
def qi (w : World) : List PyData -> List Int
 | [] => []
 | x :: xs => zt w x :: qi w xs
end
mutual
def zV : PyData -> Nat
 | .int _ => 1
 | .str _ => 1
 | .tuple xs => aaM xs + 1
 | _ => 0
def aaM : List PyData -> Nat
 | [] => 0
 | x :: xs => zV x + aaM xs
end
mutual
theorem aaN {P : Program} {w : World} : ∀ (d : PyData) (A : Around) (s : Shared) (v : Value) (as : List Addr) (E : Value -> Shared -> Prop) (Q : Int -> Shared -> Prop), Reads s.heap v d as -> zw d = true -> A.units + 4 * d.depth < cLine ->
  Q (zt w d) { s with toks := s.toks + zV d } -> wpAny (model P w) A (pyHash v) Q E s
 | .int i, A, s, _, _, E, Q, r, _, _, q => by
  cases r
  rw [zt, zV] at q
  exact wpAny_pyHash_int q
 | .str x, A, s, _, _, E, Q, r, _, _, q => by
  cases r
  rw [zt, zV] at q
  exact wpAny_pyHash_str q
 | .tuple xs, A, s, _, _, E, Q, r, p, hu, q => by
  cases r with
  | @tuple a o vs n _ as h1 h2 h3 h4 =>
   rw [zw] at p
   rw [zt, zV] at q
   have hT : s.TypeIs (.ref a) "tuple" := ⟨o, h1, h2⟩
   have e1 : (PyData.tuple xs).depth = am0 xs + 1 := rfl
   rw [e1] at hu
   show wpAny _ A (pyHashByItsType (.ref a)) Q E s
   unfold pyHashByItsType
   apply wpAny_bind; apply wpAny_cRoomFor_or (.inr (by omega))
   apply wpAny_bind; apply wpAny_specialOf hT aon.lookup
   show wpAny _ _ (if (some (Value.builtin "tuple.__hash__") == some Value.none) = true then _ else _) Q E s
   rw [if_neg (by rw [beq_builtin_none]; exact amQ)]
   apply wpAny_bind; apply wpAny_specialOf hT aon.lookup
   show wpAny _ _ (callSpecialIfBoundUnlessNone? (.ref a) "__hash__" _ >>= _) Q E s
   apply wpAny_bind
   refine wpAny_callSpecialIfBoundUnlessNone?_slot hT aon (wpAny_call_entry aon hT PySem.F.entry_tuple_hash ?_ (PySem.F.args_tuple_hash_1 _))
   show wpAny _ _ (Builtin.Tuple.tupleItemsOf (.ref a) >>= _) _ _ s
   apply wpAny_bind; apply wpAny_tupleItemsOf h1 h3
   apply wpAny_bind
   rw [<- apc]
   have hu1 : A.in1.units = A.units + 1 := rfl
   refine aaO xs A.in1 s vs.toList _ #[] _ _ h4 p (by omega) ?_
   simp only [anG, List.nil_append]
   show wpAny _ _ (retInt (aoC (#[] ++ (qi w xs).toArray).toList)) _ _ _
   rw [show (#[] ++ (qi w xs).toArray : Array Int).toList = qi w xs by simp]
   refine wpAny_ret_mkInt ?_
   show wpAny _ _ (pyHashByItsType.reduced _) Q E _
   unfold reduceHash at q
   unfold pyHashByItsType.reduced
   by_cases hr : (decide (-(2 : Int) ^ 63 <= aoC (qi w xs)) && decide (aoC (qi w xs) < 2 ^ 63)) = true
   ·rw [if_pos hr] at q ⊢
    exact wpAny_pure (by simpa [ap4] using q)
   ·rw [if_neg hr] at q ⊢
    exact wpAny_bind (wpAny_rule (wpAny_pure (by simpa [ap4] using q)))
 | .none, _, _, _, _, _, _, _, h, _, _ => by cases h
 | .bool _, _, _, _, _, _, _, _, h, _, _ => by cases h
 | .list _, _, _, _, _, _, _, _, h, _, _ => by cases h
 | .dict _, _, _, _, _, _, _, _, h, _, _ => by cases h
theorem aaO {P : Program} {w : World} : ∀ (xs : List PyData) (A : Around) (s : Shared) (vs : List Value) (as : List Addr) (acc : Array Int) (E : Value -> Shared -> Prop) (Q : Array Int -> Shared -> Prop), ReadsAll s.heap vs xs as -> zC xs = true -> A.units + 4 * am0 xs < cLine ->
  Q (acc ++ (qi w xs).toArray) { s with toks := s.toks + aaM xs } -> wpAny (model P w) A (forIn vs acc fun x r => do
   let h <- pyHash x
   pure (ForInStep.yield (r.push h))) Q E s
 | [], A, s, _, _, acc, E, Q, r, _, _, q => by
  cases r
  rw [aph]
  rw [qi, aaM] at q
  exact wpAny_pure (by simpa using q)
 | x :: xs, A, s, _, _, acc, E, Q, r, p, hu, q => by
  cases r with
  | cons r1 r2 =>
   rw [zC, amX] at p
   rw [qi, aaM] at q
   have e1 : am0 (x :: xs) = max x.depth (am0 xs) := rfl
   rw [e1] at hu
   rw [ao8]
   apply wpAny_bind; apply wpAny_bind
   refine aaN x A s _ _ _ _ r1 p.1 (by omega) (wpAny_pure ?_)
   refine aaO xs A { s with toks := s.toks + zV x } _ _ _ _ _ r2 p.2 (by omega) ?_
   have e2 : acc.push (zt w x) ++ (qi w xs).toArray = acc ++ (zt w x :: qi w xs).toArray := by simp
   rw [e2]
   rw [<- ap4] at q
   exact q
end
mutual
theorem jr {P : Program} {w : World} : ∀ (d : PyData) (n : Nat) (A : Around) (s : Shared) (v : Value) (as : List Addr) (E : Value -> Shared -> Prop) (Q : Bool -> Shared -> Prop), Reads s.heap v d as -> zw d = true -> d.depth <= n -> Q true s -> wpAny (model P w) A (eqIsQuiet n v) Q E s
 | .int i, n, A, s, _, _, E, Q, r, _, _, q => by
  cases r
  rw [eqIsQuiet_byValue n rfl]
  exact wpAny_pure q
 | .str x, n, A, s, _, _, E, Q, r, _, _, q => by
  cases r
  rw [eqIsQuiet_byValue n rfl]
  exact wpAny_pure q
 | .tuple xs, n, A, s, _, _, E, Q, r, p, hn, q => by
  cases r with
  | @tuple a o vs n' _ as h1 h2 h3 h4 =>
   rw [zw] at p
   have e1 : (PyData.tuple xs).depth = am0 xs + 1 := rfl
   rw [e1] at hn
   obtain ⟨m, rfl⟩ : ∃ m, n = m + 1 := ⟨n - 1, by omega⟩
   have hT : s.TypeIs (.ref a) "tuple" := ⟨o, h1, h2⟩
   unfold eqIsQuiet
   apply wpAny_bind; apply wpAny_specialOf hT PySem.F.slot_tuple_eq.lookup
   show wpAny _ _ (isInstance (.ref a) (.type "tuple") >>= _) _ _ s
   apply wpAny_bind; apply wpAny_isInstance hT isSubtype_tuple_tuple
   simp only [anB, anw, if_false]
   apply wpAny_bind; apply wpAny_seqItems h1 h3
   apply wpAny_bind
   show wpAny _ _ (forIn vs _ _) _ _ s
   rw [<- apc]
   exact vV xs m A s _ _ _ _ h4 p (by omega) (wpAny_pure q)
 | .none, _, _, _, _, _, _, _, _, h, _, _ => by cases h
 | .bool _, _, _, _, _, _, _, _, _, h, _, _ => by cases h
 | .list _, _, _, _, _, _, _, _, _, h, _, _ => by cases h
 | .dict _, _, _, _, _, _, _, _, _, h, _, _ => by cases h
theorem vV {P : Program} {w : World} : ∀ (xs : List PyData) (m : Nat) (A : Around) (s : Shared) (vs : List Value) (as : List Addr) (E : Value -> Shared -> Prop) (Q : Option Bool × Unit -> Shared -> Prop), ReadsAll s.heap vs xs as -> zC xs = true -> am0 xs <= m -> Q (none, ()) s ->
  wpAny (model P w) A (forIn vs ((none, ()) : Option Bool × Unit) fun y _ => do
   let b <- eqIsQuiet m y
   if (!b) = true then pure (ForInStep.done (some false, ())) else pure (ForInStep.yield (none, ()))) Q E s
 | [], m, A, s, _, _, E, Q, r, _, _, q => by
  cases r
  rw [aph]
  exact wpAny_pure q
 | x :: xs, m, A, s, _, _, E, Q, r, p, hn, q => by
  cases r with
  | cons r1 r2 =>
   rw [zC, amX] at p
   have e1 : am0 (x :: xs) = max x.depth (am0 xs) := rfl
   rw [e1] at hn
   rw [ao8]
   apply wpAny_bind; apply wpAny_bind
   refine jr x m A s _ _ _ _ r1 p.1 (by omega) ?_
   simp only [anB, anw, if_false]
   exact wpAny_pure (vV xs m A s _ _ _ _ r2 p.2 (by omega) q)
end
mutual
theorem vJ {P : Program} {w : World} : ∀ (d : PyData) (n : Nat) (A : Around) (s : Shared) (v : Value) (as : List Addr) (E : Value -> Shared -> Prop) (Q : Bool -> Shared -> Prop), Reads s.heap v d as -> zw d = true -> d.depth <= n -> Q false s -> wpAny (model P w) A (ofAClassStatement n v) Q E s
 | .int i, n, A, s, _, _, E, Q, r, _, _, q => by
  cases r
  unfold ofAClassStatement
  exact wpAny_pure q
 | .str x, n, A, s, _, _, E, Q, r, _, _, q => by
  cases r
  unfold ofAClassStatement
  exact wpAny_pure q
 | .tuple xs, n, A, s, _, _, E, Q, r, p, hn, q => by
  cases r with
  | @tuple a o vs n' _ as h1 h2 h3 h4 =>
   rw [zw] at p
   have e1 : (PyData.tuple xs).depth = am0 xs + 1 := rfl
   rw [e1] at hn
   obtain ⟨m, rfl⟩ : ∃ m, n = m + 1 := ⟨n - 1, by omega⟩
   have hT : s.TypeIs (.ref a) "tuple" := ⟨o, h1, h2⟩
   unfold ofAClassStatement
   apply wpAny_bind; apply wpAny_typeOf hT
   dsimp only
   rw [if_pos (show ("tuple" == "tuple") = true from rfl)]
   apply wpAny_bind; apply wpAny_pure
   simp only [anB, anw, if_false]
   apply wpAny_bind; apply wpAny_seqItems h1 h3
   dsimp only
   apply wpAny_bind
   rw [<- apc]
   exact abC xs m A s _ _ _ _ h4 p (by omega) (wpAny_pure q)
 | .none, _, _, _, _, _, _, _, _, h, _, _ => by cases h
 | .bool _, _, _, _, _, _, _, _, _, h, _, _ => by cases h
 | .list _, _, _, _, _, _, _, _, _, h, _, _ => by cases h
 | .dict _, _, _, _, _, _, _, _, _, h, _, _ => by cases h
theorem abC {P : Program} {w : World} : ∀ (xs : List PyData) (m : Nat) (A : Around) (s : Shared) (vs : List Value) (as : List Addr) (E : Value -> Shared -> Prop) (Q : Option Bool × Unit -> Shared -> Prop), ReadsAll s.heap vs xs as -> zC xs = true -> am0 xs <= m -> Q (none, ()) s ->
  wpAny (model P w) A (forIn vs ((none, ()) : Option Bool × Unit) fun y _ => do
   let b <- ofAClassStatement m y
   if b = true then pure (ForInStep.done (some true, ())) else pure (ForInStep.yield (none, ()))) Q E s
 | [], m, A, s, _, _, E, Q, r, _, _, q => by
  cases r
  rw [aph]
  exact wpAny_pure q
 | x :: xs, m, A, s, _, _, E, Q, r, p, hn, q => by
  cases r with
  | cons r1 r2 =>
   rw [zC, amX] at p
   have e1 : am0 (x :: xs) = max x.depth (am0 xs) := rfl
   rw [e1] at hn
   rw [ao8]
   apply wpAny_bind; apply wpAny_bind
   refine vJ x m A s _ _ _ _ r1 p.1 (by omega) ?_
   simp only [anw, if_false]
   exact wpAny_pure (abC xs m A s _ _ _ _ r2 p.2 (by omega) q)
end
mutual
theorem vW {P : Program} {w : World} : ∀ (d : PyData) (n : Nat) (A : Around) (s : Shared) (v : Value) (as : List Addr) (E : Value -> Shared -> Prop) (Q : Bool -> Shared -> Prop), Reads s.heap v d as -> zw d = true -> (∀ b, Q b s) -> wpAny (model P w) A (hashByValue n v) Q E s
 | .int i, n, A, s, _, _, E, Q, r, _, q => by
  cases r
  unfold hashByValue
  exact wpAny_pure (q _)
 | .str x, n, A, s, _, _, E, Q, r, _, q => by
  cases r
  unfold hashByValue
  exact wpAny_pure (q _)
 | .tuple xs, n, A, s, _, _, E, Q, r, p, q => by
  cases r with
  | @tuple a o vs n' _ as h1 h2 h3 h4 =>
   rw [zw] at p
   have hT : s.TypeIs (.ref a) "tuple" := ⟨o, h1, h2⟩
   cases n with
   | zero =>
    unfold hashByValue
    exact wpAny_pure (q _)
   | succ m =>
    unfold hashByValue
    apply wpAny_bind; apply wpAny_specialOf hT aon.lookup
    show wpAny _ _ (seqItems? (.ref a) >>= _) _ _ s
    apply wpAny_bind; apply wpAny_seqItems h1 h3
    apply wpAny_bind
    show wpAny _ _ (forIn vs _ _) _ _ s
    rw [<- apc]
    exact vX xs m A s _ _ _ _ h4 p (wpAny_pure (q _)) fun b => wpAny_pure (q b)
 | .none, _, _, _, _, _, _, _, _, h, _ => by cases h
 | .bool _, _, _, _, _, _, _, _, _, h, _ => by cases h
 | .list _, _, _, _, _, _, _, _, _, h, _ => by cases h
 | .dict _, _, _, _, _, _, _, _, _, h, _ => by cases h
theorem vX {P : Program} {w : World} : ∀ (xs : List PyData) (m : Nat) (A : Around) (s : Shared) (vs : List Value) (as : List Addr) (E : Value -> Shared -> Prop) (Q : Option Bool × Unit -> Shared -> Prop), ReadsAll s.heap vs xs as -> zC xs = true -> Q (none, ()) s -> (∀ b, Q (some b, ()) s) ->
  wpAny (model P w) A (forIn vs ((none, ()) : Option Bool × Unit) fun y _ => do
   let b <- hashByValue m y
   if (!b) = true then pure (ForInStep.done (some false, ())) else pure (ForInStep.yield (none, ()))) Q E s
 | [], m, A, s, _, _, E, Q, r, _, q, _ => by
  cases r
  rw [aph]
  exact wpAny_pure q
 | x :: xs, m, A, s, _, _, E, Q, r, p, q, q2 => by
  cases r with
  | cons r1 r2 =>
   rw [zC, amX] at p
   rw [ao8]
   apply wpAny_bind; apply wpAny_bind
   refine vW x m A s _ _ _ _ r1 p.1 fun b => ?_
   cases b with
   | true =>
    simp only [anB, anw, if_false]
    exact wpAny_pure (vX xs m A s _ _ _ _ r2 p.2 q q2)
   | false =>
    simp only [apn, if_true]
    exact wpAny_pure (wpAny_pure (q2 false))
end
noncomputable instance decPy : DecidableEq PyData := fun a b => anP _
structure KeyAt (h : Heap) (d : PyData) (a : Addr) : Prop where
 rd : ∃ as, Reads h (.ref a) d as
 pl : zw d = true
 dp : d.depth <= 8
theorem KeyAt.keep {h h' : Heap} {d : PyData} {a : Addr} (x : KeyAt h d a) (k : ∀ b o, h.get? b = some o -> (∀ es ep, o.data ≠ .dict es ep) -> (∀ es ep t, o.data ≠ .set es ep t) -> h'.get? b = some o) : KeyAt h' d a := by
 obtain ⟨⟨as, r⟩, p, q⟩ := x
 refine ⟨?_, p, q⟩
 have go : (∀ (d : PyData) (v : Value) (as : List Addr), Reads h v d as -> zw d = true -> Reads h' v d as) := by
  intro d v as r
  refine Reads.rec (motive_1 := fun v d as _ => zw d = true -> Reads h' v d as) (motive_2 := fun vs ds as _ => zC ds = true -> ReadsAll h' vs ds as) ?_ ?_ ?_ ?_ ?_ ?_ ?_ ?_ ?_ r
  ·intro p; cases p
  ·intro b p; cases p
  ·intro i t p; exact .int i t
  ·intro x t p; exact .str x t
  ·intro a o vs n xs as h1 h2 h3 h4 ih p; cases p
  ·intro a o vs n xs as h1 h2 h3 h4 ih p
   rw [zw] at p
   exact .tuple (k a o h1 (fun es ep z => by rw [h3] at z; cases z) (fun es ep t z => by rw [h3] at z; cases z)) h2 h3 (ih p)
  ·intros; rename_i p; cases p
  ·intro p; exact .nil
  ·intro v vs d ds as bs r rs ih1 ih2 p
   rw [zC, amX] at p
   exact .cons (ih1 p.1) (ih2 p.2)
 exact ⟨as, go d _ as r p⟩
noncomputable def aag (P : Program) (w : World) : HeapKind P w PyData where
 is := KeyAt
 hash := zt w
 draws := zV
 room := fun A => A.units + 40 < cLine
 inj := fun {h a x y} hx hy => by
  obtain ⟨⟨as, r⟩, p, _⟩ := hx
  obtain ⟨⟨bs, r'⟩, p', _⟩ := hy
  exact SeqAt.Reads.unique _ _ _ _ _ (yy x p) r r'
 keeps := fun {h h' k a d o es ep} x ho hd sb => x.keep fun b u hb n1 n2 => by
  have : b ≠ d := fun z => by
   rw [z, ho] at hb
   cases hb
   exact n1 es ep hd
  exact (sb.2 b this).trans hb
 pyHash := fun {A E s k a Q} hu x q => by
  obtain ⟨⟨as, r⟩, p, hd⟩ := x
  exact aaN k A s _ as E Q r p (by omega) q
 eqBool := fun {A E s x y a b Q} hu hx hy q => by
  obtain ⟨⟨as, r⟩, p, hd⟩ := hx
  obtain ⟨⟨bs, r'⟩, p', hd'⟩ := hy
  refine SeqAt.eqAt_reads x y A s _ _ _ _ r r' (yy x p) (yy y p') (by omega) P w E Q ?_
  have : anl x y = decide (x = y) := by
   by_cases e : x = y
   ·rw [decide_eq_true e]; exact (aaf p p').mpr e
   ·rw [decide_eq_false e]
    cases z : anl x y with
    | false => rfl
    | true => exact absurd ((aaf p p').mp z) e
  rw [this]
  exact q
 quiet := fun {A E s k a Q} x q => by
  obtain ⟨⟨as, r⟩, p, hd⟩ := x
  exact jr k 8 A s _ as E Q r p hd q
end L2
end
section
namespace L2
open PySem PySem.Spec PyProof.Rows PySem.SetTable
section
variable {P : Program} {w : World} {A : Around} {E : Value -> Shared -> Prop} {s : Shared}
theorem ajm {b : Addr} {d : PyData} {Q : Bool -> Shared -> Prop} (kb : KeyAt s.heap d b) : ∀ l : List Value, (∀ y ∈ l, ∃ d' b', y = .ref b' /\ KeyAt s.heap d' b') -> Q false s -> wpAny (model P w) A (searchCouldBeSeen (.ref b) l) Q E s := by
 intro l hl q
 unfold searchCouldBeSeen
 apply wpAny_bind
 refine wpAny_forIn_list _ (fun rest r s' => r = (none, ()) /\ s' = s /\ ∀ y ∈ rest, y ∈ l) _ ?_ ?_ _ _ ⟨rfl, rfl, fun _ h => h⟩
 ·rintro y rest r s' ⟨rfl, rfl, hm⟩
  obtain ⟨d', b', rfl, kb'⟩ := hl y (hm y am6)
  obtain ⟨⟨as, rd⟩, pd, dd⟩ := id kb
  obtain ⟨⟨bs, rd'⟩, pd', dd'⟩ := id kb'
  have more : ∀ z ∈ rest, z ∈ l := fun z hz => hm z (amY _ hz)
  dsimp only
  split
  ·exact wpAny_pure ⟨rfl, rfl, more⟩
  ·apply wpAny_bind
   refine jr d 8 A _ _ as _ _ rd pd dd ?_
   simp only [anB, anw, if_false]
   apply wpAny_bind
   refine jr d' 8 A _ _ bs _ _ rd' pd' dd' ?_
   simp only [anB, anw, if_false]
   apply wpAny_bind
   refine vJ d 8 A _ _ as _ _ rd pd dd ?_
   simp only [anw, if_false]
   apply wpAny_bind
   refine vJ d' 8 A _ _ bs _ _ rd' pd' dd' ?_
   simp only [anw, if_false]
   exact wpAny_pure ⟨rfl, rfl, more⟩
 ·rintro r s' ⟨rfl, rfl, _⟩
  exact wpAny_pure q
structure SetObj (w : World) (h : Heap) (a : Addr) (xs : List (PyData × Addr)) (o : Obj) (es : Array (Int × Value)) (ep : Nat) (t : SetTable) : Prop where
 ob : h.get? a = some o
 ex : o.ExactSet
 da : o.data = .set es ep t
 el : es.toList = xs.map fun x => (zt w x.1, Value.ref x.2)
 ok : ST.TOk t (xs.map fun x => zt w x.1)
theorem SetObj.size {h : Heap} {a : Addr} {xs : List (PyData × Addr)} {o : Obj} {es : Array (Int × Value)} {ep : Nat} {t : SetTable} (x : SetObj w h a xs o es ep t) : es.size = xs.length := by
 rw [<- am5, x.el, amT]
theorem SetObj.fits {h : Heap} {a : Addr} {xs : List (PyData × Addr)} {o : Obj} {es : Array (Int × Value)} {ep : Nat} {t : SetTable} (x : SetObj w h a xs o es ep t) : t.fits es.size = true := by
 unfold SetTable.fits aqT
 have h1 := x.ok.size
 have h2 := x.ok.most
 rw [amT] at h1 h2
 rw [x.size, h1, x.ok.dum]
 simp
 exact h2
theorem SetObj.at {h : Heap} {a : Addr} {xs : List (PyData × Addr)} {o : Obj} {es : Array (Int × Value)} {ep : Nat} {t : SetTable} (x : SetObj w h a xs o es ep t) {i : Nat} (hi : i < xs.length) : es[i]? = some (zt w xs[i].1, Value.ref xs[i].2) := by
 rw [<- aqs, x.el, am1, amP hi]
 rfl
theorem ahG {t : SetTable} {hs : List Int} (o : ST.TOk t hs) : t.gaveWay = false := by
 unfold SetTable.gaveWay
 rcases o.mask with e | e | e | e <;> rw [e] <;> rfl
theorem ahH {α : Type} {M : Model} {c : Bool} {m : Sem Bool} {u : Sem Unit} {r : Sem α} {Q : α -> Shared -> Prop} (hr : wpAny M A r Q E s) (hm : ∀ R : Bool -> Shared -> Prop, R false s -> wpAny M A m R E s) :
  wpAny M A (if c = true then (do
   let b <- m
   if b = true then do
    u
    r
   else r) else r) Q E s := by
 cases c with
 | false => rw [if_neg amQ]; exact hr
 | true =>
  rw [if_pos rfl]
  apply wpAny_bind
  refine hm _ ?_
  rw [if_neg amQ]
  exact hr
theorem adj {M : Model} {a : Addr} {Q : Bool -> Shared -> Prop} (q : Q true s) : wpAny M A (isSame (.ref a) (.ref a)) Q E s := by
 unfold isSame
 simp only [beq_self_eq_true]
 exact wpAny_pure q
theorem vK {a b : Addr} {d : PyData} {xs : List (PyData × Addr)} {o : Obj} {es : Array (Int × Value)} {ep : Nat} {t : SetTable} {adding : Bool} {Q : SetFound -> Shared -> Prop} (S : SetObj w s.heap a xs o es ep t) (ks : ∀ x ∈ xs, KeyAt s.heap x.1 x.2)
  (kb : KeyAt s.heap d b) (hu : A.units + 40 < cLine) {F : Nat} (hF : ST.First t (zt w d) F) (yes : d ∈ xs.map (·.1) -> ∀ r : Option Nat, (adding = false -> r.isSome = true) -> Q (.there r) s) (no : d ∉ xs.map (·.1) -> Q (.free (ST.pos t.mask (zt w d) F) false) s) :
  ∀ f k stand, k <= F -> F < k + f -> stand.getD (t.probeStart (zt w d)) = ST.road t.mask (zt w d) k ->
   (∀ q i, q < k -> i < xs.length -> ST.pos t.mask (zt w d) q = t.place.getD i 0 -> (xs.getD i (.none, 0)).1 ≠ d) ->
   wpAny (model P w) A (setSearchFrom a (.ref b) (zt w d) adding f stand) Q E s
 | 0, k, stand, h1, h2, _, _ => by omega
 | f + 1, k, stand, h1, h2, hst, past => by
  have sz := S.ok.size
  rw [amT] at sz
  have key : ∀ g : Nat -> Int, (∀ i, g i = (es[i]?.map (·.1)).getD 0) ->
    (t.probe g (zt w d) (ST.road t.mask (zt w d) k) = some (.empty (ST.pos t.mask (zt w d) F) none) /\ ∀ q i, k <= q -> q < F -> i < t.place.size -> ST.pos t.mask (zt w d) q = t.place.getD i 0 -> g i ≠ zt w d) \/
    ∃ q i, k <= q /\ q < F /\ i < t.place.size /\ ST.pos t.mask (zt w d) q = t.place.getD i 0 /\ g i = zt w d /\ t.probe g (zt w d) (ST.road t.mask (zt w d) k) = some (.candidate (ST.pos t.mask (zt w d) q) i (ST.road t.mask (zt w d) (q + 1))) /\ ∀ q' i', k <= q' -> q' < q -> i' < t.place.size -> ST.pos t.mask (zt w d) q' = t.place.getD i' 0 -> g i' ≠ zt w d :=
   fun g _ => ST.probe_go S.ok.dum S.ok.rise hF (10 * turns t.mask) k h1 (by have := hF.lt; omega)
  have gat : ∀ i (hi : i < xs.length), (es[i]?.map (·.1)).getD 0 = zt w xs[i].1 := fun i hi => by rw [S.at hi]; rfl
  unfold setSearchFrom
  apply wpAny_bind
  refine wpAny_setState_of S.ob S.da S.fits ?_
  dsimp only
  rw [ahG S.ok, if_neg amQ, hst]
  have reach : ∀ i (hi : i < xs.length), xs[i].1 = d -> ∃ q, q < F /\ ST.pos t.mask (zt w d) q = t.place.getD i 0 := fun i hi ed => by
   obtain ⟨q, a1, a2⟩ := S.ok.reach i (by rw [amT]; exact hi)
   have eh : (xs.map fun x => zt w x.1).getD i 0 = zt w d := by
    rw [amS, am1, amP hi, <- ed]
    rfl
   rw [eh] at a1 a2
   refine ⟨q, ?_, a1⟩
   by_cases c : q < F
   ·exact c
   ·by_cases c2 : q = F
    ·subst c2
     exact absurd ⟨i, by omega, a1.symm⟩ hF.free
    ·exact absurd (a2 F (by omega)) hF.free
  have ggd : ∀ i (hi : i < xs.length), xs.getD i (.none, 0) = xs[i] := fun i hi => by rw [amS, amP hi]; rfl
  rcases key (fun i => (es[i]?.map (·.1)).getD 0) (fun i => rfl) with ⟨e, none_⟩ | ⟨q, i, q1, q2, q3, q4, q5, e, none_⟩
  ·have ee : ∀ g : Nat -> Int, (∀ i, g i = (es[i]?.map (·.1)).getD 0) -> t.probe g (zt w d) (ST.road t.mask (zt w d) k) = some (.empty (ST.pos t.mask (zt w d) F) none) := fun g hg => by
    rw [show g = fun i => (es[i]?.map (·.1)).getD 0 from funext hg]
    exact e
   rw [ee]
   rotate_left
   ·exact fun i => rfl
   dsimp only
   refine wpAny_pure (no fun hd => ?_)
   obtain ⟨x, hx, ex⟩ := ant.mp hd
   obtain ⟨i, hi, ei⟩ := aoJ hx
   have ed : xs[i].1 = d := by rw [ei]; exact ex
   obtain ⟨q, qF, qp⟩ := reach i hi ed
   by_cases c : q < k
   ·exact past q i c hi qp (by rw [ggd i hi]; exact ed)
   ·exact none_ q i (by omega) qF (by omega) qp (by rw [gat i hi, ed])
  ·have ee : ∀ g : Nat -> Int, (∀ i, g i = (es[i]?.map (·.1)).getD 0) -> t.probe g (zt w d) (ST.road t.mask (zt w d) k) = some (.candidate (ST.pos t.mask (zt w d) q) i (ST.road t.mask (zt w d) (q + 1))) := fun g hg => by
    rw [show g = fun i => (es[i]?.map (·.1)).getD 0 from funext hg]
    exact e
   have hi : i < xs.length := by omega
   have mi : xs[i] ∈ xs := ani hi
   have ki := ks _ mi
   rw [ee]
   rotate_left
   ·exact fun i => rfl
   dsimp only
   refine ahH ?_ fun R hR => ajm kb _ (fun y hy => ?_) hR
   rotate_left
   ·obtain ⟨p, hp, rfl⟩ := ant.mp hy
    have hp2 : p ∈ es.toList := by
     have := apD.mp hp
     exact apD.mpr (Array.mem_filter.mp this).1
    rw [S.el] at hp2
    obtain ⟨x, hx, rfl⟩ := ant.mp hp2
    exact ⟨x.1, x.2, rfl, ks x hx⟩
   rw [S.at hi]
   dsimp only
   apply wpAny_bind; apply wpAny_holding
   refine (aag P w).eqBool (A := A) hu ki kb ?_
   apply wpAny_bind
   refine wpAny_setState_of S.ob S.da S.fits ?_
   dsimp only
   have same : t.sameMemory t.moves t.mask = some true := by
    unfold SetTable.sameMemory
    rw [if_pos (beq_self_eq_true _)]
   have live : t.slot (ST.pos t.mask (zt w d) q) = .live i := by rw [q4]; exact ST.slot_live S.ok.rise q3
   by_cases ed : xs[i].1 = d
   ·have y2 := yes (ant.mpr ⟨_, mi, ed⟩)
    rw [decide_eq_true ed]
    cases adding with
    | true => exact wpAny_pure (y2 _ fun z => nomatch z)
    | false =>
     rw [aoS, if_neg amQ, same]
     dsimp only
     rw [if_pos rfl, live]
     dsimp only
     rw [S.at hi]
     dsimp only
     apply wpAny_bind
     refine adj ?_
     apply wpAny_bind; apply wpAny_pure
     rw [if_pos rfl]
     dsimp only
     rw [if_pos rfl]
     exact wpAny_pure (y2 _ fun _ => rfl)
   ·rw [decide_eq_false ed, apj, if_neg amQ, same]
    dsimp only
    rw [if_pos rfl, live]
    dsimp only
    rw [S.at hi]
    dsimp only
    apply wpAny_bind
    refine adj ?_
    apply wpAny_bind; apply wpAny_pure
    rw [if_pos rfl]
    dsimp only
    rw [if_neg amQ]
    refine vK S ks kb hu hF yes no f (q + 1) _ (by omega) (by omega) rfl fun q' i' c1 c2 c3 => ?_
    rw [ggd i' c2]
    intro z
    by_cases c4 : q' < k
    ·exact past q' i' c4 c2 c3 (by rw [ggd i' c2]; exact z)
    ·by_cases c5 : q' = q
     ·subst c5
      have ii : i' = i := by
       have b1 := ST.below_at S.ok.rise (i := i) (by omega)
       have b2 := ST.below_at S.ok.rise (i := i') (by omega)
       rw [<- q4] at b1
       rw [<- c3] at b2
       omega
      subst ii
      exact ed z
     ·exact none_ q' i' (by omega) (by omega) (by omega) c3 (by rw [gat i' c2, z])
end
end L2
end
section
namespace L2
open PySem PySem.Spec PyProof.Rows PySem.SetTable
section
variable {P : Program} {w : World} {A : Around} {E : Value -> Shared -> Prop} {s : Shared} {a b : Addr} {d : PyData} {xs : List (PyData × Addr)} {o : Obj} {es : Array (Int × Value)} {ep : Nat} {t : SetTable}
theorem SetObj.type (S : SetObj w s.heap a xs o es ep t) : s.TypeIs (.ref a) "set" := ⟨o, S.ob, S.ex.1⟩
theorem afj (b : Addr) (es : Array (Int × Value)) : byScan (.ref b) es = false := rfl
theorem adk {Q : Bool -> Shared -> Prop} (S : SetObj w s.heap a xs o es ep t) (ks : ∀ x ∈ xs, KeyAt s.heap x.1 x.2) (kb : KeyAt s.heap d b) (hu : A.units + 60 < cLine) (q : Q (decide (d ∈ xs.map (·.1))) { s with toks := s.toks + zV d }) :
  wpAny (model P w) A (contains (.ref a) (.ref b)) Q E s := by
 obtain ⟨F, hF⟩ := ST.first_of S.ok.toTB (zt w d)
 have hl := hF.lt
 have ht : turns t.mask <= 526 := by
  unfold turns
  rcases S.ok.mask with e | e | e | e <;> omega
 unfold contains
 try with_reducible refine wpAny_holding ?_
 apply wpAny_bind; apply wpAny_specialOf S.type ao1.lookup
 show wpAny _ _ (if (some (Value.builtin "set.__contains__") == some Value.none) = true then _ else _) _ E s
 rw [if_neg (by rw [beq_builtin_none]; exact amQ)]
 apply wpAny_bind
 refine wpAny_callSpecialUnlessNone?_slot (name := aou "__contains__") S.type ao1 (wpAny_call_entry ao1 S.type entry_set_contains ?_ (PySem.F.args_set_contains_2 _ _))
 unfold Builtin.«frozenset.__contains__» apT
 simp only [List.isEmpty_nil, bind_assoc]
 unfold ap5 Builtin.Frozenset.withSetAsKey setContains
 apply wpAny_bind; apply wpAny_pure
 dsimp only
 apply wpAny_bind; apply wpAny_pure
 dsimp only
 apply wpAny_bind; apply wpAny_tryCatch; apply wpAny_holding
 apply wpAny_bind
 have hu1 : A.in1.units = A.units + 1 := rfl
 have hu2 : A.in1.in1.units = A.units + 1 + 1 := rfl
 refine (aag P w).pyHash (by show _ + 40 < cLine; omega) kb ?_
 apply wpAny_bind
 unfold setFind setFindIn
 apply wpAny_bind
 refine wpAny_setState_of (s := { s with toks := s.toks + zV d }) S.ob S.da S.fits ?_
 dsimp only
 rw [afj, if_neg amQ]
 apply wpAny_bind
 unfold setSearch
 have fin : ∀ r : Option Nat, r.isSome = decide (d ∈ xs.map (·.1)) -> ∀ R : Value -> Shared -> Prop, R (.bool (decide (d ∈ xs.map (·.1)))) { s with toks := s.toks + zV d } -> R (.bool r.isSome) { s with toks := s.toks + zV d } := fun r e R hR => by rw [e]; exact hR
 refine vK (s := { s with toks := s.toks + zV d }) (adding := false) S ks kb (by omega) hF (fun hd r hr => ?_) (fun hd => ?_) 100000 0 none (anA _) (by omega) (ST.road_start t _) (fun q i c => by omega)
 ·refine wpAny_pure (wpAny_pure ?_)
  show wpAny _ _ (ret (Value.bool r.isSome)) _ _ _
  rw [hr rfl]
  rw [decide_eq_true hd] at q
  exact wpAny_pure ⟨_, rfl, wpAny_truthy_bool q⟩
 ·refine wpAny_pure (wpAny_pure ?_)
  show wpAny _ _ (ret (Value.bool false)) _ _ _
  rw [decide_eq_false hd] at q
  exact wpAny_pure ⟨_, rfl, wpAny_truthy_bool q⟩
def afk (es : Array (Int × Value)) (laid : Option (SetTable × Array Nat)) : Sem (Array (Int × Value) × SetTable) := do
 let some (t, order) := laid | unsupported "internal:set-table-without-room"
 let es' := order.filterMap (es[·]?)
 if es'.size != es.size then unsupported "internal:set-table-lost-an-element"
 pure (es', t)
theorem ahI (a : Addr) (wanted : Nat) : setRelay a wanted = (do
  let (es, _, t) <- setState a
  if apU wanted > sizeLine then unsupported "set:memory"
  let (es, t) <- afk es (t.relaid (es.map (·.1)) wanted)
  storeSet a es t) := rfl
theorem qP {α : Type} (es : Array α) : ∀ l : List Nat, (∀ i ∈ l, i < es.size) -> ∀ dflt : α, l.filterMap (fun i => es[i]?) = l.map fun i => es.toList.getD i dflt
 | [], _, _ => rfl
 | i :: l, h, dflt => by
  have hi := h i am6
  rw [aoq, apV hi, anh, qP es l (fun j hj => h j (amY _ hj)) dflt]
  simp [hi]
theorem ahJ {Q : Unit -> Shared -> Prop} {mask wanted : Nat} (S0 : s.heap.get? a = some o) (ex : o.ExactSet) (da : o.data = .set es ep t) (el : es.toList = xs.map fun x => (zt w x.1, Value.ref x.2)) (tb : ST.TB t (xs.map fun x => zt w x.1)) (mk : mask = 31 \/ mask = 127 \/ mask = 511) (hw : apU wanted = mask + 1)
  (room : xs.length * 5 < mask * 3) (q : ∀ xs' o' es' ep' t' h', xs'.Perm xs -> aoL a s.heap h' -> SetObj w h' a xs' o' es' ep' t' -> Q () { s with heap := h' }) : wpAny (model P w) A (setRelay a wanted) Q E s := by
 have sz : es.size = xs.length := by rw [<- am5, el, amT]
 have fits : t.fits es.size = true := by
  unfold SetTable.fits aqT
  have h1 := tb.size
  have h2 := tb.most
  rw [amT] at h1 h2
  rw [sz, h1, tb.dum]
  simp
  exact h2
 have mk2 : mask = 7 \/ mask = 31 \/ mask = 127 \/ mask = 511 := .inr mk
 obtain ⟨t2, ord, e1, e2, _, _, pm, tb2⟩ := ST.laid_ok mk2 (es.map (·.1)) (by rw [aqC, sz]; omega) t.finger (t.movedTo mask) t.led t.plain
 rw [aqC] at pm
 have hlt : ∀ i ∈ ord.toList, i < es.size := fun i hi => ans.mp (pm.mem_iff.mp hi)
 let xs' := ord.toList.map fun i => xs.getD i (.none, 0)
 have px : xs'.Perm xs := by
  have e : (am8 es.size).map (fun i => xs.getD i (.none, 0)) = xs := by
   rw [sz]
   refine apk fun i => ?_
   rw [am1]
   by_cases hi : i < xs.length
   ·rw [aog hi, amP hi]
    simp [hi]
   ·rw [anj (by simp; omega), anj (by omega)]
    rfl
  have := pm.map fun i => xs.getD i (.none, 0)
  rw [e] at this
  exact this
 have ee : (ord.filterMap (es[·]?)).toList = xs'.map fun x => (zt w x.1, Value.ref x.2) := by
  rw [Array.toList_filterMap, qP es ord.toList hlt (0, Value.none), aoO]
  refine ao3 fun i hi => ?_
  have h2 := hlt i hi
  have h3 : i < xs.length := by omega
  rw [el, amS, am1, amP h3]
  show _ = (zt w (xs.getD i (.none, 0)).1, Value.ref (xs.getD i (.none, 0)).2)
  rw [amS, amP h3]
  rfl
 have es_sz : (ord.filterMap (es[·]?)).size = es.size := by
  rw [<- am5, ee, amT, px.length_eq, sz]
 have tok : ST.TOk t2 (xs'.map fun x => zt w x.1) := by
  have eh : (ord.toList.map fun i => (es.map (·.1)).toList.getD i 0) = xs'.map fun x => zt w x.1 := by
   rw [aoO]
   refine ao3 fun i hi => ?_
   have h3 : i < xs.length := by have := hlt i hi; omega
   rw [Array.toList_map, el, aoO, amS, am1, amP h3]
   show zt w xs[i].1 = zt w (xs.getD i (.none, 0)).1
   rw [amS, amP h3]
   rfl
  rw [eh] at tb2
  refine ⟨tb2, ?_⟩
  rw [amT, px.length_eq, e2]
  exact room
 rw [ahI]
 apply wpAny_bind
 refine wpAny_setState_of S0 da fits ?_
 dsimp only
 rw [hw, if_neg (by rw [sizeLine_eq]; omega)]
 have e1' : t.relaid (es.map (·.1)) wanted = some (t2, ord) := by
  unfold SetTable.relaid
  rw [hw]
  exact e1
 unfold afk
 rw [e1']
 apply wpAny_bind
 dsimp only
 rw [es_sz, bne_self_eq_false, if_neg amQ]
 apply wpAny_pure
 dsimp only
 refine wpAny_storeSet_of S0 da ?_ (by rw [es_sz, sz, sizeLine_eq]; omega)
 refine q xs' { o with data := .set (ord.filterMap (es[·]?)) (ep + 1) t2 } (ord.filterMap (es[·]?)) (ep + 1) t2 _ px (aqM _ _ _) ⟨?_, ex, rfl, ee, tok⟩
 have := aoz (aqm (ord.filterMap (es[·]?)) t2) S0 (by rw [putSet_of _ _ da]; rfl)
 rw [putSet_of _ _ da] at this
 exact this
theorem ahK {t : SetTable} {hs : List Int} {p : Bool} (x : ST.TB t hs) : ST.TB { t with plain := p } hs := ⟨x.mask, x.dum, x.rise, x.le, x.size, x.most, x.reach⟩
theorem ajn {Q : Shared -> Prop} (S : SetObj w s.heap a xs o es ep t) (ks : ∀ x ∈ xs, KeyAt s.heap x.1 x.2) (kb : KeyAt s.heap d b) (hu : A.units + 59 < cLine) (few : xs.length < 300)
  (old : d ∈ xs.map (·.1) -> Q { s with toks := s.toks + zV d })
  (new : d ∉ xs.map (·.1) -> ∀ xs' o' es' ep' t' h', xs'.Perm ((d, b) :: xs) -> aoL a s.heap h' -> SetObj w h' a xs' o' es' ep' t' -> Q { s with heap := h', toks := s.toks + zV d }) :
  wpAny (model P w) A (setAdd a (.ref b)) (fun _ s' => Q s') E s := by
 obtain ⟨F, hF⟩ := ST.first_of S.ok.toTB (zt w d)
 have hl := hF.lt
 have ht : turns t.mask <= 526 := by
  unfold turns
  rcases S.ok.mask with e | e | e | e <;> omega
 have room := S.ok.room
 rw [amT] at room
 unfold setAdd
 apply wpAny_holding
 apply wpAny_bind
 refine (aag P w).pyHash (by show _ + 40 < cLine; omega) kb ?_
 show wpAny _ _ (setAddHashed a (.ref b) (zt w d)) _ _ _
 unfold setAddHashed setAddHashedIn
 apply wpAny_holding
 apply wpAny_bind
 refine wpAny_setState_of (s := { s with toks := s.toks + zV d }) S.ob S.da S.fits ?_
 dsimp only
 rw [afj, if_neg amQ]
 apply wpAny_bind
 unfold setSearch
 refine vK (s := { s with toks := s.toks + zV d }) (adding := true) S ks kb (by omega) hF (fun hd r _ => ?_) (fun hd => ?_) 100000 0 none (anA _) (by omega) (ST.road_start t _) (fun q i c => by omega)
 ·exact wpAny_pure (old hd)
 ·dsimp only
  apply wpAny_bind
  refine wpAny_setState_of (s := { s with toks := s.toks + zV d }) S.ob S.da S.fits ?_
  dsimp only
  obtain ⟨hp, tb⟩ := ST.put_tb S.ok.toTB hF (by rw [amT]; rcases S.ok.mask with e | e | e | e <;> rw [e] at room ⊢ <;> omega)
  rw [amT] at hp
  have ep2 : (t.put (ST.pos t.mask (zt w d) F)).2 = below t.place (ST.pos t.mask (zt w d) F) := rfl
  rw [ep2]
  generalize below t.place (ST.pos t.mask (zt w d) F) = p at *
  have pm : (xs.take p ++ (d, b) :: xs.drop p).Perm ((d, b) :: xs) := by
   refine List.perm_middle.trans ?_
   rw [apv]
  have el : (insertAt es p (zt w d, Value.ref b)).toList = (xs.take p ++ (d, b) :: xs.drop p).map fun x => (zt w x.1, Value.ref x.2) := by
   rw [ao7, S.el, anx, anh, aqU, aqV]
  have eh : (xs.map fun x => zt w x.1).take p ++ zt w d :: (xs.map fun x => zt w x.1).drop p = (xs.take p ++ (d, b) :: xs.drop p).map fun x => zt w x.1 := by
   rw [anx, anh, aqU, aqV]
  rw [eh] at tb
  have ln : (xs.take p ++ (d, b) :: xs.drop p).length = xs.length + 1 := by rw [pm.length_eq]; rfl
  have sze : (insertAt es p (zt w d, Value.ref b)).size = xs.length + 1 := by rw [<- am5, el, amT, ln]
  have step : ∀ bv : Bool, ∀ t2, t2 = (if bv = true then (t.put (ST.pos t.mask (zt w d) F)).1 else { (t.put (ST.pos t.mask (zt w d) F)).1 with plain := false }) ->
    ST.TB t2 ((xs.take p ++ (d, b) :: xs.drop p).map fun x => zt w x.1) /\ t2.mask = t.mask := fun bv t2 e => by
   subst e
   cases bv with
   | true => exact ⟨tb, rfl⟩
   | false => exact ⟨ahK tb, rfl⟩
  have tail : ∀ bv : Bool, wpAny (model P w) A (do
    storeSet a (insertAt es p (zt w d, Value.ref b)) (if bv = true then (t.put (ST.pos t.mask (zt w d) F)).1 else { (t.put (ST.pos t.mask (zt w d) F)).1 with plain := false })
    if (!false && (if bv = true then (t.put (ST.pos t.mask (zt w d) F)).1 else { (t.put (ST.pos t.mask (zt w d) F)).1 with plain := false }).tooFull) = true then do
     setRelay a (SetTable.grown (es.size + 1))
     pure true
    else pure true) (fun _ s' => Q s') E { s with toks := s.toks + zV d } := fun bv => by
   obtain ⟨tb2, em⟩ := step bv _ rfl
   generalize (if bv = true then (t.put (ST.pos t.mask (zt w d) F)).1 else { (t.put (ST.pos t.mask (zt w d) F)).1 with plain := false }) = t2 at *
   apply wpAny_bind
   refine wpAny_storeSet_of (s := { s with toks := s.toks + zV d }) S.ob S.da ?_ (by rw [sze, sizeLine_eq]; omega)
   have g : (s.heap.update a (aqm (insertAt es p (zt w d, Value.ref b)) t2)).get? a = some { o with data := .set (insertAt es p (zt w d, Value.ref b)) (ep + 1) t2 } := by
    have := aoz (aqm (insertAt es p (zt w d, Value.ref b)) t2) S.ob (by rw [putSet_of _ _ S.da]; rfl)
    rw [putSet_of _ _ S.da] at this
    exact this
   have sb := aqM s.heap a (aqm (insertAt es p (zt w d, Value.ref b)) t2)
   have fill : t2.tooFull = decide ((xs.length + 1) * 5 >= t.mask * 3) := by
    unfold SetTable.tooFull aqT
    have h1 := tb2.size
    rw [amT, ln] at h1
    rw [h1, tb2.dum, em]
    rfl
   rw [apn, apB, fill]
   by_cases full : (xs.length + 1) * 5 >= t.mask * 3
   ·rw [if_pos (decide_eq_true full), S.size]
    have : ∃ mask, (mask = 31 \/ mask = 127 \/ mask = 511) /\ apU (SetTable.grown (xs.length + 1)) = mask + 1 /\ (xs.length + 1) * 5 < mask * 3 := by
     rcases S.ok.mask with e | e | e | e
     ·rw [e] at room full
      have : xs.length = 4 := by omega
      rw [this]
      exact ⟨31, .inl rfl, by decide, by decide⟩
     ·rw [e] at room full
      have : xs.length = 18 := by omega
      rw [this]
      exact ⟨127, .inr (.inl rfl), by decide, by decide⟩
     ·rw [e] at room full
      have : xs.length = 76 := by omega
      rw [this]
      exact ⟨511, .inr (.inr rfl), by decide, by decide⟩
     ·rw [e] at room full
      omega
    obtain ⟨mask, mk, hw, rm⟩ := this
    apply wpAny_bind
    refine ahJ (s := { s with heap := s.heap.update a (aqm (insertAt es p (zt w d, Value.ref b)) t2), toks := s.toks + zV d }) (o := { o with data := .set (insertAt es p (zt w d, Value.ref b)) (ep + 1) t2 }) g S.ex rfl el tb2 mk hw (by rw [ln]; exact rm) fun xs' o' es' ep' t' h' px sb' S' => wpAny_pure ?_
    exact new hd xs' o' es' ep' t' h' (px.trans pm) (sb.trans sb') S'
   ·rw [if_neg (by rw [decide_eq_false full]; exact amQ)]
    refine wpAny_pure (new hd _ _ _ _ _ _ pm sb ⟨g, S.ex, rfl, el, ⟨tb2, ?_⟩⟩)
    rw [amT, ln, em]
    omega
  obtain ⟨as, rd⟩ := kb.rd
  split
  ·apply wpAny_bind
   exact vW d 8 _ { s with toks := s.toks + zV d } _ as _ _ rd kb.pl fun bv => tail bv
  ·apply wpAny_bind; apply wpAny_pure
   exact tail true
theorem alp {Q : Value -> Shared -> Prop} (S : SetObj w s.heap a xs o es ep t) (ks : ∀ x ∈ xs, KeyAt s.heap x.1 x.2) (kb : KeyAt s.heap d b) (hu : A.units + 60 < cLine) (few : xs.length < 300)
  (old : d ∈ xs.map (·.1) -> Q .none { s with toks := s.toks + zV d })
  (new : d ∉ xs.map (·.1) -> ∀ xs' o' es' ep' t' h', xs'.Perm ((d, b) :: xs) -> aoL a s.heap h' -> SetObj w h' a xs' o' es' ep' t' -> Q .none { s with heap := h', toks := s.toks + zV d }) :
  wpAny (model P w) A (call (.builtin "set.add") [.ref a, .ref b]) Q E s := by
 refine wpAny_call_entry aqF S.type PySem.F.entry_set_add ?_ (PySem.F.args_set_add_2 _ _)
 unfold Builtin.«set.add» apT
 simp only [List.isEmpty_nil, bind_assoc]
 unfold ap5
 apply wpAny_bind; apply wpAny_pure
 try dsimp only
 apply wpAny_bind; apply wpAny_pure
 try dsimp only
 apply wpAny_bind
 have hu1 : A.in1.units = A.units + 1 := rfl
 refine ajn (Q := fun s' => wpAny (model P w) A.in1 (ret Value.none) (fun fin s' => ∃ r, fin = .done (.ret r) /\ Q r s') E s') S ks kb (by omega) few (fun hd => wpAny_pure ⟨_, rfl, old hd⟩) fun hd xs' o' es' ep' t' h' p1 p2 p3 => wpAny_pure ⟨_, rfl, new hd xs' o' es' ep' t' h' p1 p2 p3⟩
end
inductive OC where
 | lst (es : List PyData)
 | set (ks : List PyData)
 | dic (kvs : List (PyData × PyData))
def SetO (w : World) (a : Addr) (xs : List (PyData × Addr)) : HO := .ext fun h => ∃ o es ep t, SetObj w h a xs o es ep t
structure DicObj (w : World) (h : Heap) (a : Addr) (xs : List (PyData × Addr × Value)) (o : Obj) (es : Array DictEntry) (ep : Nat) : Prop where
 ob : h.get? a = some o
 ex : o.ExactDict
 da : o.data = .dict es ep
 el : es.toList = xs.map fun x => (⟨zt w x.1, .ref x.2.1, x.2.2⟩ : DictEntry)
 nd : (xs.map (·.1)).Nodup
 ns : (a == sysModules) = false
def DicO (w : World) (a : Addr) (xs : List (PyData × Addr × Value)) : HO := .ext fun h => ∃ o es ep, DicObj w h a xs o es ep
def vm (d : PyData) : Prop := zw d = true /\ d.depth <= 8
def EntR (K : amR) (Hh : Hp) (x : PyData × Addr × Value) (p : PyData × PyData) : Prop := x.1 = p.1 /\ vm x.1 /\ Rep K Hh x.1 (.ref x.2.1) /\ ∃ v, Rep K Hh p.2 v /\ RelV v x.2.2
theorem EntR.mono {K : amR} {Hh Hh' : Hp} (s : Same Hh Hh') : ∀ {xs : List (PyData × Addr × Value)} {kvs : List (PyData × PyData)}, Paired (EntR K Hh) xs kvs -> Paired (EntR K Hh') xs kvs
 | _, _, .nil => .nil
 | _, _, .cons ⟨h1, h2, h3, v, h4, h5⟩ t => .cons ⟨h1, h2, Rep.mono s _ _ h3, v, Rep.mono s _ _ h4, h5⟩ (EntR.mono s t)
def OwnAt (w : World) (K : amR) (Hh H : Hp) (D : Addr) : OC -> Prop
 | .lst es => ∃ vs, H D = some (.lst vs) /\ Reps K Hh es vs
 | .set ks => ∃ xs : List (PyData × Addr), H D = some (SetO w D xs) /\ (∀ x ∈ xs, vm x.1 /\ Rep K Hh x.1 (.ref x.2)) /\ (∀ d, d ∈ xs.map (·.1) ↔ d ∈ ks) /\ xs.length <= ks.length
 | .dic kvs => ∃ xs : List (PyData × Addr × Value), H D = some (DicO w D xs) /\ Paired (EntR K Hh) xs kvs
theorem OwnAt.mono {w : World} {K : amR} {Hh Hh' H H' : Hp} {D : Addr} (e : H' D = H D) (s : Same Hh Hh') : ∀ {c : OC}, OwnAt w K Hh H D c -> OwnAt w K Hh' H' D c
 | .lst es, ⟨vs, h1, h2⟩ => ⟨vs, e.trans h1, Reps.mono s es vs h2⟩
 | .set ks, ⟨xs, h1, h2, h3⟩ => ⟨xs, e.trans h1, fun x hx => ⟨(h2 x hx).1, Rep.mono s _ _ (h2 x hx).2⟩, h3⟩
 | .dic kvs, ⟨xs, h1, h2⟩ => ⟨xs, e.trans h1, EntR.mono s h2⟩
def Fx.withs (f : Fx) (Ds : List Addr) : Fx := { f with M := Ds.reverse ++ f.M }
theorem ym (f : Fx) (Ds : List Addr) (D : Addr) : f.withs (Ds ++ [D]) = (f.withs Ds).with D := by
 unfold Fx.withs Fx.with
 rw [ao4]
 rfl
structure CM (w : World) (K : amR) (f : Fx) (Ds : List Addr) (H2 : Hp) (ρ : zr) (cs : List OC) (σ : St) (H : Hp) : Prop where
 env : EnvOk K (f.withs Ds) ρ σ H
 sm : Same (hide H2 (f.withs Ds)) (hide H (f.withs Ds))
 kp : ∀ b ∈ f.M, H b = H2 b
 len : cs.length = Ds.length
 own : ∀ (i : Nat) D c, Ds[i]? = some D -> cs[i]? = some c -> OwnAt w K (hide H (f.withs Ds)) H D c
structure Sep (f : Fx) (Ds : List Addr) : Prop where
 nd : Ds.Nodup
 nf : ∀ D ∈ Ds, f.f ≠ some D
 nm : ∀ D ∈ Ds, D ∉ f.M
section
variable {w : World} {K : amR} {f : Fx} {Ds : List Addr} {H H' H2 : Hp} {ρ ρ2 : zr} {cs : List OC} {σ σ2 : St} {i : Nat} {D : Addr} {c : OC} {o : HO}
theorem jL (hD : D ∈ Ds) : D ∈ (f.withs Ds).M := anQ _ (aoZ.mpr hD)
theorem yw (hD : D ∈ Ds) : hide (upd H D o) (f.withs Ds) = hide H (f.withs Ds) := by
 funext b
 unfold hide
 by_cases h : (f.withs Ds).f = some b \/ b ∈ (f.withs Ds).M
 ·rw [if_pos h, if_pos h]
 ·rw [if_neg h, if_neg h, zy fun (z : b = D) => h (.inr (z ▸ jL hD))]
theorem CM.go (x : CM w K f Ds H2 ρ cs σ H) (g : Goes (f.withs Ds) H H') (e2 : EnvOk K (f.withs Ds) ρ2 σ2 H') : CM w K f Ds H2 ρ2 cs σ2 H' :=
 ⟨e2, x.sm.trans g.sm, fun b hb => (g.kp b (anc _ hb)).trans (x.kp b hb), x.len, fun i D c h1 h2 => (x.own i D c h1 h2).mono (g.kp D (jL (ana h1))) g.sm⟩
theorem CM.self (x : CM w K f Ds H2 ρ cs σ H) : CM w K f Ds H ρ cs σ H := ⟨x.env, Same.refl _, fun _ _ => rfl, x.len, x.own⟩
theorem CM.trans {cs' : List OC} {ρ' : zr} {σ' : St} (x : CM w K f Ds H2 ρ cs σ H) (y : CM w K f Ds H ρ' cs' σ' H') : CM w K f Ds H2 ρ' cs' σ' H' := ⟨y.env, x.sm.trans y.sm, fun b hb => (y.kp b hb).trans (x.kp b hb), y.len, y.own⟩
theorem ajo (se : Sep f Ds) (hD : D ∈ Ds) (h : FOk (f.withs Ds) H) : FOk (f.withs Ds) (upd H D o) :=
 ⟨fun p e => let ⟨a, b, h1, h2⟩ := h.fd p e; ⟨a, b, by rw [zy (fun (z : p = D) => se.nf D hD (z ▸ e))]; exact h1, h2⟩, fun b hb => by
  by_cases e : b = D
  ·exact ⟨o, by rw [e]; exact zz⟩
  ·obtain ⟨u, hu⟩ := h.mm b hb
   exact ⟨u, by rw [zy e]; exact hu⟩, h.nm⟩
theorem ajp (se : Sep f Ds) (hD : D ∈ Ds) (e : EnvOk K (f.withs Ds) ρ σ H) : EnvOk K (f.withs Ds) ρ σ (upd H D o) :=
 ⟨e.len, fun i x h => by
  obtain ⟨v, h1, h2⟩ := e.get i x h
  refine ⟨v, h1, ?_⟩
  cases x with
  | dat d =>
   show Rep K (hide (upd H D o) (f.withs Ds)) d v
   rw [yw hD]
   exact h2
  | feed => exact h2
  | own k => exact h2
  | exc C =>
   obtain ⟨a, e1, q⟩ := h2
   exact ⟨a, e1, by rw [yw hD]; exact q⟩
  | mon φ =>
   intro H' s
   rw [yw hD] at s
   exact h2 H' s, ajo se hD e.fd⟩
theorem CM.put {c' : OC} (se : Sep f Ds) (x : CM w K f Ds H2 ρ cs σ H) (hi : Ds[i]? = some D) (ho : OwnAt w K (hide H (f.withs Ds)) (upd H D o) D c') : CM w K f Ds H2 ρ (cs.set i c') σ (upd H D o) := by
 have hD := ana hi
 refine ⟨ajp se hD x.env, by rw [yw hD]; exact x.sm, fun b hb => (zy (fun (z : b = D) => se.nm D hD (z ▸ hb))).trans (x.kp b hb), by rw [aoo]; exact x.len, fun j D' c h1 h2 => ?_⟩
 rw [yw hD]
 by_cases e : i = j
 ·subst e
  rw [hi] at h1
  cases h1
  have hl : i < cs.length := by rw [x.len]; exact (amU.mp hi).1
  rw [aob hl] at h2
  cases h2
  exact ho
 ·rw [aol e] at h2
  have ne : D' ≠ D := fun z => by
   subst z
   obtain ⟨l1, e1⟩ := amU.mp hi
   obtain ⟨l2, e2⟩ := amU.mp h1
   exact e ((apx se.nd).mp (e1.trans e2.symm))
  exact (x.own j D' c h1 h2).mono (zy ne) (Same.refl _)
end
structure MEnds where
 nx : zr -> List OC -> Prop
 rt : PyData -> Prop
 bk : zr -> List OC -> Prop := fun _ _ => False
 ct : zr -> List OC -> Prop := fun _ _ => False
def PSm (w : World) (K : amR) (f : Fx) (Ds : List Addr) (ts : TS) (ρ : zr) (cs : List OC) (O : MEnds) : Prop := Sep f Ds -> ∀ (σ : St) (H H2 : Hp) (E : Ends), CM w K f Ds H2 ρ cs σ H ->
 (∀ ρ' cs' σ' H', CM w K f Ds H2 ρ' cs' σ' H' -> O.nx ρ' cs' -> E.nx σ' H') -> (∀ d v ρ' cs' σ' H', CM w K f Ds H2 ρ' cs' σ' H' -> Rep K (hide H' f) d v -> O.rt d -> E.rt v H') ->
 (∀ ρ' cs' σ' H', CM w K f Ds H2 ρ' cs' σ' H' -> O.bk ρ' cs' -> E.bk σ' H') -> (∀ ρ' cs' σ' H', CM w K f Ds H2 ρ' cs' σ' H' -> O.ct ρ' cs' -> E.ct σ' H') -> ts E σ H
def PTm (w : World) (K : amR) (f : Fx) (Ds : List Addr) (tt : TT) (ρ : zr) (cs : List OC) (B : Bool -> Prop) : Prop := Sep f Ds -> ∀ (σ : St) (H H2 : Hp) (Q : Bool -> Hp -> Prop), CM w K f Ds H2 ρ cs σ H -> (∀ b H', Goes (f.withs Ds) H H' -> B b -> Q b H') -> tt σ H Q
def PEm (w : World) (K : amR) (f : Fx) (Ds : List Addr) (te : TE) (ρ : zr) (cs : List OC) (P : PyData -> Prop) : Prop := Sep f Ds -> ∀ (σ : St) (H H2 : Hp) (Q : VK), CM w K f Ds H2 ρ cs σ H -> (∀ d v H', Goes (f.withs Ds) H H' -> Rep K (hide H' (f.withs Ds)) d v -> P d -> Q v H') -> te σ H Q
def ahL (w : World) (K : amR) (f : Fx) (te : TE) (ρ : zr) (P : OC -> Prop) : Prop := ∀ (σ : St) (H : Hp) (Q : VK), EnvOk K f ρ σ H ->
 (∀ c D H', Goes f H H' -> H D = none -> OwnAt w K (hide H' (f.with D)) H' D c -> P c -> Q (.ref D) H') -> te σ H Q
section
variable {w : World} {K : amR} {f : Fx} {Ds : List Addr} {ρ : zr} {cs : List OC} {ts tu : TS} {tt : TT} {te : TE} {wi : TI} {g : TG} {O : MEnds} {i j : Nat}
theorem same_withs {H : Hp} : Same (hide H (f.withs Ds)) (hide H f) := fun b o h => by
 obtain ⟨h1, h2⟩ := zS h
 exact zB (fun z => h1 (z.elim .inl fun z => .inr (anc _ z))) h2
theorem ahM {D : DEnds} (h : PSm w K f [] ts ρ [] { nx := fun ρ' _ => D.nx ρ', rt := D.rt, bk := fun ρ' _ => D.bk ρ', ct := fun ρ' _ => D.ct ρ' }) : PSd K f ts ρ D := fun σ H E e n r b k => by
 have gg : ∀ {ρ' : zr} {cs' : List OC} {σ' : St} {H' : Hp}, CM w K f [] H ρ' cs' σ' H' -> Goes f H H' := fun x => ⟨x.sm, x.env.fd, x.kp⟩
 exact h ⟨aoV, (fun _ z => nomatch z), (fun _ z => nomatch z)⟩ σ H H E ⟨e, Same.refl _, fun _ _ => rfl, rfl, (fun i D c z => nomatch z)⟩
  (fun ρ' cs' σ' H' x p => n ρ' σ' H' (gg x) x.env p) (fun d v ρ' cs' σ' H' x r' p => r d v H' (gg x) r' p) (fun ρ' cs' σ' H' x p => b ρ' σ' H' (gg x) x.env p) (fun ρ' cs' σ' H' x p => k ρ' σ' H' (gg x) x.env p)
theorem aeb (h : PSd K (f.withs Ds) ts ρ { nx := fun ρ' => O.nx ρ' cs, rt := O.rt, bk := fun ρ' => O.bk ρ' cs, ct := fun ρ' => O.ct ρ' cs }) : PSm w K f Ds ts ρ cs O := fun se σ H H2 E x n r b k =>
 h σ H E x.env (fun ρ' σ' H' g' e' p => n ρ' cs σ' H' (x.go g' e') p) (fun d v H' g' r' p => r d v ρ cs σ H' (x.go g' (x.env.mono g')) (Rep.mono same_withs d v r') p) (fun ρ' σ' H' g' e' p => b ρ' cs σ' H' (x.go g' e') p) (fun ρ' σ' H' g' e' p => k ρ' cs σ' H' (x.go g' e') p)
theorem aaP (h : PSm w K f Ds ts ρ cs { O with nx := fun ρ' cs' => PSm w K f Ds tu ρ' cs' O }) : PSm w K f Ds (v7 ts tu) ρ cs O := fun se σ H H2 E x n r b k =>
 h se σ H H2 _ x (fun ρ' cs' σ' H' x' p => p se σ' H' H2 E x' n r b k) r b k
theorem alq (h : O.nx ρ cs) : PSm w K f Ds aeG ρ cs O := fun _ σ H H2 E x n r b k => n ρ cs σ H x h
theorem amM {B : Bool -> Prop} (h : PTd K (f.withs Ds) tt ρ B) : PTm w K f Ds tt ρ cs B := fun se σ H H2 Q x q => h σ H Q x.env q
theorem ahN {P : PyData -> Prop} (h : PEd K (f.withs Ds) te ρ P) : PEm w K f Ds te ρ cs P := fun se σ H H2 Q x q => h σ H Q x.env q
theorem amN (h : PTm w K f Ds tt ρ cs fun b => if b = true then PSm w K f Ds ts ρ cs O else PSm w K f Ds tu ρ cs O) : PSm w K f Ds (afX tt ts tu) ρ cs O := fun se σ H H2 E x n r b k =>
 h se σ H H2 _ x fun q H1 g1 p => by
  have x1 := x.go g1 (x.env.mono g1)
  cases q with
  | false =>
   rw [if_neg amQ] at p ⊢
   exact p se σ H1 H2 E x1 n r b k
  | true =>
   rw [if_pos rfl] at p ⊢
   exact p se σ H1 H2 E x1 n r b k
theorem ahO (h : PId K (f.withs Ds) wi ρ fun ds => ∃ J : Nat -> zr -> List OC -> Prop, J 0 ρ cs /\
   (∀ (i : Nat) d ρ' cs', ds[i]? = some d -> J i ρ' cs' -> PGd K (f.withs Ds) g d ρ' fun ρ2 => PSm w K f Ds ts ρ2 cs' { O with nx := J (i + 1), ct := J (i + 1), bk := O.nx }) /\ ∀ ρ' cs', J ds.length ρ' cs' -> O.nx ρ' cs') :
  PSm w K f Ds (aiX wi g ts) ρ cs O := fun se σ H H2 E x n r b k => h σ H _ x.env fun ds J H1 g1 it ⟨Jv, j0, js, jd⟩ => by
 have x1 := x.go g1 (x.env.mono g1)
 refine ⟨fun i m σ' H' => ∃ ρ' cs', CM w K f Ds H2 ρ' cs' σ' H' /\ Same (hide H1 (f.withs Ds)) (hide H' (f.withs Ds)) /\ Jv i ρ' cs' /\ m + i = ds.length, ⟨ds.length, ρ, cs, x1, Same.refl _, j0, rfl⟩, fun i m σ' H' ⟨ρ', cs', x', sm', p, hm⟩ => ?_⟩
 by_cases hi : i < ds.length
 ·obtain ⟨hgo, hy⟩ := it.go (f.withs Ds) H' i _ x'.env.fd sm' (amP hi)
  refine .inr ⟨hgo, fun σ2 H3 => ∃ ρ2 cs2, CM w K f Ds H2 ρ2 cs2 σ2 H3 /\ Same (hide H1 (f.withs Ds)) (hide H3 (f.withs Ds)) /\ Jv (i + 1) ρ2 cs2, fun σ2 H3 ⟨ρ2, cs2, e2, g2, p2⟩ => ⟨m - 1, by omega, ρ2, cs2, e2, g2, p2, by omega⟩, fun v H3 hx => ?_⟩
  obtain ⟨g3, r3⟩ := hy v H3 hx
  have x3 := x'.go g3 (x'.env.mono g3)
  refine js i _ ρ' cs' (amP hi) p σ' H3 v _ x3.env r3 fun ρ2 σ2 H4 g4 e4 p4 => ?_
  have x4 := x3.go g4 e4
  have sm4 := (sm'.trans g3.sm).trans g4.sm
  exact p4 se σ2 H4 H4 _ x4.self (fun ρ5 cs5 σ5 H5 x5 p5 => ⟨ρ5, cs5, x4.trans x5, sm4.trans x5.sm, p5⟩) (fun d v ρ5 cs5 σ5 H5 x5 r5 p5 => r d v ρ5 cs5 σ5 H5 (x4.trans x5) r5 p5) (fun ρ5 cs5 σ5 H5 x5 p5 => n ρ5 cs5 σ5 H5 (x4.trans x5) p5) (fun ρ5 cs5 σ5 H5 x5 p5 => ⟨ρ5, cs5, x4.trans x5, sm4.trans x5.sm, p5⟩)
 ·have ei : i = ds.length := by omega
  subst ei
  exact .inl ⟨it.st (f.withs Ds) H' x'.env.fd sm', n ρ' cs' σ' H' x' (jd ρ' cs' p)⟩
theorem ajq {tb : TS} (J : zr -> List OC -> Prop) (μ : zr -> List OC -> Nat) (h0 : J ρ cs)
  (hs : ∀ ρ' cs', J ρ' cs' -> PTm w K f Ds tt ρ' cs' fun b => if b = true then PSm w K f Ds tb ρ' cs' { O with nx := fun r c => J r c /\ μ r c < μ ρ' cs', ct := fun r c => J r c /\ μ r c < μ ρ' cs', bk := O.nx } else O.nx ρ' cs') : PSm w K f Ds (adS tt tb) ρ cs O := fun se σ H H2 E x n r b k => by
 refine ⟨fun m σ' H' => ∃ ρ' cs', CM w K f Ds H2 ρ' cs' σ' H' /\ J ρ' cs' /\ m = μ ρ' cs', ⟨_, ρ, cs, x, h0, rfl⟩, ?_⟩
 rintro m σ1 H1 ⟨ρ1, cs1, x1, j1, rfl⟩
 refine hs ρ1 cs1 j1 se σ1 H1 H2 _ x1 fun t H3 g3 p => ?_
 have x3 := x1.go g3 (x1.env.mono g3)
 cases t with
 | true =>
  rw [if_pos rfl] at p ⊢
  refine ⟨fun σ' H' => ∃ ρ' cs', CM w K f Ds H2 ρ' cs' σ' H' /\ J ρ' cs' /\ μ ρ' cs' < μ ρ1 cs1, fun σ' H' ⟨ρ', cs', x', j', l'⟩ => ⟨_, l', ρ', cs', x', j', rfl⟩, ?_⟩
  exact p se σ1 H3 H2 _ x3 (fun ρ5 cs5 σ5 H5 x5 p5 => ⟨ρ5, cs5, x5, p5⟩) r (fun ρ5 cs5 σ5 H5 x5 p5 => n ρ5 cs5 σ5 H5 x5 p5) (fun ρ5 cs5 σ5 H5 x5 p5 => ⟨ρ5, cs5, x5, p5⟩)
 | false =>
  rw [if_neg amQ] at p ⊢
  exact n ρ1 cs1 σ1 H3 x3 p
theorem vn {σ : St} {H H2 : Hp} {D : Addr} (hi : ρ[i]? = some (some (.own (f.M.length + j)))) (x : CM w K f Ds H2 ρ cs σ H) (hD : Ds[j]? = some D) : σ[i]? = some (some (.ref D)) := by
 obtain ⟨v, h1, p, h2, rfl⟩ := x.env.get i _ hi
 have e : (f.withs Ds).M.reverse[f.M.length + j]? = some D := by
  show (Ds.reverse ++ f.M).reverse[f.M.length + j]? = some D
  rw [ao4, aqG, am7 (by simp)]
  simpa using hD
 rw [e] at h2
 cases h2
 exact h1
theorem aku {es : List PyData} (hi : ρ[i]? = some (some (.own (f.M.length + j)))) (hc : cs[j]? = some (.lst es)) (hl : es.length < 1000) (h : PEm w K f Ds te ρ cs fun d => O.nx ρ (cs.set j (.lst (es ++ [d])))) : PSm w K f Ds (aeH (tBM K "list" aeT (yn i) (yo te qj))) ρ cs O := fun se σ H H2 E x n r b k => by
 have hj : j < Ds.length := by rw [<- x.len]; exact (amU.mp hc).1
 have hD : Ds[j]? = some Ds[j] := amP hj
 obtain ⟨vs0, h0, _⟩ := x.own j _ _ hD hc
 refine ⟨_, vn hi x hD, Or.inl ⟨rfl, vs0, .of h0⟩, ?_⟩
 refine h se σ H H2 _ x fun d v H1 g1 r1 p1 => ?_
 have x1 := x.go g1 (x.env.mono g1)
 obtain ⟨vs, h1, h2⟩ := x1.own j _ _ hD hc
 refine ⟨_, vs, v, rfl, rfl, h1, yg (by rw [h2.length]; omega), n _ _ _ _ (x1.put se hD (o := .lst (vs ++ [v])) (c' := .lst (es ++ [d])) ⟨vs ++ [v], zz, h2.snoc r1⟩) p1⟩
theorem CM.more {σ : St} {H H1 H2 : Hp} {D : Addr} {c : OC} (x : CM w K f Ds H2 ρ cs σ H) (g : Goes (f.withs Ds) H H1) (hn : H D = none) (ho : OwnAt w K (hide H1 ((f.withs Ds).with D)) H1 D c) (hi : i < ρ.length) :
  CM w K f (Ds ++ [D]) H1 (ρ.set i (some (.own (f.M.length + Ds.length)))) (cs ++ [c]) (σ.set i (some (.ref D))) H1 := by
 have nD : ¬ ((f.withs Ds).f = some D \/ D ∈ (f.withs Ds).M) := fresh_ne x.env.fd hn
 have sm0 : Same (hide H (f.withs Ds)) (hide H1 (f.withs (Ds ++ [D]))) := fun b o hb => by
  have hb1 := g.sm b o hb
  rw [ym]
  refine zB (fun z => ?_) (zS hb1).2
  rcases z with z | z
  ·exact (zS hb1).1 (.inl z)
  ·rcases am2.mp z with rfl | z
   ·have := (zS hb).2
    rw [hn] at this
    cases this
   ·exact (zS hb1).1 (.inr z)
 have hD1 : ∃ o, H1 D = some o := by
  cases c with
  | lst es => exact ⟨_, ho.choose_spec.1⟩
  | set ks => exact ⟨_, ho.choose_spec.1⟩
  | dic kvs => exact ⟨_, ho.choose_spec.1⟩
 have fo1 : FOk (f.withs (Ds ++ [D])) H1 := by
  rw [ym]
  refine ⟨g.ok.fd, fun b hb => ?_, fun q eq hq => ?_⟩
  ·rcases am2.mp hb with rfl | hb
   ·exact hD1
   ·exact g.ok.mm b hb
  ·rcases am2.mp hq with rfl | hq
   ·exact nD (.inl eq)
   ·exact g.ok.nm q eq hq
 have rev : (f.withs (Ds ++ [D])).M.reverse = (f.withs Ds).M.reverse ++ [D] := by
  rw [ym]
  show (D :: (f.withs Ds).M).reverse = _
  rw [ap0]
 have lenr : (f.withs Ds).M.reverse.length = f.M.length + Ds.length := by
  show (Ds.reverse ++ f.M).reverse.length = _
  simp
 have e1 : EnvOk K (f.withs (Ds ++ [D])) ρ σ H1 := ⟨x.env.len, fun q y hy => by
  obtain ⟨v, a1, a2⟩ := x.env.get q y hy
  refine ⟨v, a1, ?_⟩
  cases y with
  | dat d => exact Rep.mono sm0 d v a2
  | feed => exact a2
  | exc C =>
   obtain ⟨b, h3, h4⟩ := a2
   exact ⟨b, h3, sm0 _ _ h4⟩
  | mon φ => exact fun H' s => a2 H' (sm0.trans s)
  | own k =>
   obtain ⟨b, h3, h4⟩ := a2
   refine ⟨b, ?_, h4⟩
   rw [rev, am3 (amU.mp h3).1]
   exact h3, fo1⟩
 have rv : RepV K (f.withs (Ds ++ [D])) H1 (.own (f.M.length + Ds.length)) (.ref D) := ⟨D, by
  rw [rev, am7 (by omega), lenr, aoY]
  rfl, rfl⟩
 refine ⟨e1.set i rv, Same.refl _, fun _ _ => rfl, by simp [x.len], fun q D' c' h1 h2 => ?_⟩
 by_cases hq : q < Ds.length
 ·rw [am3 hq] at h1
  rw [am3 (by rw [x.len]; exact hq)] at h2
  exact (x.own q D' c' h1 h2).mono (g.kp D' (jL (ana h1))) sm0
 ·by_cases hq2 : q = Ds.length
  ·subst hq2
   rw [am7 (amV _), aoY] at h1
   rw [am7 (by rw [x.len]; exact amV _), x.len, aoY] at h2
   cases h1
   cases h2
   rw [ym]
   exact ho
  ·rw [anj (by simp; omega)] at h1
   cases h1
theorem Sep.more {H : Hp} {D : Addr} (se : Sep f Ds) (fo : FOk (f.withs Ds) H) (hn : H D = none) : Sep f (Ds ++ [D]) := by
 have nD := fresh_ne fo hn
 refine ⟨aoQ.mpr ⟨se.nd, by simp, fun a ha b hb => ?_⟩, fun D' h => ?_, fun D' h => ?_⟩
 ·rw [anp.mp hb]
  intro z
  exact nD (.inr (jL (z ▸ ha)))
 ·rcases anF.mp h with h | h
  ·exact se.nf D' h
  ·rw [anp.mp h]; exact fun z => nD (.inl z)
 ·rcases anF.mp h with h | h
  ·exact se.nm D' h
  ·rw [anp.mp h]; exact fun z => nD (.inr (anc _ z))
theorem CM.less {σ σ' : St} {H H1 H2 H' : Hp} {D : Addr} {ρ' : zr} {cs' : List OC} (x : CM w K f Ds H2 ρ cs σ H) (g : Goes (f.withs Ds) H H1) (hn : H D = none) (y : CM w K f (Ds ++ [D]) H1 ρ' cs' σ' H') :
  CM w K f Ds H2 (ρ'.map (aad (f.M.length + Ds.length))) (cs'.take Ds.length) σ' H' := by
 have sub : Same (hide H' (f.withs (Ds ++ [D]))) (hide H' (f.withs Ds)) := by rw [ym]; exact qz
 have sm1 : Same (hide H (f.withs Ds)) (hide H1 (f.withs (Ds ++ [D]))) := fun b o hb => by
  have hb1 := g.sm b o hb
  rw [ym]
  refine zB (fun z => ?_) (zS hb1).2
  rcases z with z | z
  ·exact (zS hb1).1 (.inl z)
  ·rcases am2.mp z with rfl | z
   ·have := (zS hb).2
    rw [hn] at this
    cases this
   ·exact (zS hb1).1 (.inr z)
 have lenr : (f.withs Ds).M.reverse.length = f.M.length + Ds.length := by
  show (Ds.reverse ++ f.M).reverse.length = _
  simp
 have rev : (f.withs (Ds ++ [D])).M.reverse = (f.withs Ds).M.reverse ++ [D] := by
  rw [ym]
  show (D :: (f.withs Ds).M).reverse = _
  rw [ap0]
 have fo : FOk (f.withs Ds) H' := by
  have h := y.env.fd
  rw [ym] at h
  exact ⟨h.fd, fun b hb => h.mm b (amY _ hb), fun p e hp => h.nm p e (amY _ hp)⟩
 refine ⟨⟨by rw [amT]; exact y.env.len, fun q z hz => ?_, fo⟩, (x.sm.trans sm1).trans (y.sm.trans sub), fun b hb => (y.kp b hb).trans ((g.kp b (anc _ hb)).trans (x.kp b hb)), ?_, fun q D' c' h1 h2 => ?_⟩
 ·rw [am1] at hz
  cases e : ρ'[q]? with
  | none => rw [e] at hz; cases hz
  | some z0 =>
   rw [e] at hz
   cases z0 with
   | none => cases hz
   | some z0 =>
    obtain ⟨v, a1, a2⟩ := y.env.get q z0 e
    cases z0 with
    | dat d =>
     cases hz
     exact ⟨v, a1, Rep.mono sub d v a2⟩
    | feed =>
     cases hz
     rw [ym] at a2
     exact ⟨v, a1, a2⟩
    | exc C =>
     cases hz
     obtain ⟨b, h3, h4⟩ := a2
     exact ⟨v, a1, b, h3, sub _ _ h4⟩
    | mon φ =>
     cases hz
     exact ⟨v, a1, fun H' s => a2 H' (sub.trans s)⟩
    | own k =>
     have hz' : (if k < f.M.length + Ds.length then some (DV.own k) else none) = some z := Option.some.inj hz
     by_cases hk : k < f.M.length + Ds.length
     ·rw [if_pos hk] at hz'
      cases hz'
      obtain ⟨b, h3, h4⟩ := a2
      refine ⟨v, a1, b, ?_, h4⟩
      rw [rev, am3 (by omega)] at h3
      exact h3
     ·rw [if_neg hk] at hz'
      cases hz'
 ·rw [anu, y.len]
  simp
 ·have hq : q < Ds.length := (amU.mp h1).1
  rw [aoH hq] at h2
  exact (y.own q D' c' (by rw [am3 hq]; exact h1) h2).mono rfl sub
theorem akv (h : ahL w K (f.withs Ds) te ρ fun c => i < ρ.length /\ ∀ D, PSm w K f (Ds ++ [D]) ts (ρ.set i (some (.own (f.M.length + Ds.length)))) (cs ++ [c]) { nx := fun ρ' cs' => O.nx (ρ'.map (aad (f.M.length + Ds.length))) (cs'.take Ds.length), rt := O.rt, bk := fun ρ' cs' => O.bk (ρ'.map (aad (f.M.length + Ds.length))) (cs'.take Ds.length), ct := fun ρ' cs' => O.ct (ρ'.map (aad (f.M.length + Ds.length))) (cs'.take Ds.length) }) :
  PSm w K f Ds (v7 (qJ te (jf i)) ts) ρ cs O := fun se σ H H2 E x n r b k =>
 h σ H _ x.env fun c D H1 g1 hn ho ⟨hi, p⟩ =>
  p D (se.more x.env.fd hn) _ H1 H1 E (x.more g1 hn ho hi) (fun ρ' cs' σ' H' y q => n _ _ σ' H' (x.less g1 hn y) q) (fun d v ρ' cs' σ' H' y r' q => r d v _ _ σ' H' (x.less g1 hn y) r' q) (fun ρ' cs' σ' H' y q => b _ _ σ' H' (x.less g1 hn y) q) (fun ρ' cs' σ' H' y q => k _ _ σ' H' (x.less g1 hn y) q)
theorem afl {P : OC -> Prop} (h : PEdO K f te ρ fun es => P (.lst es)) : ahL w K f te ρ P := fun σ H Q e q => h σ H Q e fun es D vs H' g hn h1 rs p => q (.lst es) D H' g hn ⟨vs, h1, rs⟩ p
def freed (n : Nat) (cs : List OC) : Option DV -> Option DV
 | some (.own k) => if k < n then some (.own k) else match cs[k - n]? with
  | some (.lst es) => some (.dat (.list es))
  | _ => none
 | x => x
theorem CM.free {σ : St} {H H2 : Hp} (se : Sep f Ds) (x : CM w K f Ds H2 ρ cs σ H) : EnvOk K f (ρ.map (freed f.M.length cs)) σ H := by
 have fo : FOk f H := ⟨x.env.fd.fd, fun b hb => x.env.fd.mm b (anc _ hb), fun p e hp => x.env.fd.nm p e (anc _ hp)⟩
 refine ⟨by rw [amT]; exact x.env.len, fun q z hz => ?_, fo⟩
 rw [am1] at hz
 cases e : ρ[q]? with
 | none => rw [e] at hz; cases hz
 | some z0 =>
  rw [e] at hz
  cases z0 with
  | none => cases hz
  | some z0 =>
   obtain ⟨v, a1, a2⟩ := x.env.get q z0 e
   cases z0 with
   | dat d =>
    cases hz
    exact ⟨v, a1, Rep.mono same_withs d v a2⟩
   | feed =>
    cases hz
    exact ⟨v, a1, a2⟩
   | exc C =>
    cases hz
    obtain ⟨b, h3, h4⟩ := a2
    exact ⟨v, a1, b, h3, same_withs _ _ h4⟩
   | mon φ =>
    cases hz
    exact ⟨v, a1, fun H' s => a2 H' (same_withs.trans s)⟩
   | own k =>
    obtain ⟨b, h3, h4⟩ := a2
    have h3' : (Ds.reverse ++ f.M).reverse[k]? = some b := h3
    rw [ao4, aqG] at h3'
    have hz' : (if k < f.M.length then some (DV.own k) else match cs[k - f.M.length]? with | some (.lst es) => some (.dat (.list es)) | _ => none) = some z := Option.some.inj hz
    by_cases hk : k < f.M.length
    ·rw [if_pos hk] at hz'
     cases hz'
     rw [am3 (by simpa using hk)] at h3'
     exact ⟨v, a1, b, h3', h4⟩
    ·rw [if_neg hk] at hz'
     rw [am7 (by simpa using aqY.mp hk), aqN] at h3'
     cases ec : cs[k - f.M.length]? with
     | none => rw [ec] at hz'; cases hz'
     | some c =>
      rw [ec] at hz'
      cases c with
      | lst es =>
       cases hz'
       obtain ⟨vs, h5, h6⟩ := x.own _ _ _ h3' ec
       have hb := ana h3'
       exact ⟨v, a1, rep_list.mpr ⟨b, vs, h4, .of (zB (fun z => z.elim (se.nf b hb) (se.nm b hb)) h5), Reps.mono same_withs es vs h6⟩⟩
      | set ks => cases hz'
      | dic kvs => cases hz'
theorem CM.goF {σ : St} {H H2 H' : Hp} (se : Sep f Ds) (x : CM w K f Ds H2 ρ cs σ H) (g : Goes f H H') : CM w K f Ds H2 ρ cs σ H' := by
 have keep : ∀ b ∈ Ds, H' b = H b := fun b hb => by
  obtain ⟨o, ho⟩ := x.env.fd.mm b (jL hb)
  rw [ho]
  exact (zS (g.sm b o (zB (fun z => z.elim (se.nf b hb) (se.nm b hb)) ho))).2
 have g2 : Goes (f.withs Ds) H H' := ⟨fun b o hb => by
   have hb' := zS hb
   have := zS (g.sm b o (same_withs b o hb))
   exact zB hb'.1 this.2, ⟨g.ok.fd, fun b hb => by
   rcases anF.mp hb with hb | hb
   ·obtain ⟨o, ho⟩ := x.env.fd.mm b (anQ _ hb)
    exact ⟨o, by rw [keep b (aoZ.mp hb)]; exact ho⟩
   ·exact g.ok.mm b hb, x.env.fd.nm⟩, fun b hb => by
   rcases anF.mp hb with hb | hb
   ·exact keep b (aoZ.mp hb)
   ·exact g.kp b hb⟩
 exact x.go g2 (x.env.mono g2)
theorem ahP (h : PSd K f ts (ρ.map (freed f.M.length cs)) { nx := fun _ => False, rt := O.rt }) : PSm w K f Ds ts ρ cs O := fun se σ H H2 E x n r b k =>
 h σ H E (x.free se) (fun _ _ _ _ _ z => z.elim) (fun d v H' g' r' p => r d v ρ cs σ H' (x.goF se g') r' p) (fun _ _ _ _ _ z => z.elim) (fun _ _ _ _ _ z => z.elim)
end
def ago (w : World) (K : amR) (f : Fx) (Ds : List Addr) (ts : TS) (ρ : zr) (cs : List OC) (R : List PyData -> Prop) : Prop := Sep f Ds -> ∀ (σ : St) (H H2 : Hp) (E : Ends), CM w K f Ds H2 ρ cs σ H ->
 (∀ es D vs ρ' cs' σ' H0 H', CM w K f Ds H2 ρ' cs' σ' H0 -> Goes f H0 H' -> H0 D = none -> H' D = some (.lst vs) -> Reps K (hide H' (f.with D)) es vs -> R es -> E.rt (.ref D) H') -> ts E σ H
section
variable {w : World} {K : amR} {f : Fx} {Ds : List Addr} {ρ : zr} {cs : List OC} {ts tu : TS} {te : TE} {R : List PyData -> Prop} {i : Nat}
theorem ajr (h : ago w K f [] ts ρ [] R) : PSn K f ts ρ R := fun σ H E e q => by
 refine h ⟨aoV, (fun _ z => nomatch z), (fun _ z => nomatch z)⟩ σ H H E ⟨e, Same.refl _, fun _ _ => rfl, rfl, (fun i D c z => nomatch z)⟩ fun es D vs ρ' cs' σ' H0 H' x g hn h1 rs p => ?_
 have g0 : Goes f H H0 := ⟨x.sm, x.env.fd, x.kp⟩
 exact q es D vs H' (g0.trans g) (g0.free e.fd hn) h1 rs p
theorem alr (h : PSm w K f Ds ts ρ cs { nx := fun ρ' cs' => ago w K f Ds tu ρ' cs' R, rt := fun _ => False }) : ago w K f Ds (v7 ts tu) ρ cs R := fun se σ H H2 E x q =>
 h se σ H H2 _ x (fun ρ' cs' σ' H' x' p => p se σ' H' H2 E x' q) (fun _ _ _ _ _ _ _ _ z => z.elim) (fun _ _ _ _ _ z => z.elim) (fun _ _ _ _ _ z => z.elim)
theorem ahQ (h : ahL w K (f.withs Ds) te ρ fun c => i < ρ.length /\ ∀ D, ago w K f (Ds ++ [D]) ts (ρ.set i (some (.own (f.M.length + Ds.length)))) (cs ++ [c]) R) :
  ago w K f Ds (v7 (qJ te (jf i)) ts) ρ cs R := fun se σ H H2 E x q =>
 h σ H _ x.env fun c D H1 g1 hn ho ⟨hi, p⟩ =>
  p D (se.more x.env.fd hn) _ H1 H1 E (x.more g1 hn ho hi) fun es D' vs ρ' cs' σ' H0 H' y g hn' h1 rs pr => q es D' vs _ _ σ' H0 H' (x.less g1 hn y) g hn' h1 rs pr
theorem ajs (h : PSn K f ts (ρ.map (freed f.M.length cs)) R) : ago w K f Ds ts ρ cs R := fun se σ H H2 E x q =>
 h σ H E (x.free se) fun es D vs H' g hn h1 rs p => q es D vs ρ cs σ H H' x g hn h1 rs p
end
theorem SetO.ok {P : Program} {w : World} {H : Hp} {h : Heap} {a : Addr} {xs : List (PyData × Addr)} {o : Obj} {es : Array (Int × Value)} {ep : Nat} {t : SetTable} (S : SetObj w h a xs o es ep t) : ObjOk P w H h a (SetO w a xs) :=
 ⟨⟨o, es, ep, t, S⟩, ⟨o, S.ob⟩, fun h1 h2 ⟨o, es, ep, t, S⟩ k => ⟨o, es, ep, t, ⟨k o S.ob, S.ex, S.da, S.el, S.ok⟩⟩⟩
theorem agp (led : Bool) : ST.TOk (SetTable.fresh 0 0 led) [] where
 mask := .inl rfl
 dum := rfl
 rise := fun i j _ hj => absurd hj (aop _)
 le := fun i hi => absurd hi (aop _)
 size := rfl
 most := anA _
 reach := fun i hi => absurd hi (aop _)
 room := by show 0 * 5 < 7 * 3; decide
def acj (w : World) : List V -> Hp -> VK -> Prop := fun xs H Q => xs = [] /\ ∀ a, H a = none -> Q (.ref a) (upd H a (SetO w a []))
theorem adl {X : Cx} : yk X (.type "set") (acj X.w) := by
 intro pins s σ H xs us Q I r h
 obtain ⟨rfl, q⟩ := h
 cases r
 refine call_set_0 fun led => ?_
 refine ⟨.ref s.heap.objs.size, _, I.laid (t' := s.toks) (fun b u e => amW _ e) (amV _) (SetO.ok (xs := []) (o := { cls := .type "set", dict := none, data := .set #[] 0 (.fresh 0 0 led) }) (es := #[]) (ep := 0) (t := .fresh 0 0 led) ⟨anr _ rfl, ⟨rfl, rfl, rfl⟩, rfl, rfl, agp led⟩), rfl, q _ (I.hok.fresh (amV _))⟩
def agq (d : PyData) : Prop := vm d /\ ∃ xs, d = .tuple xs
theorem aah {K : amR} {H : Hp} {d : PyData} {v : V} (k : agq d) (r : Rep K H d v) : ∃ b, v = .ref b := by
 obtain ⟨_, xs, rfl⟩ := k
 obtain ⟨a, _, e, _⟩ := rep_tuple.mp r
 exact ⟨a, e⟩
theorem qX {X : Cx} {pins : List (Addr × Obj)} {σ : St} {H : Hp} {s : Shared} {d : PyData} {b : Addr} (I : Inv X pins σ H s) (k : vm d) (r : Rep X.K H d (.ref b)) : KeyAt s.heap d b := by
 obtain ⟨as, ra⟩ := jG I d (.ref b) (.ref b) r rfl
 exact ⟨⟨as, ra⟩, k.1, k.2⟩
def als (w : World) (K : amR) (neg : Bool) : R2 := fun x y H Q => ∃ a b d xs, x = .ref b /\ y = .ref a /\ H a = some (SetO w a xs) /\ (∀ z ∈ xs, vm z.1 /\ Rep K H z.1 (.ref z.2)) /\ vm d /\ Rep K H d (.ref b) /\ Q (.bl (if neg then !decide (d ∈ xs.map (·.1)) else decide (d ∈ xs.map (·.1)))) H
theorem ajt {X : Cx} (hu : X.A.units + 64 < cLine) {pins : List (Addr × Obj)} {s : Shared} {σ : St} {H : Hp} {a b : Addr} {d : PyData} {xs : List (PyData × Addr)} (I : Inv X pins σ H s) (hS : H a = some (SetO X.w a xs)) (ks : ∀ z ∈ xs, vm z.1 /\ Rep X.K H z.1 (.ref z.2)) (kd : vm d) (rd : Rep X.K H d (.ref b)) {Q : Bool -> Shared -> Prop} {E : Value -> Shared -> Prop}
  (q : Q (decide (d ∈ xs.map (·.1))) { s with toks := s.toks + zV d }) : wpAny (model X.prog X.w) X.A (contains (.ref a) (.ref b)) Q E s := by
 obtain ⟨⟨o, es, ep, t, S⟩, _⟩ := I.hok a _ hS
 exact adk S (fun x hx => qX I (ks x hx).1 (ks x hx).2) (qX I kd rd) (by omega) q
theorem agr {X : Cx} (hu : X.A.units + 64 < cLine) : OpR X (compareOp .NotIn) (als X.w X.K true) := by
 intro pins s σ H x y v u Q I rx ry h
 obtain ⟨a, b, d, xs, rfl, rfl, hS, ks, kd, rd, q⟩ := h
 cases rx
 cases ry
 show wpAny _ _ (do return Value.bool (!(<- contains (.ref a) (.ref b)))) _ _ s
 apply wpAny_bind
 exact ajt hu I hS ks kd rd (wpAny_pure ⟨.bl _, H, I.tok _, rfl, q⟩)
theorem aec {X : Cx} {K : amR} {w : World} (hw : X.w = w) (hK : X.K = K) (hu : X.A.units + 64 < cLine) : OpR X (compareOp .NotIn) (als w K true) := hw ▸ hK ▸ agr hu
def ahR (w : World) (K : amR) : V -> List V -> Hp -> VK -> Prop := fun x ys H Q => ∃ a b d xs, x = .ref a /\ ys = [.ref b] /\ H a = some (SetO w a xs) /\ (∀ z ∈ xs, vm z.1 /\ Rep K H z.1 (.ref z.2)) /\ vm d /\ Rep K H d (.ref b) /\ xs.length < 300 /\
 (d ∈ xs.map (·.1) -> Q .non H) /\ (d ∉ xs.map (·.1) -> ∀ xs', xs'.Perm ((d, b) :: xs) -> Q .non (upd H a (SetO w a xs')))
theorem aju {X : Cx} (hu : X.A.units + 64 < cLine) : MtR X "set.add" (ahR X.w X.K) := by
 intro pins s σ H x ys v us Q I rx ry h
 obtain ⟨a, b, d, xs, rfl, rfl, hS, ks, kd, rd, few, q1, q2⟩ := h
 obtain ⟨u, rfl, ru⟩ := vals1 ry
 cases rx
 cases ru
 obtain ⟨⟨o, es, ep, t, S⟩, _⟩ := I.hok a _ hS
 refine alp S (fun x hx => qX I (ks x hx).1 (ks x hx).2) (qX I kd rd) (by omega) few (fun hd => ⟨.non, H, I.tok _, rfl, q1 hd⟩) fun hd xs' o' es' ep' t' h' pm sb S' => ?_
 refine ⟨.non, _, I.write (t' := s.toks + zV d) (x := a) (e := a) (by rw [hS]; exact trivial) (.inl rfl) (fun b u nb e => (sb.2 b nb).trans e) ⟨o', S'.ob⟩ (SetO.ok S'), rfl, q2 hd xs' pm⟩
theorem ahS {X : Cx} {K : amR} {w : World} (hw : X.w = w) (hK : X.K = K) (hu : X.A.units + 64 < cLine) : MtR X "set.add" (ahR w K) := hw ▸ hK ▸ aju hu
theorem ack {X : Cx} {w : World} (hw : X.w = w) : yk X (.type "set") (acj w) := hw ▸ adl
def amn (w : World) (r : V -> List V -> Hp -> VK -> Prop) (to : TE) (t : TA) : TE := fun σ H Q => to σ H fun x H1 => (∃ a xs, x = .ref a /\ H1 a = some (SetO w a xs)) /\ t σ H1 fun xs H2 => r x xs H2 Q
theorem alu {X : Cx} {w : World} {o e : Expr} {es : List Expr} {to : TE} {t : TA} {name : Str} {apos cpos : Pos} {id : String} {r : V -> List V -> Hp -> VK -> Prop} (hw : X.w = w) (slot : Slot "set" name id) (hty : typeOf (.builtin id) = pure (.type "method_descriptor")) (hm : MtR X id r) (ho : PE X o to) (ha : PA X (e :: es) t)
  (hbase : attributeBase o name X.env (eval o X.env) = eval o X.env := by rfl)
  (hfew : ((backTo cpos (starEach (e :: es) X.env)).all (fun x => !x.1) && (backToKw cpos (keywordEach [] X.env)).all (fun x => x.1.isSome)
   && decide ((e :: es).length + ([] : List Keyword).length + (if ([] : List Keyword).isEmpty then 0 else 1) < 30)) = true := by rfl)
  (hline : (apos.endLine == cpos.line) = true := by rfl) (hs : starEach (e :: es) X.env = (false, eval e X.env) :: starEach es X.env := by rfl) (hplain : (backTo cpos (starEach es X.env)).any (·.1) = false := by rfl) :
  PE X (.Call (.Attribute o name apos) (e :: es) [] cpos) (amn w r to t) := by
 subst hw
 intro pins s σ H Q I h
 refine wpAny_Call_method_late hbase hfew hline rfl (thn (ho pins s σ H _ I h) fun v s1 ⟨x, H1, I1, r1, ty, q1⟩ => ?_)
 obtain ⟨a, xs, rfl, hS⟩ := ty
 cases r1
 obtain ⟨⟨ob, es', ep, t', S⟩, _⟩ := I1.hok a _ hS
 refine ⟨"set", id, PySem.F.plainAttrs_set, slot, hty, ⟨ob, S.ob, S.ex.1⟩, fun b e => ?_, ?_⟩
 ·cases e
  exact ⟨ob, S.ob, S.ex.2.1⟩
 have hA := ha cpos pins s1 σ H1 _ I1 q1
 rw [hs] at hA ⊢
 refine aqi (by show (false || (backTo cpos (starEach es X.env)).any (·.1)) = false; rw [hplain] <;> rfl) (apC ?_)
 exact thn hA fun us s2 ⟨vs, H2, I2, r2, q2⟩ => hm pins s2 σ H2 (.ref a) vs (.ref a) us Q I2 rfl r2 q2
section
variable {w : World} {K : amR} {f : Fx} {Ds : List Addr} {ρ : zr} {cs : List OC} {te : TE} {O : MEnds} {i j : Nat} {ks : List PyData}
theorem alv {P : OC -> Prop} (p : P (.set [])) : ahL w K f (tCB (acj w) qj) ρ P := fun σ H Q e q =>
 ⟨rfl, fun a hn => q (.set []) a _ (.of_same (zY hn _) e.fd) hn ⟨[], zz, (fun _ z => nomatch z), (fun d => Iff.rfl), amV 0⟩ p⟩
theorem amo {neg : Bool} {B : Bool -> Prop} (hi : ρ[i]? = some (some (.own (f.M.length + j)))) (hc : cs[j]? = some (.set ks)) (h : PEm w K f Ds te ρ cs fun d => agq d /\ B (if neg then !decide (d ∈ ks) else decide (d ∈ ks))) :
  PTm w K f Ds (aeL (tOp (als w K neg) te (yn i))) ρ cs B := fun se σ H H2 Q x q => by
 have hj : j < Ds.length := by rw [<- x.len]; exact (amU.mp hc).1
 have hD : Ds[j]? = some Ds[j] := amP hj
 refine h se σ H H2 _ x fun d v H1 g1 r1 ⟨kd, p⟩ => ?_
 have x1 := x.go g1 (x.env.mono g1)
 obtain ⟨b, rfl⟩ := aah kd r1
 obtain ⟨xs, h1, h2, h3, _⟩ := x1.own j _ _ hD hc
 refine ⟨_, vn hi x1 hD, Ds[j], b, d, xs, rfl, rfl, h1, fun z hz => ⟨(h2 z hz).1, Rep.mono (zl _ _) _ _ (h2 z hz).2⟩, kd.1, Rep.mono (zl _ _) _ _ r1, _, rfl, ?_⟩
 have : decide (d ∈ xs.map (·.1)) = decide (d ∈ ks) := decide_eq_decide.mpr (h3 d)
 rw [this]
 exact q _ H1 g1 p
theorem amq (hi : ρ[i]? = some (some (.own (f.M.length + j)))) (hc : cs[j]? = some (.set ks)) (hl : ks.length < 300) (h : PEm w K f Ds te ρ cs fun d => agq d /\ (d ∈ ks -> O.nx ρ cs) /\ (d ∉ ks -> O.nx ρ (cs.set j (.set (d :: ks))))) :
  PSm w K f Ds (aeH (amn w (ahR w K) (yn i) (yo te qj))) ρ cs O := fun se σ H H2 E x n r b k => by
 have hj : j < Ds.length := by rw [<- x.len]; exact (amU.mp hc).1
 have hD : Ds[j]? = some Ds[j] := amP hj
 obtain ⟨xs0, h0, _⟩ := x.own j _ _ hD hc
 refine ⟨_, vn hi x hD, ⟨Ds[j], xs0, rfl, h0⟩, ?_⟩
 refine h se σ H H2 _ x fun d v H1 g1 r1 ⟨kd, p1, p2⟩ => ?_
 have x1 := x.go g1 (x.env.mono g1)
 obtain ⟨b, rfl⟩ := aah kd r1
 obtain ⟨xs, h1, h2, h3, h4⟩ := x1.own j _ _ hD hc
 refine ⟨Ds[j], b, d, xs, rfl, rfl, h1, fun z hz => ⟨(h2 z hz).1, Rep.mono (zl _ _) _ _ (h2 z hz).2⟩, kd.1, Rep.mono (zl _ _) _ _ r1, by omega, fun hd => n _ _ _ _ x1 (p1 ((h3 d).mp hd)), fun hd xs' pm => n _ _ _ _ (x1.put se hD (c' := .set (d :: ks)) ⟨xs', zz, fun z hz => ?_, fun e => ?_, ?_⟩) (p2 fun z => hd ((h3 d).mpr z))⟩
 ·rcases am2.mp (pm.mem_iff.mp hz) with rfl | hz
  ·exact ⟨kd.1, r1⟩
  ·exact h2 z hz
 ·rw [(pm.map (·.1)).mem_iff, anh, am2, am2, h3 e]
 ·rw [pm.length_eq, anb, anb]
  omega
end
theorem DicO.ok {P : Program} {w : World} {H : Hp} {h : Heap} {a : Addr} {xs : List (PyData × Addr × Value)} {o : Obj} {es : Array DictEntry} {ep : Nat} (S : DicObj w h a xs o es ep) : ObjOk P w H h a (DicO w a xs) :=
 ⟨⟨o, es, ep, S⟩, ⟨o, S.ob⟩, fun h1 h2 ⟨o, es, ep, S⟩ k => ⟨o, es, ep, ⟨k o S.ob, S.ex, S.da, S.el, S.nd, S.ns⟩⟩⟩
theorem ajv {X : Cx} {pins : List (Addr × Obj)} {σ : St} {H : Hp} {s : Shared} (I : Inv X pins σ H s) : sysModules < s.heap.objs.size :=
 aq0 (by decide) (I.ok.mod.glob.keeps I.bk).lt
def afm (w : World) : TE := fun _ H Q => ∀ p, H p = none -> Q (.ref p) (upd H p (DicO w p []))
theorem ags {X : Cx} {w : World} {pos : Pos} (hw : X.w = w) : PE X (.Dict [] [] pos) (afm w) := by
 subst hw
 intro pins s σ H Q I h
 refine wpAny_Dict_empty ⟨.ref s.heap.objs.size, _, I.laid (a := s.heap.objs.size) (t' := s.toks) (fun _ _ q => amW _ q) (amV _) (DicO.ok (xs := []) (o := { cls := .type "dict", data := .dict #[] }) (es := #[]) (ep := 0) ⟨anr _ rfl, ⟨rfl, rfl, rfl⟩, rfl, rfl, aoV, beq_eq_false_iff_ne.mpr (anU (ano (ajv I)))⟩), rfl, h _ (I.hok.fresh (amV _))⟩
abbrev acm (K : amR) (H : Hp) (xs : List (PyData × Addr × Value)) : Prop := ∀ z ∈ xs, vm z.1 /\ Rep K H z.1 (.ref z.2.1)
theorem ahT {X : Cx} {pins : List (Addr × Obj)} {σ : St} {H : Hp} {s : Shared} {a : Addr} {xs : List (PyData × Addr × Value)} (I : Inv X pins σ H s) (hS : H a = some (DicO X.w a xs)) (ks : acm X.K H xs) : s.heap.DictOfH (aag X.prog X.w) a xs /\ (a == sysModules) = false := by
 obtain ⟨⟨o, es, ep, S⟩, _⟩ := I.hok a _ hS
 exact ⟨⟨o, es, ep, S.ob, S.ex, S.da, S.el, fun x hx => qX I (ks x hx).1 (ks x hx).2, S.nd⟩, S.ns⟩
def acn (w : World) (K : amR) : V -> V -> V -> Hp -> (Hp -> Prop) -> Prop := fun o i v H Q => ∃ a b d xs, o = .ref a /\ i = .ref b /\ H a = some (DicO w a xs) /\ acm K H xs /\ vm d /\ Rep K H d (.ref b) /\ xs.length <= 1000 /\ ∀ u, RelV v u -> Q (upd H a (DicO w a (storedH xs d b u)))
theorem ajw {X : Cx} (hu : X.A.units + 64 < cLine) : aiU X (acn X.w X.K) := by
 intro pins s σ H o i v ov iv u Q I ro ri rv h
 obtain ⟨a, b, d, xs, rfl, rfl, hS, ks, kd, rd, hl, q⟩ := h
 cases ro
 cases ri
 obtain ⟨hm, ns⟩ := ahT I hS ks
 have hu1 : X.A.in1.units = X.A.units + 1 := rfl
 refine wpAny_setItem_heap (by show _ + 40 < cLine; omega) (qX I kd rd) hm (fun h' hm' sb => ?_) (anE (yg hl))
 obtain ⟨o', es', ep', x1, x2, x3, x4, x5, x6⟩ := hm'
 exact ⟨_, I.write (t' := s.toks + zV d) (x := a) (e := a) (by rw [hS]; exact trivial) (.inl rfl) (fun b u nb e => (sb.2 b nb).trans e) ⟨o', x1⟩ (DicO.ok ⟨x1, x2, x3, x4, x6, ns⟩), q u rv⟩
theorem adm {X : Cx} {K : amR} {w : World} (hw : X.w = w) (hK : X.K = K) (hu : X.A.units + 64 < cLine) : aiU X (acn w K) := hw ▸ hK ▸ ajw hu
def aed (w : World) (K : amR) : R2 := fun x y H Q => ∃ a b d xs p v, x = .ref a /\ y = .ref b /\ H a = some (DicO w a xs) /\ acm K H xs /\ vm d /\ Rep K H d (.ref b) /\ atKey xs d = some p /\ RelV v p.2 /\ Q v H
theorem alw {X : Cx} (hu : X.A.units + 64 < cLine) : IxR X (aed X.w X.K) := by
 intro value slice pins s σ H x y v u Q I rx ry h hs
 obtain ⟨a, b, d, xs, p, z, rfl, rfl, hS, ks, kd, rd, hp, rz, q⟩ := h
 cases rx
 cases ry
 obtain ⟨hm, ns⟩ := ahT I hS ks
 have hu1 : X.A.in1.units = X.A.units + 1 := rfl
 refine subscriptTail_builtinR (x := p.2) hm.typeIs apW.lookup ?_ hs
 exact wpAny_getItem_heap (by show _ + 40 < cLine; omega) (qX I kd rd) hm hp ⟨rfl, z, H, I.tok _, rz, q⟩
theorem ajx {X : Cx} {K : amR} {w : World} (hw : X.w = w) (hK : X.K = K) (hu : X.A.units + 64 < cLine) : IxR X (aed w K) := hw ▸ hK ▸ alw hu
noncomputable def dput (k v : PyData) (kvs : List (PyData × PyData)) : List (PyData × PyData) := if k ∈ kvs.map (·.1) then kvs.map (fun p => if p.1 = k then (p.1, v) else p) else kvs ++ [(k, v)]
noncomputable def vo (k : PyData) (kvs : List (PyData × PyData)) : Option PyData := (kvs.find? fun p => decide (p.1 = k)).map (·.2)
section
variable {K : amR} {Hh : Hp}
theorem afn : ∀ {xs : List (PyData × Addr × Value)} {kvs : List (PyData × PyData)}, Paired (EntR K Hh) xs kvs -> xs.length = kvs.length
 | _, _, .nil => rfl
 | _, _, .cons _ t => by rw [anb, anb, afn t]
theorem qq : ∀ {xs : List (PyData × Addr × Value)} {kvs : List (PyData × PyData)}, Paired (EntR K Hh) xs kvs -> acm K Hh xs
 | _, _, .nil => fun z hz => nomatch hz
 | _, _, .cons h t => fun z hz => by
  rcases am2.mp hz with rfl | hz
  ·exact ⟨h.2.1, h.2.2.1⟩
  ·exact qq t z hz
theorem aco (k : PyData) : ∀ {xs : List (PyData × Addr × Value)} {kvs : List (PyData × PyData)}, Paired (EntR K Hh) xs kvs -> (atKey xs k = none /\ vo k kvs = none /\ k ∉ kvs.map (·.1)) \/ ∃ p d v, atKey xs k = some p /\ vo k kvs = some d /\ Rep K Hh d v /\ RelV v p.2 /\ k ∈ kvs.map (·.1)
 | _, _, .nil => .inl ⟨rfl, rfl, fun z => nomatch z⟩
 | x :: xs, p :: kvs, .cons ⟨h1, h2, h3, v, h4, h5⟩ t => by
  by_cases e : x.1 = k
  ·refine .inr ⟨x.2, p.2, v, ?_, ?_, h4, h5, ?_⟩
   ·unfold atKey; rw [apL, decide_eq_true e]; rfl
   ·unfold vo; rw [apL, decide_eq_true (h1 ▸ e)]; rfl
   ·rw [anh]; exact am2.mpr (.inl (h1 ▸ e).symm)
  ·have e' : ¬ p.1 = k := fun z => e (h1.trans z)
   have a1 : atKey (x :: xs) k = atKey xs k := by unfold atKey; rw [apL, decide_eq_false e]
   have a2 : vo k (p :: kvs) = vo k kvs := by unfold vo; rw [apL, decide_eq_false e']
   rw [a1, a2, anh]
   rcases aco k t with ⟨b1, b2, b3⟩ | ⟨q, d, u, b1, b2, b3, b4, b5⟩
   ·exact .inl ⟨b1, b2, fun z => (am2.mp z).elim (fun z => e' z.symm) b3⟩
   ·exact .inr ⟨q, d, u, b1, b2, b3, b4, amY _ b5⟩
theorem afo (k : PyData) {d : PyData} {v : V} {u : Value} (rd : Rep K Hh d v) (rv : RelV v u) : ∀ {xs : List (PyData × Addr × Value)} {kvs : List (PyData × PyData)}, Paired (EntR K Hh) xs kvs -> Paired (EntR K Hh) (xs.map (putAt k u)) (kvs.map fun p => if p.1 = k then (p.1, d) else p)
 | _, _, .nil => .nil
 | x :: xs, p :: kvs, .cons ⟨h1, h2, h3, w, h4, h5⟩ t => by
  rw [anh, anh]
  refine .cons ?_ (afo k rd rv t)
  unfold putAt
  by_cases e : x.1 = k
  ·rw [if_pos e, if_pos (h1 ▸ e)]
   exact ⟨h1, h2, h3, v, rd, rv⟩
  ·rw [if_neg e, if_neg (fun z => e (h1.trans z))]
   exact ⟨h1, h2, h3, w, h4, h5⟩
theorem afp {x : PyData × Addr × Value} {p : PyData × PyData} (h : EntR K Hh x p) : ∀ {xs : List (PyData × Addr × Value)} {kvs : List (PyData × PyData)}, Paired (EntR K Hh) xs kvs -> Paired (EntR K Hh) (xs ++ [x]) (kvs ++ [p])
 | _, _, .nil => .cons h .nil
 | _, _, .cons h' t => .cons h' (afp h t)
theorem ajy {k d : PyData} {b : Addr} {v : V} {u : Value} (kk : vm k) (rk : Rep K Hh k (.ref b)) (rd : Rep K Hh d v) (rv : RelV v u) {xs : List (PyData × Addr × Value)} {kvs : List (PyData × PyData)} (t : Paired (EntR K Hh) xs kvs) : Paired (EntR K Hh) (storedH xs k b u) (dput k d kvs) := by
 unfold storedH dput
 rcases aco k t with ⟨b1, b2, b3⟩ | ⟨q, d', v', b1, b2, b3, b4, b5⟩
 ·rw [b1, if_neg (by simp), if_neg b3]
  exact afp ⟨rfl, kk, rk, v, rd, rv⟩ t
 ·rw [b1, if_pos (show (some q).isSome = true from rfl), if_pos b5]
  exact afo k rd rv t
end
section
variable {w : World} {K : amR} {f : Fx} {Ds : List Addr} {ρ : zr} {cs : List OC} {te tk : TE} {O : MEnds} {i j : Nat} {kvs : List (PyData × PyData)}
theorem alx {P : OC -> Prop} (p : P (.dic [])) : ahL w K f (afm w) ρ P := fun σ H Q e q =>
 fun a hn => q (.dic []) a _ (.of_same (zY hn _) e.fd) hn ⟨[], zz, .nil⟩ p
theorem akw (hi : ρ[i]? = some (some (.own (f.M.length + j)))) (hc : cs[j]? = some (.dic kvs)) (hl : kvs.length <= 1000)
  (h : PEd K (f.withs Ds) te ρ fun v => PEd K (f.withs Ds) tk ρ fun k => agq k /\ O.nx ρ (cs.set j (.dic (dput k v kvs)))) :
  PSm w K f Ds (qJ te (acM (yn i) tk (acn w K))) ρ cs O := fun se σ H H2 E x n r b k => by
 have hj : j < Ds.length := by rw [<- x.len]; exact (amU.mp hc).1
 have hD : Ds[j]? = some Ds[j] := amP hj
 refine h σ H _ x.env fun v vv H1 g1 r1 p1 => ?_
 have x1 := x.go g1 (x.env.mono g1)
 refine ⟨_, vn hi x1 hD, ?_⟩
 refine p1 σ H1 _ x1.env fun kd kv H3 g3 r3 ⟨kt, p3⟩ => ?_
 have x3 := x1.go g3 (x1.env.mono g3)
 obtain ⟨b', rfl⟩ := aah kt r3
 obtain ⟨xs, h1, h2⟩ := x3.own j _ _ hD hc
 have rv := Rep.mono g3.sm _ _ r1
 refine ⟨Ds[j], b', kd, xs, rfl, rfl, h1, fun z hz => ⟨(qq h2 z hz).1, Rep.mono (zl _ _) _ _ (qq h2 z hz).2⟩, kt.1, Rep.mono (zl _ _) _ _ r3, by rw [afn h2]; exact hl, fun u ru => ?_⟩
 exact n _ _ _ _ (x3.put se hD (c' := .dic (dput kd v kvs)) ⟨_, zz, ajy kt.1 r3 rv ru h2⟩) p3
theorem amr {P : PyData -> Prop} (hi : ρ[i]? = some (some (.own (f.M.length + j)))) (hc : cs[j]? = some (.dic kvs)) (h : PEm w K f Ds tk ρ cs fun k => agq k /\ ∃ d, vo k kvs = some d /\ P d) : PEm w K f Ds (tOp (aed w K) (yn i) tk) ρ cs P := fun se σ H H2 Q x q => by
 have hj : j < Ds.length := by rw [<- x.len]; exact (amU.mp hc).1
 have hD : Ds[j]? = some Ds[j] := amP hj
 refine ⟨_, vn hi x hD, ?_⟩
 refine h se σ H H2 _ x fun k v H1 g1 r1 ⟨kt, d, hd, p⟩ => ?_
 have x1 := x.go g1 (x.env.mono g1)
 obtain ⟨b, rfl⟩ := aah kt r1
 obtain ⟨xs, h1, h2⟩ := x1.own j _ _ hD hc
 rcases aco k h2 with ⟨b1, b2, b3⟩ | ⟨pp, d', v', b1, b2, b3, b4, b5⟩
 ·rw [b2] at hd; cases hd
 ·rw [b2] at hd
  cases hd
  exact ⟨Ds[j], b, k, xs, pp, v', rfl, rfl, h1, fun z hz => ⟨(qq h2 z hz).1, Rep.mono (zl _ _) _ _ (qq h2 z hz).2⟩, kt.1, Rep.mono (zl _ _) _ _ r1, b1, b4, q _ _ H1 g1 b3 p⟩
theorem ams (h : PEm w K f Ds te ρ cs O.rt) : PSm w K f Ds (adR te) ρ cs O := fun se σ H H2 E x n r b k =>
 h se σ H H2 _ x fun d v H' g' r' p => r d v ρ cs σ H' (x.go g' (x.env.mono g')) (Rep.mono same_withs d v r') p
end
def ajz (K : amR) (ns : List Int) (v : Value) : Bool := match v with
 | .ref t => (match K.lookup t with
  | some o => o.cls == .type "tuple" && (match o.data with
   | .seq its _ => KTD.intsLook its.toList ns && decide (its.size <= 1000)
   | _ => false)
  | none => false)
 | _ => false
def agt (K : amR) (a : Addr) (D : List (Str × List Int)) : Bool := !(a == sysModules) && (match K.lookup a with
 | some o => o.cls == .type "dict" && o.dict.isNone && o.slots.isEmpty && (match o.data with
  | .dict es _ => KTD.rowsLook (ajz K) es.toList D
  | _ => false)
 | none => false)
theorem abD : ∀ {vs : List Value} {ns : List Int}, IntsAre vs ns -> Vals (ns.map V.int) vs
 | _, _, .nil => .nil
 | _, _, .cons n t h => .cons ⟨t, rfl⟩ (abD h)
theorem aly {K : amR} {ns : List Int} {v : Value} (h : ajz K ns v = true) : ∃ t, v = .ref t /\ ∀ H, SqT K H t (ns.map V.int) := by
 unfold ajz at h
 split at h
 ·rename_i t
  split at h
  ·rename_i o ho
   rw [amX] at h
   obtain ⟨h1, h2⟩ := h
   split at h2
   ·rename_i its n hd
    rw [amX] at h2
    exact ⟨t, rfl, fun H => .inr ⟨o, its, n, ho, beq_iff_eq.mp h1, hd, anE (yg (of_decide_eq_true h2.2)), abD (KTD.ints_of_look h2.1)⟩⟩
   ·cases h2
  ·cases h
 ·cases h
def amt (K : amR) (D : List (Str × List Int)) (tk : TE) : TE := fun σ H Q => tk σ H fun y H1 => ∃ x ns, y = .str x /\ aqH x D = some ns /\ ∀ t, (∀ H', SqT K H' t (ns.map V.int)) -> Q (.ref t) H1
theorem ahU {X : Cx} {K : amR} {x : Str} {a : Addr} {D : List (Str × List Int)} {key : Expr} {tk : TE} {p pos : Pos} (hK : X.K = K) (hg : Gl X x) (hm : X.mg x = some (.ref a)) (hT : agt K a D = true) (hk : PE X key tk) (hs : aeS key) (hd : (x == ("__debug__" : Str)) = false := by decide) :
  PE X (.Subscript (.Name x p) key pos) (amt K D tk) := by
 subst hK
 intro pins s σ H Q I h
 unfold agt at hT
 rw [amX] at hT
 obtain ⟨h0, hT⟩ := hT
 split at hT
 case h_2 => cases hT
 case h_1 o ho =>
  simp only [amX] at hT
  obtain ⟨⟨⟨e1, e2⟩, e3⟩, e4⟩ := hT
  split at e4
  case h_2 => cases e4
  case h_1 es ep hdat =>
   have rows : KTD.Rows (fun ns v => ajz X.K ns v = true) es.toList D := KTD.rows_of_look (fun _ _ z => z) e4
   refine Subscript_ (jQ I hg hm ?_ hd)
   refine thn (hk pins s σ H _ I h) fun u s1 ⟨y, H1, I1, ry, z, ns, ey, dat, q⟩ => ?_
   subst ey
   obtain ⟨tk', rfl⟩ := ry
   have ho1 : s1.heap.get? a = some o := I1.kIn a o ho
   have hT1 : s1.TypeIs (.ref a) "dict" := ⟨o, ho1, beq_iff_eq.mp e1⟩
   obtain ⟨v, hv, hr⟩ := rows.find_some dat
   obtain ⟨t, rfl, sq⟩ := aly hr
   refine subscriptTail_builtinR (x := .ref t) hT1 apW.lookup ?_ (hs _ _)
   unfold getItem
   try with_reducible refine wpAny_holding ?_
   apply wpAny_bind; refine wpAny_sequenceKey hT1 (by decide) ?_
   apply wpAny_bind
   refine wpAny_callSpecial?_slot (name := aou "__getitem__") hT1 slot_dict_getitem (wpAny_call_entry slot_dict_getitem hT1 entry_dict_getitem ?_ (args_dict_getitem _ _))
   show wpAny _ _ (dictGet a (.str z tk') >>= _) _ _ s1
   apply wpAny_bind
   unfold dictGet
   try with_reducible refine wpAny_holding ?_
   apply wpAny_bind; apply wpAny_pyHash_str
   apply wpAny_bind
   refine KTD.kt_dictFind_strs (s := { s1 with toks := s1.toks + 1 }) ho1 hdat (by obtain ⟨l⟩ := es; simpa using rows.exact) ?_
   cases hi : es.findIdx? fun e => e.key.isStr z with
   | none =>
    exfalso
    have hn : es.toList.find? (fun e => e.key.isStr z) = none := by
     rw [List.find?_eq_none]
     intro e he
     have := Array.findIdx?_eq_none_iff.mp hi e (apD.mp he)
     simpa using this
    rw [hn] at hv
    cases hv
   | some i =>
    obtain ⟨hlt, hi1, hi2⟩ := Array.findIdx?_eq_some_iff_getElem.mp hi
    have hval : es[i].val = .ref t := by
     have hf : es.toList.find? (fun e => e.key.isStr z) = some es[i] := by
      rw [List.find?_eq_some_iff_getElem]
      refine ⟨hi1, i, by simpa using hlt, by simp, fun j hj => ?_⟩
      have := hi2 j hj
      simpa using this
     rw [hf] at hv
     exact Option.some.inj hv
    apply wpAny_bind
    refine wpAny_dictEntries (s := { s1 with toks := s1.toks + 1 }) ho1 hdat (wpAny_pure ?_)
    rw [apV hlt]
    refine wpAny_pure ⟨es[i].val, rfl, wpAny_pure ?_⟩
    rw [hval]
    exact ⟨rfl, .ref t, H1, I1.tok _, rfl, q t sq⟩
section
variable {K : amR} {f : Fx} {ρ : zr} {P : PyData -> Prop} {tk : TE} {D : List (Str × List Int)}
theorem akx (h : PEd K f tk ρ fun y => ∃ x ns, y = .str x /\ aqH x D = some ns /\ P (.tuple (ns.map .int))) : PEd K f (amt K D tk) ρ P := fun σ H Q e q =>
 h σ H _ e fun y v H1 g1 r1 ⟨x, ns, ey, hd, p⟩ => by
  subst ey
  exact ⟨x, ns, rep_str.mp r1, hd, fun t sq => q _ _ H1 g1 (rep_tuple.mpr ⟨t, ns.map V.int, rfl, sq _, Reps.ints' ns⟩) p⟩
end
structure MinAt (h0 : Heap) (its : List Value) (ds : List PyData) (as : List Addr) : Prop where
 ra : ReadsAll h0 its ds as
 pl : ∀ d ∈ ds, zw d = true
 cp : ∀ d ∈ ds, ∀ e ∈ ds, aaa d e = true
 dp : ∀ d ∈ ds, d.depth <= 50
end L2
end
section
namespace L2
open PySem PySem.Spec PyProof.Rows
structure TM (K : amR) (f : Fx) (a : Addr) (as : List Addr) (H2 : Hp) (ρ : zr) (rows : List (List Int)) (σ : St) (H : Hp) : Prop where
 env : EnvOk K (f.withs (a :: as)) ρ σ H
 sm : Same (hide H2 (f.withs (a :: as))) (hide H (f.withs (a :: as)))
 kp : ∀ b ∈ f.M, H b = H2 b
 tab : TabAt H a as rows
end L2
end
section
namespace L2
open PySem PySem.Spec PyProof.Rows
section
variable {K : amR} {f : Fx} {ρ : zr} {ts tu : TS} {O : DEnds} {te : TE} {i : Nat}
theorem afq (J : zr -> Prop) (h1 : PSd K f ts ρ { O with nx := J }) (h2 : ∀ ρ', J ρ' -> PSd K f tu ρ' O) : PSd K f (v7 ts tu) ρ O :=
 zH fun σ H E e n r b k => h1 σ H E e (fun ρ' σ' H' g' e' p => n ρ' σ' H' g' e' (h2 ρ' p)) r b k
end
end L2
end
section
namespace L2
open PySem PySem.Spec PyProof.Rows
def PEv (K : amR) (f : Fx) (te : TE) (ρ : zr) (P : DV -> Prop) : Prop := ∀ (σ : St) (H : Hp) (Q : VK), EnvOk K f ρ σ H -> (∀ x v H', Goes f H H' -> RepV K f H' x v -> P x -> Q v H') -> te σ H Q
section
variable {w : World} {K : amR} {f : Fx} {ρ : zr} {Ds : List Addr} {cs : List OC} {te ta tk : TE} {ts tu : TS} {t : TA} {O : DEnds} {i j : Nat} {R : OC -> Prop}
theorem v_var {P : DV -> Prop} {x : DV} (h : ρ[i]? = some (some x)) (p : P x) : PEv K f (yn i) ρ P := fun σ H Q e q => by
 obtain ⟨v, h1, h2⟩ := e.get i x h
 exact ⟨v, h1, q x v H (.refl e.fd) h2 p⟩
theorem amu {R : List DV -> Prop} {u : TA} (h : PEv K f te ρ fun x => PAd K f u ρ fun xs => R (x :: xs)) : PAd K f (yo te u) ρ R := fun σ H Q e q =>
 h σ H _ e fun x v H1 g1 r1 p => p σ H1 _ (e.mono g1) fun xs vs H2 g2 r2 p2 => q (x :: xs) (v :: vs) H2 (g1.trans g2) (.cons (RepV.mono g2 r1) r2) p2
end
end L2
end
section
namespace L2
open PySem PySem.Spec PyProof.Rows
def Itz (K : amR) (a b : Addr) : It :=
 ⟨fun i H => ∃ xs ys x y, SqL K H a xs /\ SqL K H b ys /\ xs[i]? = some x /\ ys[i]? = some y, fun i H v H' => ∃ t x y, v = .ref t /\ H t = none /\ H' = upd H t (.tup [x, y]) /\ (∀ xs, SqL K H a xs -> xs[i]? = some x) /\ ∀ ys, SqL K H b ys -> ys[i]? = some y,
  fun i H => ∃ xs ys, SqL K H a xs /\ SqL K H b ys /\ (xs.length <= i \/ ys.length <= i)⟩
theorem ahV {P : Program} {w : World} {K : amR} {es : List Expr} {k : Nat} {pos : Pos} (a b z q1 q2 c1 c2 : Addr) (D : ZipApart z q1 q2 c1 c2 a b) :
  Turn P w K (.Tuple es k pos) (Itz K a b) [z, q1, q2, c1, c2] z (fun i h => IsZip h z q1 q2 .none /\ IsPair h q1 (.ref c1) (.ref c2) /\ (∃ u v, IsPair h q2 u v) /\ h.IsListIter c1 a i /\ h.IsListIter c2 b i) where
 mem := by simp
 obj := fun i h st x hx => by
  obtain ⟨s1, s2, ⟨u, v, s3⟩, ⟨o4, e4, _, d4⟩, ⟨o5, e5, _, d5⟩⟩ := st
  simp only [am2, anL, or_false] at hx
  rcases hx with rfl | rfl | rfl | rfl | rfl
  ·exact ⟨_, s1, fun y z => by have z' : Data.fields _ = Data.cell y := z; cases z'⟩
  ·exact ⟨_, s2, fun y z => by have z' : Data.seq _ = Data.cell y := z; cases z'⟩
  ·exact ⟨_, s3, fun y z => by have z' : Data.seq _ = Data.cell y := z; cases z'⟩
  ·exact ⟨o4, e4, fun y z => by rw [d4] at z; cases z⟩
  ·exact ⟨o5, e5, fun y z => by rw [d5] at z; cases z⟩
 keep := fun i h h' st kk => by
  obtain ⟨s1, s2, ⟨u, v, s3⟩, s4, s5⟩ := st
  exact ⟨kk z (by simp) _ s1, kk q1 (by simp) _ s2, ⟨u, v, kk q2 (by simp) _ s3⟩, s4.at fun o e => kk c1 (by simp) o e, s5.at fun o e => kk c2 (by simp) o e⟩
 item := by
  intro X hP hw hK hc i pins s σ H E I hf st hg
  subst hP hw hK
  obtain ⟨xs, ys, x, y, hq, hp, hx, hy⟩ := hg
  obtain ⟨its, rv, p, _⟩ := I.list hq
  obtain ⟨u, hu, ru⟩ := rv.get hx
  obtain ⟨its', rv', p', _⟩ := I.list hp
  obtain ⟨v, hv, rv2⟩ := rv'.get hy
  obtain ⟨s1, s2, ⟨u0, v0, s3⟩, s4, s5⟩ := st
  refine wpAny_pyNext_zip_item D s1 s2 s3 s4 s5 p.isList p'.isList (x := u) (y := v) (by simpa using hu) (by simpa using hv) fun h' n1 n3 n4 n5 tp sz kp => ?_
  refine ⟨_, rfl, ?_⟩
  refine wpAny_letOwnedTupleGo_zip (s := { s with heap := h' }) n1 fun h2 m1 sb => ?_
  have old : ∀ c ∈ [z, q1, q2, c1, c2], c < s.heap.objs.size := fun c hc => by
   obtain ⟨o4, e4, _, _⟩ := s4
   obtain ⟨o5, e5, _, _⟩ := s5
   simp only [am2, anL, or_false] at hc
   rcases hc with rfl | rfl | rfl | rfl | rfl
   ·exact amZ s1
   ·exact amZ s2
   ·exact amZ s3
   ·exact amZ e4
   ·exact amZ e5
  have kk : ∀ c o, c ∉ [z, q1, q2, c1, c2] -> s.heap.get? c = some o -> h2.get? c = some o := fun c o hc e => by
   have z1 : c ≠ z := fun z => hc (by simp [z])
   have z3 : c ≠ q2 := fun z => hc (by simp [z])
   have z4 : c ≠ c1 := fun z => hc (by simp [z])
   have z5 : c ≠ c2 := fun z => hc (by simp [z])
   exact (sb.2 c z1).trans (kp c o z1 z3 z4 z5 e)
  have hlt : z < s.heap.objs.size := old z (by simp)
  have I2 : Inv X pins σ (upd H s.heap.objs.size (.tup [x, y])) { s with heap := h2, toks := s.toks } := I.turnedNew (t' := s.toks) hf kk (amV _)
   ⟨by show 2 <= sizeLine; decide, [u, v], .cons ru (.cons rv2 .nil), ⟨_, (sb.2 _ (aoW hlt)).trans tp, rfl, _, rfl⟩⟩
  refine ⟨.ref s.heap.objs.size, _, I2, rfl, ⟨_, x, y, rfl, I.fresh, rfl, fun zs hz => by rw [I.list_inj hz hq]; exact hx, fun zs hz => by rw [I.list_inj hz hp]; exact hy⟩, ⟨m1, ?_, ⟨u, v, ?_⟩, ?_, ?_⟩, fun c hc => ?_⟩
  ·exact (sb.2 q1 D.TIz).trans (kp q1 _ D.TIz D.TITO D.TIi1 D.TIi2 s2)
  ·exact (sb.2 q2 D.TOz).trans n3
  ·exact n4.at fun o eo => (sb.2 c1 D.i1z).trans eo
  ·exact n5.at fun o eo => (sb.2 c2 D.i2z).trans eo
  ·rw [zy (ano (old c hc))]
   exact (hf c hc).1
 done := by
  intro X hP hw hK hc i pins s σ H E I hf st hg
  subst hP hw hK
  obtain ⟨xs, ys, hq, hp, hx⟩ := hg
  obtain ⟨its, rv, p, _⟩ := I.list hq
  obtain ⟨its', rv', p', _⟩ := I.list hp
  obtain ⟨s1, s2, ⟨u0, v0, s3⟩, s4, s5⟩ := st
  have hl := rv.length
  have hl' := rv'.length
  exact wpAny_pyNext_zip_end (I.ok.hd hc) D s1 s2 s3 s4 s5 p.isList p'.isList (hx.imp (fun h => by simp; omega) fun h => by simp; omega) fun h' eb => ⟨rfl, I.turnedAll (t' := s.toks) hf fun c o hb e' => eb c o (fun z => hb (by simp [z])) (fun z => hb (by simp [z])) (fun z => hb (by simp [z])) (fun z => hb (by simp [z])) e'⟩
 self := fun _ _ _ _ _ st h => wpAny_pyIter_zip st.1 h
section
variable {X : Cx} {es : List Expr} {k : Nat} {tpos : Pos}
def alz (K : amR) (ta : TA) : TI := fun σ H R => ta σ H fun vs H1 => ∃ a b, vs = [.ref a, .ref b] /\ (∃ xs, SqL K H1 a xs) /\ (∃ ys, SqL K H1 b ys) /\ R (Itz K a b) H1
theorem alA {a b : Expr} {ta : TA} {p pos : Pos} (hg : Gl X "zip") (hm : X.mg "zip" = none) (ha : PA X [a, b] ta) (hs : starEach [a, b] X.env = (false, eval a X.env) :: starEach [b] X.env := by rfl) (hl : (backTo pos (starEach [b] X.env)).any (·.1) = false := by rfl) : PI X (.Tuple es k tpos) (.Call (.Name "zip" p) [a, b] [] pos) (alz X.K ta) := by
 intro pins s σ H R I h
 refine Call_ (qR I hg hm boot_zip (aos (thn (ha pos pins s σ H _ I h) fun us s1 ⟨vs, H1, I1, r1, q1⟩ => ?_) hs hl))
 obtain ⟨l, l', e, ⟨xs, hq⟩, ⟨ys, hp⟩, q⟩ := q1
 subst e
 cases r1 with
 | cons r rr =>
  cases rr with
  | cons r' rr' =>
   cases rr'
   cases r
   cases r'
   obtain ⟨its, rv, p, _⟩ := I1.list hq
   obtain ⟨its', rv', p', _⟩ := I1.list hp
   obtain ⟨o1, e1, _⟩ := id p.isList
   obtain ⟨o2, e2, _⟩ := id p'.isList
   refine call_zip_2 p.isList p'.isList fun h' n1 n2 n3 n4 n5 hsz kp => ?_
   refine wpAny_pyIter_zip n1 ?_
   refine ⟨_, [s1.heap.objs.size + 4, s1.heap.objs.size + 2, s1.heap.objs.size + 3, s1.heap.objs.size, s1.heap.objs.size + 1], _, _, H1, rfl, I1.kept (t' := s1.toks) kp, ahV l l' _ _ _ _ _ (zipApart_new (amZ e1) (amZ e2)), ⟨n1, n2, ⟨_, _, n3⟩, n4, n5⟩, fun c hc => ?_, q⟩
   have hle : s1.heap.objs.size <= c := by
    simp only [am2, anL, or_false] at hc
    rcases hc with rfl | rfl | rfl | rfl | rfl <;> omega
   exact I1.fpOk hle (I1.hok.fresh hle)
theorem ajA {K : amR} {a b : Expr} {ta : TA} {p pos : Pos} (hK : X.K = K) (hg : Gl X "zip") (hm : X.mg "zip" = none) (ha : PA X [a, b] ta) (hs : starEach [a, b] X.env = (false, eval a X.env) :: starEach [b] X.env := by rfl) (hl : (backTo pos (starEach [b] X.env)).any (·.1) = false := by rfl) : PI X (.Tuple es k tpos) (.Call (.Name "zip" p) [a, b] [] pos) (alz K ta) := hK ▸ alA hg hm ha hs hl
end
end L2
end
section
namespace L2
open PySem PySem.Spec PyProof.Rows
open PySem.SeqAt
open PySem.AutoSeq1 (wpAny_loadPart')
def amO (A : Around) (s : Shared) (y x : Value) (b : Bool) : Prop :=
 ∀ (prog : Program) (w : World) (E : Value -> Shared -> Prop) (Q : Value -> Shared -> Prop), Q (.bool b) s -> wpAny (model prog w) A (richCompare .GtE y x) Q E s
inductive Gex (A : Around) (s : Shared) : List Value -> List Value -> Bool -> Prop where
 | nn : Gex A s [] [] true
 | eq {v w vs ws b} : EqAt A s v w true -> Gex A s vs ws b -> Gex A s (v :: vs) (w :: ws) b
 | ge {v w vs ws b} : EqAt A s v w false -> amO A s v w b -> vs.length = ws.length -> Gex A s (v :: vs) (w :: ws) b
def aab (o : Obj) : Option Value := match o.data with
 | .fields vs => vs[2]?
 | _ => none
def KD (h h' : Heap) : Prop := ∀ b o, h.get? b = some o -> ∃ u, h'.get? b = some u /\ u.dict = o.dict /\ aab u = aab o
theorem KD.refl (h : Heap) : KD h h := fun _ o e => ⟨o, e, rfl, rfl⟩
theorem KD.trans {h i j : Heap} (a : KD h i) (b : KD i j) : KD h j := fun c o e =>
 let ⟨u, e1, d1, f1⟩ := a c o e
 let ⟨v, e2, d2, f2⟩ := b c u e1
 ⟨v, e2, d2.trans d1, f2.trans f1⟩
theorem KD.push (h : Heap) (o : Obj) : KD h (h.push o) := fun _ u e => ⟨u, amW _ e, rfl, rfl⟩
theorem KD.update (h : Heap) (a : Addr) (f : Obj -> Obj) (k : ∀ o, (f o).dict = o.dict /\ (f o).isFreed = o.isFreed /\ aab (f o) = aab o) : KD h (h.update a f) := fun b o e => by
 by_cases q : a = b
 ·subst q
  exact ⟨f o, aoz f e (by rw [(k o).2.1]; exact (Heap.get?_some_iff.mp e).2), (k o).1, (k o).2.2⟩
 ·exact ⟨o, (anz h f q).trans e, rfl, rfl⟩
def yl {α : Type} (t : Sem α) : Prop := ∀ (M : Model) (Γ : PySem.Ctx) (Q : α -> Pos -> Shared -> Prop) (E : Value -> Pos -> Shared -> Prop) (p : Pos) (s : Shared),
 Sem.wp M Γ t Q E p s -> Sem.wp M Γ t (fun a p' s' => Q a p' s' /\ KD s.heap s'.heap) E p s
section
variable {α β : Type}
theorem acp (a : α) : yl (pure a : Sem α) := fun _ _ _ _ _ s h => ⟨h, .refl _⟩
theorem alB (x : String) : yl (unsupported x : Sem α) := fun _ _ _ _ _ _ h => h
theorem afr {m : Sem α} {f : α -> Sem β} (a : yl m) (b : ∀ x, yl (f x)) : yl (m >>= f) := fun M Γ Q E p s h => by
 rw [Sem.wp_bind'] at h ⊢
 refine aq4 M Γ m (fun x p' s' z => ?_) (fun _ _ _ z => z) p s (a M Γ _ E p s h)
 exact aq4 M Γ (f x) (fun _ _ _ y => ⟨y.1, z.2.trans y.2⟩) (fun _ _ _ y => y) p' s' (b x M Γ Q E p' s' z.1)
theorem alC {c : Prop} [Decidable c] {t u : Sem α} (a : yl t) (b : yl u) : yl (if c then t else u) := by split <;> assumption
theorem ajB (a : Addr) : yl (load a) := fun _ _ _ _ _ _ h => let ⟨o, e, q⟩ := h; ⟨o, e, q, .refl _⟩
theorem ahW : yl stack := fun _ _ _ _ _ _ h => ⟨h, .refl _⟩
theorem ahX (o : Obj) : yl (alloc o) := fun _ _ _ _ _ _ h => ⟨h, .push _ _⟩
theorem agu (a : Addr) (f : Obj -> Obj) (k : ∀ o, (f o).dict = o.dict /\ (f o).isFreed = o.isFreed /\ aab (f o) = aab o) : yl (update a f) := fun _ _ _ _ _ _ h => ⟨h.1, h.2, .update _ _ _ k⟩
end
local macro_rules | `(tactic| walk_at "kd") => `(tactic| with_reducible first
  | assumption
  | exact acp _
  | exact alB _
  | exact ajB _
  | exact kd_loadPart _ _
  | exact ahW
  | exact ahX _
  | exact kd_reg _
  | apply alC
  | apply afr
  | intro _
  | split)
theorem aaQ (v : Value) (i : Nat) : yl (field v i) := fun _ Γ Q E p s h => by
 obtain ⟨a, o, vs, x, h1, h2, h3, h4, h5⟩ := (wp_field_iff Γ v i Q E p s).mp h
 exact (wp_field_iff Γ v i _ E p s).mpr ⟨a, o, vs, x, h1, h2, h3, h4, h5, .refl _⟩
theorem vY (v : Value) (i : Nat) (x : Value) (hi : i ≠ 2) : yl (setField v i x) := fun _ Γ Q E p s h => by
 obtain ⟨a, o, vs, h1, h2, h3, h4, h5⟩ := (wp_setField_iff Γ v i x Q E p s).mp h
 refine (wp_setField_iff Γ v i x _ E p s).mpr ⟨a, o, vs, h1, h2, h3, h4, h5, .update _ _ _ fun u => ?_⟩
 obtain ⟨c, d, dt, sl⟩ := u
 cases dt <;> first | exact ⟨rfl, rfl, rfl⟩ | exact ⟨rfl, rfl, apt hi⟩
theorem agv (env : Env) (l : List Env) : yl (behindIsImport env l) := by
 unfold behindIsImport
 have := aaQ env.code 12
 repeat' walk_at "kd"
theorem agw : yl underTheClaimsCaller := by
 unfold underTheClaimsCaller
 repeat' walk_at "kd"
theorem ajC (env : Env) (i : Bool) (l : List Env) : yl (keptBack env i l) := by
 have := agw
 cases l <;> unfold keptBack <;> repeat' walk_at "kd"
theorem adn : ∀ l : List Env, yl (readyFrames l)
 | [] => acp _
 | env :: l => by
  have ih := adn l
  have h1 := agv env l
  have h2 := fun i => ajC env i l
  unfold readyFrames
  repeat' (first | walk_at "kd" | exact h2 _ | (refine agu _ _ fun ⟨c, d, dt, sl⟩ => ?_; cases dt <;> exact ⟨rfl, rfl, rfl⟩))
theorem ahY (env : Env) : yl (PySem.frameOf env) := by
 unfold PySem.frameOf frameEnvs
 have h2 : ∀ l, yl (frameObject l) := fun l => by
  cases l with
  | nil => exact acp _
  | cons a l =>
   have := adn (a :: l)
   unfold frameObject
   repeat' walk_at "kd"
 repeat' (first | walk_at "kd" | exact h2 _)
theorem vL (e : Value) (f : Option Addr) : yl (setFlight e f) := by
 unfold setFlight
 repeat' (first | walk_at "kd" | exact aaQ _ _ | exact vY _ _ _ (by decide))
theorem ahZ (f : Addr) (b : Bool) : yl (entryPlaceOf f b) := by
 unfold entryPlaceOf
 repeat' walk_at "kd"
theorem ah0 (a b c d e : Value) (l : List Value) : yl (aqO a b c d e l) := by
 unfold aqO newFields newObj newObjAsIs classHasDel
 repeat' walk_at "kd"
theorem afs (e : Value) (env : Env) : yl (noteFrame e env) := by
 unfold noteFrame
 repeat' (first | walk_at "kd" | exact aaQ _ _ | exact vY _ _ _ (by decide) | exact ahY _ | exact ahZ _ _ | exact ah0 _ _ _ _ _ _)
theorem ah1 (env : Env) (e : Value) : yl (leaving env e) := by
 unfold leaving
 exact afr (afs _ _) fun _ => vL _ _
theorem aft {α : Type} {t : Sem α} {M : Model} {A : Around} {Q Q' : α -> Shared -> Prop} {E : Value -> Shared -> Prop} {s : Shared} (k : yl t) (h : wpAny M A t Q E s) (q : ∀ a s', Q a s' -> KD s.heap s'.heap -> Q' a s') : wpAny M A t Q' E s := fun Γ p hΓ =>
 aq4 M Γ t (fun a _ s' z => q a s' z.1 z.2) (fun _ _ _ z => z) p s (k M Γ _ _ p s (h Γ p hΓ))
def Dct (a : Addr) (o : Option Addr) (h : Heap) : Prop := ∃ u, h.get? a = some u /\ aab u = some .none /\ ∀ dx, o = some dx -> u.dict = some dx
theorem Dct.kd {a : Addr} {o : Option Addr} {h h' : Heap} (x : Dct a o h) (k : KD h h') : Dct a o h' :=
 let ⟨u, q, f, d⟩ := x
 let ⟨v, q2, d2, f2⟩ := k a u q
 ⟨v, q2, f2.trans f, fun dx e => d2.trans (d dx e)⟩
def CXf (P : Program) (w : World) : CXT := fun outer H s E e s' => ∃ a C o H', e = .ref a /\ XLie P w outer H s a C H' s' /\ Dct a o s'.heap /\ E C o H'
def aky (a : Addr) (C : Value) (o : Option Addr) (h : Heap) : Prop := ∃ t, h.get? a = some { cls := C, dict := o, data := .fields #[.ref t, .none, .none, .none, .bool false, .none] }
end L2
end
section
namespace L2
open PySem PySem.Spec PyProof.Rows PySem.Builtin Builtin Builtin.ObjectAttr
def ah2 (K : amR) (C f : Addr) (bmB : List Value) (newId : String) : Bool :=
 match K.lookup C with
 | some ⟨c0, _, .cls cd, sl⟩ => c0 == .type "type" && cd.mro.head? == some (.ref C) && cd.hasDel == false && cd.hasDict && PySem.W.tailIn K bmB cd.mro.tail && PySem.W.nsOkIn K cd.ns && anf K cd.ns "__init__" == some (some (.ref f))
   && sl.toList.length == 6 && sl.toList[4]? == some (some (.builtin newId))
 | _ => false
structure XCls (h : Heap) (C f : Addr) (bmB : List Value) (newId : String) : Prop where
 ex : ∃ nm q N bs bm sn sub ab col dd k0 k1 k2 k3 k5 mN, h.get? C = some (excClassObj nm q C N bs bm true sn sub ab col dd k0 k1 k2 k3 k5 newId) /\ h.Ns N mN /\ mN "__init__" = some (.ref f) /\ OwnTail h bmB bm
end L2
end
section
namespace L2
open PySem PySem.Spec PySem.W PyProof.Rows PySem.Calls PySem.Builtin Builtin Builtin.ObjectAttr
abbrev bare (C : Addr) (o : Option Addr) (t : Addr) : Obj := { cls := .ref C, dict := o, data := .fields #[.ref t, .none, .none, .none, .bool false, .none] }
abbrev bmV : List Value := [.type "ValueError", .type "Exception", .type "BaseException", .type "object"]
structure FldC (K : amR) (C f D : Addr) (name : Str) : Prop where
 wi : ah2 K C f bmV "ValueError.__new__" = true
 fn : PySem.W.typeIn K (.ref f) = some (.type "function")
 ob : ap1 K C (.type "object") = some true
 sa : aoc K (.ref C) "__setattr__" = some (some (.builtin "object.__setattr__"))
 na : aoc K (.ref C) name = some none
 rd : PySem.W.readsIn K D (.type "type") = true
 sp : apd K (.ref D) "__getattribute__" = some (some (.builtin "type.__getattribute__"))
 kp : anH K (.ref C) = true
 fi : PySem.W.findCls K (.ref D) (.type "type") "__init__" = some (.val (.builtin "ValueError.__init__"))
section
variable {X : Cx} {pins : List (Addr × Obj)} {σ : St} {H H' : Hp} {s s' : Shared} {h' : Heap} {a b dx C D f : Addr} {o : HO} {t' : Nat} {name : Str}
def alD (C : Addr) (name : Str) : Sp := fun vs H Q _ => ∃ a y, vs = [.ref a, y] /\ H a = some (.ext (aky a (.ref C) none)) /\ ∀ dx, H dx = none -> dx ≠ a -> Q .non (upd (upd H dx (.xd [(name, y)])) a (.ext (aky a (.ref C) (some dx))))
end
section
variable {X : Cx} {pins : List (Addr × Obj)} {σ : St} {H H' : Hp} {s s' : Shared} {C D f : Addr} {name : Str} {k : Nat} {fd : FuncData} {ps : List Str}
theorem ah3 {P : Program} {w : World} {K : amR} {mg : Str -> Option Value} {base : Heap} {N : List Str} {qual : Str} {scope : Scope} {f : Addr} {cd : Value} {A : Around} {outer : List Env} {s : Shared} {H : Hp} {E : XK} :
  ∀ e s', wpAny (model P w) (zM (CXf P w) P w K mg base N qual scope f cd A outer s H E).A (leaving (zM (CXf P w) P w K mg base N qual scope f cd A outer s H E).env e) (fun _ s'' => CXf P w outer H s E e s'') (fun _ _ => False) s' ->
   (zM (CXf P w) P w K mg base N qual scope f cd A outer s H E).xe e s' := fun e s' h => wpAny_mono h (fun _ _ y => y) fun _ _ z => z.elim
theorem Fun.okF {P : Program} {w : World} {K : amR} {mg : Str -> Option Value} {base : Heap} {x qual : Str} {st : Stmt} {f : Addr} {fd : FuncData} {N ps : List Str} {k : Nat} {sp : Sp} (F : Fun K x qual st f fd) (S : FnScope N ps (zh st)) (len : ∀ vs H Q E, sp vs H Q E -> vs.length = ps.length)
  (hbody : ∀ (cdv : Value) (A : Around) (outer : List Env) (s : Shared) (H : Hp) (vs : List V) (Q : VK) (E : XK), Room k (A.deeper (envOfC qual (zh st) s.heap.objs.size f cdv)) -> sp vs H Q E ->
   ∃ t, PSs (zM (CXf P w) P w K mg base N qual (zh st) f cdv A outer s H E) (yq st) t /\ t { nx := fun _ H' => Q .non H', rt := Q } (start N vs) H) : FnOk P w K mg base (CXf P w) (k + 1) f fd ps sp := by
 obtain ⟨oc, od, kV, doc, pm, an, cdv, ct, osl, rfl, lk, hcd⟩ := F.ex
 exact akk lk hcd S len fun A outer s H vs Q E hr hsp => hbody cdv A outer s H vs Q E hr hsp
end
def ExcAt (a : Addr) (C : Value) (o : Option Addr) (h : Heap) : Prop := ∃ u, h.get? a = some u /\ u.cls = C /\ aab u = some .none /\ ∀ dx, o = some dx -> u.dict = some dx
section
variable {X : Cx} {pins : List (Addr × Obj)} {σ : St} {H H1 H2 : Hp} {s s1 s2 : Shared} {a C0 : Addr} {C : Value} {o : Option Addr} {i j : Nat} {n hx : Str} {b0 : Stmt} {suite : List Stmt} {hp hpos : Pos} {ts : TS} {D : Ends}
theorem amv (I : Inv X pins σ H1 s1) (x : XLie X.prog X.w X.stack H1 s1 a C H2 s2) (dc : Dct a o s2.heap) (hst : X.stack = X.env :: X.outer) (hf : X.env.frame = some X.env.locals) (hN : X.N.Nodup) (hj : X.N[j]? = some n) (hn : X.env.scope.names.lookup n = some .local)
  (hg : Gl X hx) (hm : X.mg hx = some (.ref C0)) (hit : apo X.K C (.ref C0) = some true) (hs : PSs (X.marked (.ref a)) (b0 :: suite) ts) (h : ts (ab3 D j) (σ.set j (some (.ref a))) (upd H2 a (.ext (ExcAt a C o))))
  (hd : (hx == ("__debug__" : Str)) = false := by decide) :
  wpAny (model X.prog X.w) X.A (noteFrame (.ref a) X.env) (fun _ t2 => wpAny (model X.prog X.w) X.A (setFlight (.ref a) none) (fun _ t3 =>
   wpAny (model X.prog X.w) X.A (handleBy (.ref a) X.env [.ExceptHandler (some (.Name hx hp)) (some n) (b0 :: suite) hpos]) (SP X pins D) X.xe t3) X.xe t2) X.xe s2 := by
 obtain ⟨B, a0, fl, dom, trk⟩ := x.fly
 have fl0 := fl
 rw [hst] at fl0
 refine aft (afs _ _) (wpAny_looks_onW (by rw [I.ok.frames, hst]) hf fl0 (Q := fun _ s' => ∃ h4, s' = { s2 with heap := h4 } /\ Heap.HeldW B (X.env :: X.outer) a C a0 X.env.locals h4 /\ s2.heap.UpToSlots h4) fun h4 held up4 => ⟨h4, rfl, held, up4⟩) ?_
 rintro _ _ ⟨h4, rfl, held, up4⟩ kd4
 refine aft (vL _ _) (wpAny_landsW held (Q := fun _ s' => ∃ h5, s' = { s2 with heap := h5 } /\ aqj B (X.env :: X.outer) a C a0 h5 /\ h4.UpToSlots h5) fun h5 fl5 up5 => ⟨h5, rfl, fl5, up5⟩) ?_
 rintro _ _ ⟨h5, rfl, fl5, up5⟩ kd5
 have mv : ∀ {hh : Heap}, B.StaysIn hh -> s2.heap.UpToSlots hh -> Un (frs X.stack) [] H1 H2 s1.heap hh /\ HOk X.prog X.w H2 hh := fun st up => x.move fl dom trk st up
 have I5 : Inv X pins σ H2 { s2 with heap := h5 } := I.call' (s' := { s2 with heap := h5 }) x.os (mv fl5.1 (up4.trans up5)).1 (mv fl5.1 (up4.trans up5)).2 x.bare (fun b z => absurd z (by simp))
 refine wpAny_handleBy_cons (codeAny_handlers_test (jQ (X := X.marked (.ref a)) (I5.marked (.ref a)) hg hm ?_ hd)) (by intro q; cases q)
 obtain ⟨ob, hob, hoc⟩ := fl5.there
 have LT : PySem.W.Looks (model X.prog X.w) h5 (typeOf (.ref a)) C := by
  subst hoc
  exact (PySem.W.Looks.ld hob).andThen .now
 refine (PySem.W.exm_one I5.kIn LT hit).at (codeAny_handlers_suite_as ?_)
 refine aft (vL _ _) (lands_againW fl5 (Q := fun _ s' => ∃ h6, s' = { s2 with heap := h6 } /\ aqj B (X.env :: X.outer) a C a0 h6 /\ h5.UpToSlots h6) fun h6 fl6 up6 => ⟨h6, rfl, fl6, up6⟩) ?_
 rintro _ _ ⟨h6, rfl, fl6, up6⟩ kd6
 obtain ⟨un, ok⟩ := mv fl6.1 ((up4.trans up5).trans up6)
 have fr6 : H2 a = none := x.free
 have ne : ∀ {b : Addr} {u : HO}, H2 b = some u -> upd H2 a (.ext (ExcAt a C o)) b = some u := fun {b u} e => by
  rw [zy fun z => by rw [z, fr6] at e; cases e]
  exact e
 have here : ExcAt a C o h6 := by
  obtain ⟨u, h1, h2⟩ := fl6.there
  obtain ⟨v, z1, z2, z3⟩ := ((dc.kd kd4).kd kd5).kd kd6
  rw [h1] at z1
  cases z1
  exact ⟨u, h1, h2, z2, z3⟩
 have I7 : Inv X pins σ (upd H2 a (.ext (ExcAt a C o))) { s2 with heap := h6 } := by
  refine I.call' (s' := { s2 with heap := h6 }) x.os ⟨un.keep, un.slot, fun b u q m z => ?_, un.there, fun b xs q => ne (un.tups b xs q), fun b u v q => ne (un.frzs b u v q), fun b ps q => ?_⟩ (fun b u e => ?_) x.bare (fun b z => absurd z (by simp))
  ·rw [zy fun e => by rw [e, x.new] at q; cases q]
   exact un.free b u q m z
  ·obtain ⟨more, q2⟩ := un.tbls b ps q
   exact ⟨more, ne q2⟩
  ·by_cases hb : b = a
   ·subst hb
    rw [zz] at e
    cases e
    obtain ⟨u, z⟩ := here
    exact ⟨⟨u, z⟩, ⟨u, z.1⟩, fun g1 g2 p k => let ⟨v, q1, q2⟩ := p; ⟨v, k v q1, q2⟩⟩
   ·rw [zy hb] at e
    exact (ok b u e).stay (fun c v _ q => q) (fun c q => ne q) fun c xs q => ne q
 refine je (X := X.marked (.ref a)) (v := .ref a) (I7.marked _) hN hj (.inl hn) rfl (fun s8 I8 => ?_) (.inr hn)
 refine wpAny_mono (hs pins s8 _ _ (ab3 D j) I8 h) (fun f s9 q => ?_) fun _ _ z => z.elim
 show wpAny (model X.prog X.w) X.A (do bindName X.env n .none; unbindBehindTheSuite X.env n hpos) (fun _ t => SP X pins D f t) X.xe s9
 cases f with
 | next =>
  obtain ⟨σ', H', I9, q9⟩ := q
  exact ab4 (I9.unmarked I.ok) hN hj hn fun s' I' => ⟨_, H', I', q9⟩
 | brk =>
  obtain ⟨σ', H', I9, q9⟩ := q
  exact ab4 (I9.unmarked I.ok) hN hj hn fun s' I' => ⟨_, H', I', q9⟩
 | cont =>
  obtain ⟨σ', H', I9, q9⟩ := q
  exact ab4 (I9.unmarked I.ok) hN hj hn fun s' I' => ⟨_, H', I', q9⟩
 | ret u =>
  obtain ⟨v, σ', H', I9, r9, q9⟩ := q
  exact ab4 (I9.unmarked I.ok) hN hj hn fun s' I' => ⟨v, _, H', I', r9, q9⟩
end
end L2
end
section
namespace L2
open PySem PySem.Spec PySem.W PyProof.Rows PySem.Calls PySem.Builtin Builtin Builtin.ObjectAttr Builtin.Getset_descriptor
theorem alE {h : Heap} {a C : Addr} {o : Option Addr} (x : ExcAt a (.ref C) o h) : aaH a C h := let ⟨u, h1, h2, _⟩ := x; ⟨u, h1, h2⟩
def alF (K : amR) : List V -> Hp -> VK -> Prop := fun xs H Q => ∃ a C o c b, xs = [.ref a, c] /\ H a = some (.ext (ExcAt a (.ref C) o)) /\ ExcWays K C /\ ((∃ n, c = .ty n /\ ang K (.ref C) (.type n) = some b) \/ ∃ D, c = .ref D /\ ang K (.ref C) (.ref D) = some b) /\ Q (.bl b) H
theorem yx {X : Cx} {K : amR} (hK : X.K = K) : yk X (.builtin "isinstance") (alF K) := by
 subst hK
 intro pins s σ H xs us Q I r h
 obtain ⟨a, C, o, c, b, rfl, hH, Wy, hc, q⟩ := h
 obtain ⟨u, w', rfl, rx, rn⟩ := vals2 r
 cases rx
 have hI : aaH a C s.heap := alE (I.hok a _ hH).1
 rcases hc with ⟨n, rfl, hk⟩ | ⟨D, rfl, hk⟩ <;> cases rn <;> exact PySem.W.kia_one (aho Wy) I.kIn hI hk (fun z => nomatch z) fun tk => ⟨.bl b, H, I.tok tk, rfl, q⟩
def PBy (X : Cx) (body : List Stmt) (tb : XK -> TS) : Prop := ∀ (pins : List (Addr × Obj)) (s : Shared) (σ : St) (H : Hp) (D : Ends) (E : XK), Inv X pins σ H s -> tb E D σ H ->
 wpAny (model X.prog X.w) X.A (execs body X.env) (SP X pins D) (fun e s' => ∃ H1 s1, Inv X pins σ H1 s1 /\ CXf X.prog X.w X.stack H1 s1 E e s') s
section
variable {X : Cx} {k : Nat} {f : Addr} {fd : FuncData} {ps : List Str} {sp : Sp} {t : TA} {fx y : Str} {e0 : Expr} {es : List Expr} {p py cpos spos pos : Pos} {rest : List Stmt} {tr : TS} {i : Nat}
theorem ajD {pins : List (Addr × Obj)} {σ : St} {H : Hp} {s : Shared} {E : XK} {Q : VK} (F : FnOk X.prog X.w X.K X.mg X.base (CXf X.prog X.w) k f fd ps sp) (hr : Room k X.A) (hgf : Gl X fx) (hmf : X.mg fx = some (.ref f)) (hk : anH X.K (.ref f) = true) (hb : L2.Binds X.K fd ps [])
  (ha : PA X.nox (e0 :: es) t) (I : Inv X pins σ H s) (h : t σ H fun vs H1 => sp vs H1 Q E)
  (hdf : (fx == ("__debug__" : Str)) = false) (he : starEach (e0 :: es) X.env = (false, eval e0 X.env) :: starEach es X.env) (hpl : (backTo cpos (starEach es X.env)).any (·.1) = false) :
  wpAny (model X.prog X.w) X.A (eval (.Call (.Name fx p) (e0 :: es) [] cpos) X.env) (EP X pins σ Q) (fun e s' => ∃ H1 s1, Inv X pins σ H1 s1 /\ CXf X.prog X.w X.stack H1 s1 E e s') s := by
 refine wpAny_Call_Name_kw (jQ I hgf hmf ?_ hdf)
 refine apR (h₀ := X.base) I.ok.mod.kin hk (wpAny_mono (ha cpos pins s σ H _ (I.wish _) h) (fun us s1 q => ?_) fun _ _ z => z.elim) he hpl
 obtain ⟨vs, H1, I1', r, q⟩ := q
 have I1 : Inv X pins σ H1 s1 := I1'.unwish
 refine ⟨I1.kIn, ?_⟩
 have b2 := hb s1 us I1.kIn (by rw [anG, <- r.length]; exact F.len _ _ _ _ q)
 rw [anG] at b2
 refine wpAny_call (codeAny_mono (F.run X.A X.stack s1 H1 ⟨us, []⟩ us vs _ _ hr I1.env0 b2 r q) fun res s' z => ?_)
 cases res with
 | error e => exact ⟨H1, s1, I1, z⟩
 | ok fl =>
  cases fl with
  | ret u => exact I1.after z
  | next => exact anN z
  | brk => exact anN z
  | cont => exact anN z
def amw (sp : Sp) (t : TA) (i : Nat) (tr : TS) : XK -> TS := fun E D σ H => t σ H fun vs H1 => sp vs H1 (fun v H2 => tr D (σ.set i (some v)) H2) E
theorem alG (F : FnOk X.prog X.w X.K X.mg X.base (CXf X.prog X.w) k f fd ps sp) (hr : Room k X.A) (hgf : Gl X fx) (hmf : X.mg fx = some (.ref f)) (hk : anH X.K (.ref f) = true) (hb : L2.Binds X.K fd ps [])
  (ha : PA X.nox (e0 :: es) t) (hN : X.N.Nodup) (hi : X.N[i]? = some y) (hy : Loc X.env.scope y) (hfy : X.fn y = true \/ X.env.scope.names.lookup y = some .local) (hR : PSs X.nox rest tr)
  (hdf : (fx == ("__debug__" : Str)) = false := by decide) (he : starEach (e0 :: es) X.env = (false, eval e0 X.env) :: starEach es X.env := by rfl) (hpl : (backTo cpos (starEach es X.env)).any (·.1) = false := by rfl)
  (hsw : swapsWith (.Call (.Name fx p) (e0 :: es) [] cpos) (some (.Name y py)) spos.line X.env = pure false := by rfl) :
  PBy X (.Assign [.Name y py] (.Call (.Name fx p) (e0 :: es) [] cpos) spos :: rest) (amw sp t i tr) := by
 intro pins s σ H D E I h
 refine wpAny_execs_cons (wpAny_Assign_Name ?_ hsw)
 refine wpAny_mono (ajD F hr hgf hmf hk hb ha I h hdf he hpl) (fun u s2 z => ?_) fun _ _ z => z
 obtain ⟨v, H2, I2, r2, q2⟩ := z
 refine je I2 hN hi hy r2 (fun s3 I3 => ?_) hfy
 refine wpAny_mono (hR pins s3 _ H2 D (I3.wish _) q2) (fun fl s4 z => ?_) fun _ _ z => z.elim
 cases fl with
 | next => obtain ⟨σ', H', J, q⟩ := z; exact ⟨σ', H', J.unwish, q⟩
 | brk => obtain ⟨σ', H', J, q⟩ := z; exact ⟨σ', H', J.unwish, q⟩
 | cont => obtain ⟨σ', H', J, q⟩ := z; exact ⟨σ', H', J.unwish, q⟩
 | ret u => obtain ⟨v', σ', H', J, q⟩ := z; exact ⟨v', σ', H', J.unwish, q⟩
def akz (K : amR) (C0 : Addr) (tb : XK -> TS) (j : Nat) (ts : Addr -> TS) : TS := fun D σ H => tb (fun C o H2 => apo K C (.ref C0) = some true /\ ∀ a, H2 a = none -> ts a (ab3 D j) (σ.set j (some (.ref a))) (upd H2 a (.ext (ExcAt a C o)))) D σ H
theorem ajE {body suite : List Stmt} {tb : XK -> TS} {b0 : Stmt} {hx n : Str} {hp hpos : Pos} {C0 : Addr} {j : Nat} {tss : Addr -> TS} (hB : PBy X body tb) (hN : X.N.Nodup) (hst : X.stack = X.env :: X.outer) (hf : X.env.frame = some X.env.locals) (hj : X.N[j]? = some n) (hn : X.env.scope.names.lookup n = some .local)
  (hg : Gl X hx) (hm : X.mg hx = some (.ref C0)) (hs : ∀ a, PSs (X.marked (.ref a)) (b0 :: suite) (tss a)) (hd : (hx == ("__debug__" : Str)) = false := by decide) :
  PS X (.Try body [.ExceptHandler (some (.Name hx hp)) (some n) (b0 :: suite) hpos] [] [] pos) (akz X.K C0 tb j tss) := by
 intro pins s σ H D I h
 refine wpAny_Try_except (wpAny_mono (hB pins s σ H D _ I h) (fun fl s1 z => ?_) fun e s' z => ?_)
 ·cases fl with
  | next => exact wpAny_execs_nil z
  | brk => exact z
  | cont => exact z
  | ret u => exact z
 ·obtain ⟨H1, s1, I1, a, C, o, H2, rfl, x, dc, hit, hts⟩ := z
  exact amv (ts := tss a) I1 x dc hst hf hN hj hn hg hm hit (hs a) (hts a x.free) hd
end
abbrev XD := Option (Str × PyData)
def FieldIs (K : amR) (Hh : Hp) : Option Addr -> XD -> Prop
 | none, none => True
 | some dx, some (n, d) => ∃ v, Hh dx = some (.xd [(n, v)]) /\ Rep K Hh d v
 | _, _ => False
theorem FieldIs.mono {K : amR} {H H' : Hp} (s : Same H H') : ∀ {o : Option Addr} {x : XD}, FieldIs K H o x -> FieldIs K H' o x
 | none, none, _ => trivial
 | some dx, some (n, d), h => let ⟨v, h1, h2⟩ := h; ⟨v, s _ _ h1, Rep.mono s d v h2⟩
 | none, some _, h => h.elim
 | some _, none, h => h.elim
def jW (K : amR) (a : Addr) (C : Value) (x : XD) : Hp -> V -> Prop := fun Hh v => ∃ o, v = .ref a /\ Hh a = some (.ext (ExcAt a C o)) /\ FieldIs K Hh o x
def Wish (K : amR) (f : Fx) (E : XK) (H : Hp) (Z : Value -> XD -> Prop) : Prop := ∀ C o x H', Goes f H H' -> FieldIs K (hide H' f) o x -> Z C x -> E C o H'
theorem Wish.go {K : amR} {f : Fx} {E : XK} {H H1 : Hp} {Z : Value -> XD -> Prop} (z : Wish K f E H Z) (g : Goes f H H1) : Wish K f E H1 Z := fun C o x H' g' => z C o x H' (g.trans g')
def PEf (K : amR) (f : Fx) (E : XK) (te : TE) (ρ : zr) (P : PyData -> Prop) (Z : Value -> XD -> Prop) : Prop := ∀ (σ : St) (H : Hp) (Q : VK), EnvOk K f ρ σ H -> (∀ d v H', Goes f H H' -> Rep K (hide H' f) d v -> P d -> Q v H') -> Wish K f E H Z -> te σ H Q
def PSf (K : amR) (f : Fx) (E : XK) (ts : TS) (ρ : zr) (D : DEnds) (Z : Value -> XD -> Prop) : Prop := ∀ (σ : St) (H : Hp) (N : Ends), EnvOk K f ρ σ H -> (∀ ρ' σ' H', Goes f H H' -> EnvOk K f ρ' σ' H' -> D.nx ρ' -> N.nx σ' H') ->
 (∀ d v H', Goes f H H' -> Rep K (hide H' f) d v -> D.rt d -> N.rt v H') -> (∀ ρ' σ' H', Goes f H H' -> EnvOk K f ρ' σ' H' -> D.bk ρ' -> N.bk σ' H') -> (∀ ρ' σ' H', Goes f H H' -> EnvOk K f ρ' σ' H' -> D.ct ρ' -> N.ct σ' H') -> Wish K f E H Z -> ts N σ H
def spF {γ : Type} (K : amR) (n : Nat) (pre : γ -> List DV -> Prop) (post : γ -> PyData -> Prop) (exc : γ -> Value -> XD -> Prop) : Sp := fun vs H Q E => ∃ f xs c, RepVs K f H xs vs /\ xs.length = n /\ FOk f H /\ pre c xs /\
 (∀ r v H', Goes f H H' -> Rep K (hide H' f) r v -> post c r -> Q v H') /\ Wish K f E H (exc c)
section
variable {K : amR} {f : Fx} {ρ : zr} {E : XK} {te : TE} {ts tu : TS} {tt : TT} {t : TA} {P : PyData -> Prop} {D : DEnds} {Z : Value -> XD -> Prop} {g : TG} {wi : TI}
theorem alH (h : PEd K f te ρ P) : PEf K f E te ρ P Z := fun σ H Q e q _ => h σ H Q e q
theorem aee (h : PSd K f ts ρ D) : PSf K f E ts ρ D Z := fun σ H N e n r b c _ => h σ H N e n r b c
theorem ah4 {C : Value} (h : PAd K f t ρ fun xs => xs.length <= 1000 /\ Z C none) : PSf K f E (ahm C E t) ρ D Z := fun σ H N e n r b c z =>
 h σ H _ e fun xs vs H1 g1 r1 ⟨hl, hz⟩ => ⟨by rw [r1.length]; exact hl, z C none none H1 g1 trivial hz⟩
theorem afu (h : PSf K f E ts ρ { D with nx := fun ρ' => PSf K f E tu ρ' D Z } Z) : PSf K f E (v7 ts tu) ρ D Z := fun σ H N e n r b c z =>
 h σ H _ e (fun ρ' σ' H' g' e' p => p σ' H' N e' (fun ρ2 σ2 H2 g2 => n ρ2 σ2 H2 (g'.trans g2)) (fun d v H2 g2 => r d v H2 (g'.trans g2)) (fun ρ2 σ2 H2 g2 => b ρ2 σ2 H2 (g'.trans g2)) (fun ρ2 σ2 H2 g2 => c ρ2 σ2 H2 (g'.trans g2)) (z.go g')) r b c z
theorem amx (h : PTd K f tt ρ fun q => if q = true then PSf K f E ts ρ D Z else PSf K f E tu ρ D Z) : PSf K f E (afX tt ts tu) ρ D Z := fun σ H N e n r b c z =>
 h σ H _ e fun q H1 g1 p => by
  have go : ∀ tx, PSf K f E tx ρ D Z -> tx N σ H1 := fun tx p => p σ H1 N (e.mono g1) (fun ρ2 σ2 H2 g2 => n ρ2 σ2 H2 (g1.trans g2)) (fun d v H2 g2 => r d v H2 (g1.trans g2)) (fun ρ2 σ2 H2 g2 => b ρ2 σ2 H2 (g1.trans g2)) (fun ρ2 σ2 H2 g2 => c ρ2 σ2 H2 (g1.trans g2)) (z.go g1)
  cases q with
  | false => rw [if_neg amQ] at p ⊢; exact go _ p
  | true => rw [if_pos rfl] at p ⊢; exact go _ p
theorem amy (h : PEf K f E te ρ D.rt Z) : PSf K f E (adR te) ρ D Z := fun σ H N e n r b c z => h σ H _ e r z
def PYd (K : amR) (f : Fx) (tb : XK -> TS) (ρ : zr) (D : DEnds) (Z : Value -> XD -> Prop) : Prop := ∀ (E : XK), PSf K f E (tb E) ρ D Z
theorem amz {γ : Type} {n i : Nat} {pre : γ -> List DV -> Prop} {post : γ -> PyData -> Prop} {exc : γ -> Value -> XD -> Prop} (c : γ)
  (h : PAd K f t ρ fun xs => xs.length = n /\ pre c xs /\ (∀ r, post c r -> PSd K f ts (ρ.set i (some (.dat r))) D) /\ ∀ C x, exc c C x -> Z C x) : PYd K f (amw (spF K n pre post exc) t i ts) ρ D Z := fun E σ H N e nx rt bk ct z =>
 h σ H _ e fun xs vs H1 g1 r1 ⟨hl, hp, k, kz⟩ => by
  refine ⟨f, xs, c, r1, hl, g1.2, hp, fun r v H' g' r' p' => ?_, fun C o x H' g' fi p' => z C o x H' (g1.trans g') fi (kz C x p')⟩
  have gg := g1.trans g'
  exact k r p' _ H' N ((e.mono gg).set i (x := .dat r) r') (fun ρ2 σ2 H2 g2 => nx ρ2 σ2 H2 (gg.trans g2)) (fun d v H2 g2 => rt d v H2 (gg.trans g2)) (fun ρ2 σ2 H2 g2 => bk ρ2 σ2 H2 (gg.trans g2)) (fun ρ2 σ2 H2 g2 => ct ρ2 σ2 H2 (gg.trans g2))
theorem alI {tb : XK -> TS} {C0 : Addr} {j : Nat} {tss : Addr -> TS}
  (h : PYd K f tb ρ D fun C x => apo K C (.ref C0) = some true /\ ∀ a, PSd K f (tss a) (ρ.set j (some (.mon (jW K a C x)))) { nx := fun ρ' => D.nx (ρ'.set j none), rt := D.rt, bk := fun ρ' => D.bk (ρ'.set j none), ct := fun ρ' => D.ct (ρ'.set j none) }) :
  PSd K f (akz K C0 tb j tss) ρ D := fun σ H N e nx rt bk ct => by
 refine h _ σ H N e nx rt bk ct fun C o x H' g' fi ⟨hit, hs⟩ => ⟨hit, fun a hn => ?_⟩
 have gn : Goes f H' (upd H' a (.ext (ExcAt a C o))) := .of_same (zY hn _) g'.ok
 have gg := g'.trans gn
 have e2 := (e.mono gg).set j (x := .mon (jW K a C x)) (v := .ref a) fun H'' s'' => ⟨o, rfl, s'' _ _ (zB (fresh_ne g'.ok hn) zz), FieldIs.mono (gn.1.trans s'') fi⟩
 have none_ok : ∀ {ρ' : zr} {σ' : St} {H'' : Hp}, EnvOk K f ρ' σ' H'' -> EnvOk K f (ρ'.set j none) (σ'.set j none) H'' := fun {ρ' σ' H''} e' => by
  refine ⟨by rw [aoo, aoo]; exact e'.len, fun q y hy => ?_, e'.fd⟩
  by_cases hq : j = q
  ·subst hq
   rw [List.getElem?_set] at hy
   rw [if_pos rfl] at hy
   split at hy <;> cases hy
  ·rw [aol hq] at hy ⊢
   exact e'.get q y hy
 exact hs a _ _ _ e2 (fun ρ' σ' H'' g'' e'' p'' => nx _ _ H'' (gg.trans g'') (none_ok e'') p'') (fun d v H'' g'' r'' p'' => rt d v H'' (gg.trans g'') r'' p'') (fun ρ' σ' H'' g'' e'' p'' => bk _ _ H'' (gg.trans g'') (none_ok e'') p'') (fun ρ' σ' H'' g'' e'' p'' => ct _ _ H'' (gg.trans g'') (none_ok e'') p'')
theorem ah5 {j : Nat} {C a : Addr} {x : XD} {c : V} {b : Bool} (hj : ρ[j]? = some (some (.mon (jW K a (.ref C) x)))) (Wy : ExcWays K C) (hk : (∃ n, c = .ty n /\ ang K (.ref C) (.type n) = some b) \/ ∃ D, c = .ref D /\ ang K (.ref C) (.ref D) = some b) (p : P (.bool b)) :
  PEd K f (tCB (alF K) (yo (yn j) (yo (tC c) qj))) ρ P := fun σ H Q e q => by
 obtain ⟨v, hv, r⟩ := e.get j _ hj
 obtain ⟨o, rfl, hH, _⟩ := r H (zl H f)
 exact ⟨_, hv, a, C, o, c, b, rfl, hH, Wy, hk, q _ _ H (.refl e.fd) (rep_bool.mpr rfl) p⟩
end
structure FnInF (P : Program) (w : World) (K : amR) (mg : Str -> Option Value) (base : Heap) (k : Nat) (x : Str) (ps : List Str) (sp : Sp) : Prop where
 ex : ∃ (f : Addr) (fd : FuncData), FnOk P w K mg base (CXf P w) k f fd ps sp /\ mg x = some (.ref f) /\ anH K (.ref f) = true /\ Binds K fd ps []
section
variable {P : Program} {w : World} {K : amR} {mg : Str -> Option Value} {base : Heap} {j k n : Nat} {x : Str} {st : Stmt} {ps N : List Str} {γ : Type} {pre : γ -> List DV -> Prop} {post : γ -> PyData -> Prop} {exc : γ -> Value -> XD -> Prop} {sp : Sp}
theorem FnInF.mono (h : FnInF P w K mg base j x ps sp) (hk : j <= k) : FnInF P w K mg base k x ps sp := let ⟨f, fd, a, b, c, d⟩ := h.ex; ⟨f, fd, a.mono hk, b, c, d⟩
theorem Def.okF (F : Def K mg x st ps) (S : FnScope N ps (zh st)) (hn : ps.length = n)
  (h : ∀ (fa : Addr) (cdv : Value) (A : Around) (outer : List Env) (s : Shared) (H : Hp) (E : XK), Room k (A.deeper (envOfC x (zh st) s.heap.objs.size fa cdv)) ->
   ∃ t, PSs (zM (CXf P w) P w K mg base N x (zh st) fa cdv A outer s H E) (yq st) t /\ ∀ f xs c, xs.length = n -> pre c xs -> PSf K f E t (jE N xs) { nx := fun _ => post c .none, rt := post c } (exc c)) :
  FnInF P w K mg base (k + 1) x ps (spF K n pre post exc) := by
 obtain ⟨fa, fd, F1, F2, F3⟩ := F.ex
 refine ⟨fa, fd, F1.okF S (fun vs H Q E h => ?_) (fun cdv A outer s H vs Q E hr hs => ?_), F3, F1.kp, F2⟩
 ·obtain ⟨f, xs, c, r, hl, _⟩ := h
  rw [r.length, hl, hn]
 ·obtain ⟨f, xs, c, r, hl, fo, hp, q, z⟩ := hs
  obtain ⟨t, h1, h2⟩ := h fa cdv A outer s H E hr
  refine ⟨t, h1, h2 f xs c hl hp _ H _ (jc r fo) (fun ρ' σ' H' g' e' p => q .none .non H' g' (rep_none.mpr rfl) p) (fun d v H' g' r' p => q d v H' g' r' p) (fun _ _ _ _ _ z => z.elim) (fun _ _ _ _ _ z => z.elim) z⟩
end
structure FCls (K : amR) (mg : Str -> Option Value) (x base : Str) (C : Addr) (name : Str) (st : Stmt) (ps : List Str) : Prop where
 ex : ∃ (f D : Addr) (fd : FuncData), FldC K C f D name /\ mg x = some (.ref C) /\ mg base = some (.ref D) /\ Fun K "__init__" (x ++ ".__init__") st f fd /\ Binds K fd ps []
structure InitOk (P : Program) (w : World) (K : amR) (mg : Str -> Option Value) (base : Heap) (k : Nat) (C : Addr) (name : Str) : Prop where
 ex : ∃ (f D : Addr) (fd : FuncData) (ps : List Str), FldC K C f D name /\ FnOk P w K mg base CX0 k f fd ps (alD C name) /\ Binds K fd ps []
theorem aef {K : amR} {f : Fx} {ρ : zr} {P : PyData -> Prop} {j : Nat} {C D a : Addr} {x : XD} {b : Bool} (hj : ρ[j]? = some (some (.mon (jW K a (.ref C) x)))) (Wy : ExcWays K C) (hk : ang K (.ref C) (.ref D) = some b) (p : P (.bool b)) :
  PEd K f (tCB (alF K) (yo (yn j) (yo (tC (.ref D)) qj))) ρ P := ah5 hj Wy (.inr ⟨D, rfl, hk⟩) p
theorem akA {K : amR} {f : Fx} {ρ : zr} {D : DEnds} {tt : TT} {ts tu : TS} (p : Prop) [Decidable p] (h : PTd K f tt ρ fun b => b = decide p) (h1 : p -> PSd K f ts ρ D) (h2 : ¬ p -> PSd K f tu ρ D) : PSd K f (afX tt ts tu) ρ D := v9 fun σ H Q e q => h σ H Q e fun b H' g z => q b H' g (by
 subst z
 by_cases hp : p
 ·rw [decide_eq_true hp, if_pos rfl]; exact h1 hp
 ·rw [decide_eq_false hp, if_neg amQ]; exact h2 hp)
def aai (K : amR) (C : Addr) : Bool :=
 aoc K (.ref C) "__getattribute__" == some (some (.builtin "BaseException.__getattribute__")) && aoc K (.ref C) "__getattr__" == some none && aoc K (.ref C) "__class__" == some (some (.builtin "object.__class__"))
  && apd K (.builtin "object.__class__") "__get__" == some (some (.builtin "getset_descriptor.__get__")) && PySem.W.takesIn K (.builtin "object.__class__") == some true && ap1 K C (.type "object") == some true && ap1 K C (.type "BaseException") == some true && (PySem.W.clsIn K C).isSome
theorem ajF {K : amR} {C : Addr} (h : aai K C = true) : ExcWays K C := by
 unfold aai at h
 simp only [amX, beq_iff_eq] at h
 obtain ⟨⟨⟨⟨⟨⟨⟨h1, h2⟩, h3⟩, h4⟩, h5⟩, h6⟩, h7⟩, h8⟩ := h
 exact ⟨h1, h2, h3, h4, h5, h6, h7, h8⟩
theorem aa9 : entryFor table "proto.unchain" = some Builtin.«proto.unchain» := entryFor_of_tree (by kernel_rfl)
section
variable {prog : Program} {w : World} {A : Around} {E : Value -> Shared -> Prop} {s : Shared}
theorem aeg {α : Type} {e h : Addr} {u oe : Obj} {vs : Array Value} {Q : α -> Shared -> Prop} (hh : A.handled = some (.ref h)) (he : s.heap.get? e = some oe) (hd : oe.data = .fields vs) (h2 : 2 < vs.size) (hu : s.heap.get? h = some u) (hf : aab u = some .none) (ne : h ≠ e)
  (q : ∀ h', (∀ b o, b ≠ e -> s.heap.get? b = some o -> h'.get? b = some o) -> (∃ o', h'.get? e = some o' /\ o'.cls = oe.cls) -> E (.ref e) { s with heap := h' }) : wpAny (model prog w) A (raiseNew (.ref e) : Sem α) Q E s := by
 unfold raiseNew
 refine wpAny_bind (wpAny_handled ?_)
 rw [hh]
 dsimp only
 rw [if_pos (show ((Value.ref h != Value.ref e) = true) from by simp [ne])]
 refine wpAny_bind (wpAny_holding (wpAny_runValue (codeAny_builtin aa9 ?_)))
 unfold aab at hf
 split at hf
 ·rename_i ws hw
  show wpAny _ _ (field (.ref h) 2 >>= _) _ _ s
  refine wpAny_bind (wpAny_field hu hw hf ?_)
  rw [if_pos (show ((Value.none == Value.none) = true) from rfl)]
  refine wpAny_bind (wpAny_pure (wpAny_pure ?_))
  show wpAny _ _ (updateField e 2 (.ref h) >>= fun _ => throw (Value.ref e)) _ _ _
  refine wpAny_bind ?_
  show wpAny _ _ (setField (.ref e) 2 (.ref h)) _ _ _
  refine wpAny_setField he hd h2 (wpAny_throw (q _ (fun b o nb z => ?_) ?_))
  ·exact (anz _ _ (anU nb)).trans z
  ·exact ⟨_, aoz _ he (Obj.isFreed_of_fields (Obj.data_mapFields hd _)), Obj.cls_mapFields _ _⟩
 ·cases hf
theorem aba {it l h : Addr} {i : Nat} {items : Array Value} {u : Obj} {Q : Option Value -> Shared -> Prop} (hh : A.handled = some (.ref h)) (hit : s.heap.IsListIter it l i) (hl : s.heap.IsList l items) (hx : items[i]? = none) (hu : s.heap.get? h = some u) (hf : aab u = some .none) (hne : h ≠ it)
  (q : ∀ h', (∀ b o, b ≠ it -> s.heap.get? b = some o -> h'.get? b = some o) -> Q none { s with heap := h' }) : wpAny (model prog w) A (pyNext (.ref it)) Q E s := by
 obtain ⟨o, ho, _, hd⟩ := id hit
 obtain ⟨ol, hol, _, nl, hdl⟩ := hl
 refine wpAny_bind (wpAny_attempt (wpAny_callSpecial?_slot (name := aou "__next__") hit.typeIs slot_listiter_next (wpAny_call_entry slot_listiter_next hit.typeIs entry_listiter_next ?_ (args_listiter_next _))))
 show wpAny _ _ (PySem.field (.ref it) 0 >>= _) _ _ s
 refine wpAny_bind (wpAny_field ho hd (x := .ref l) rfl (a := it) ?_)
 rw [if_neg (show ¬ (Value.ref l == Value.none) = true from amQ)]
 refine wpAny_bind (wpAny_field ho hd (x := .int i 0) rfl (wpAny_bind (wpAny_seqItems hol hdl ?_)))
 simp only [aoR, hx]
 refine wpAny_bind (wpAny_rule (wpAny_bind (wpAny_setField ho hd (by simp) (wpAny_bind ?_))))
 simp only [newExc, newTuple]
 refine wpAny_bind (wpAny_newObj_type (wpAny_bind (m := firstArgMember _ _) (wpAny_of_eq (a := Value.none) (by first | rfl | (simp only [firstArgMember]; rfl)) (wpAny_newObj_type ?_ (by size_fits)))) (by size_fits))
 have up : ∀ b o, b ≠ it -> s.heap.get? b = some o -> ∀ o1 o2 : Obj, (((s.heap.update it (aqW (·.setIfInBounds 0 Value.none))).push o1).push o2).get? b = some o := fun b o nb z o1 o2 => amW _ (amW _ ((anz _ _ (anU nb)).trans z))
 refine aeg (u := u) hh (anr _ rfl) rfl (show 2 < 6 from by decide) (up h u hne hu _ _) hf ?_ fun h' kp ⟨o', e1, e2⟩ => ?_
 ·exact fun z => absurd (amZ (amW _ ((anz _ _ (anU hne)).trans hu) : ((s.heap.update it (aqW (·.setIfInBounds 0 Value.none))).push _).get? h = some u)) (by rw [z]; exact aoi _)
 ·refine wpAny_bind (wpAny_isInstance (T := "StopIteration") (b := true) ⟨o', e1, e2⟩ isSubtype_stop (wpAny_pure (q h' fun b o nb z => kp b o ?_ (up b o nb z _ _))))
  have lt : b < (s.heap.update it (aqW (·.setIfInBounds 0 Value.none))).objs.size := amZ ((anz _ _ (anU nb)).trans z)
  exact ano (ane lt (by rw [apg]; exact aqz _))
theorem aeh (hh : A.handled = some (.ref h)) (I ax : Addr) (hne : ax ≠ I) (hI : h ≠ I) (u : Obj) (hf : aab u = some .none) (items : Array Value) :
  Walks prog w A I [I, ax, h] [I] items.size (fun i v => items[i]? = some v) (fun i hp => hp.IsListIter I ax i /\ hp.IsList ax items /\ hp.get? h = some u) where
 sub := fun b hb => by rw [anp.mp hb]; exact am6
 frame := fun _ _ _ st k => ⟨st.1.at fun o e => k I (by simp) o e, st.2.1.at fun o e => k ax (by simp) o e, k h (by simp) u st.2.2⟩
 item := fun i s Q E hi st q => wpAny_pyNext_list_item st.1 st.2.1 (x := items[i]) (by simp [hi]) fun h' it' sb => q _ h' s.toks (by simp [hi]) ⟨it', st.2.1.extBut sb.extBut hne, sb.extBut h u hI st.2.2⟩ fun b o nb e => sb.extBut b o (fun z => nb (by simp [z])) e
 done := fun s Q E st q => aba hh st.1 st.2.1 (by simp) st.2.2 hf hI fun h' k => q h' s.toks fun b o nb e => k b o (fun z => nb (by simp [z])) e
 self := fun _ _ _ _ st q => wpAny_pyIter_listiter st.1 q
end
def akB (K : amR) (e : Addr) : List V -> Hp -> VK -> Prop := fun xs H Q => (∃ C o, H e = some (.ext (ExcAt e C o))) /\ amL K xs H Q
theorem agx {X : Cx} {K : amR} {e : Addr} (hK : X.K = K) (hm : X.A.handled = some (.ref e)) : yk X (.builtin "any") (akB K e) := by
 subst hK
 intro pins s σ H xs us Q I r h
 obtain ⟨⟨C, o, he⟩, a, bs, rfl, hq, q⟩ := h
 obtain ⟨v, rfl, r1⟩ := vals1 r
 cases r1
 obtain ⟨its, rv, p, _⟩ := I.list hq
 have hl := p.isList
 rw [aaI rv] at hl
 obtain ⟨u, hu, _, hf, _⟩ := (I.hok e _ he).1
 have lt : ∀ {b : Addr} {o : Obj}, s.heap.get? b = some o -> b ≠ s.heap.objs.size := fun z => ano (amZ z)
 have ha : a ≠ s.heap.objs.size := by
  obtain ⟨o, ho, _⟩ := hl
  exact lt ho
 refine call_any_walk (wpAny_pyIter_list hl ⟨s.heap.objs.size, _, _, _, _, _, _, rfl, aeh (show (X.A.in1).handled = some (.ref e) from hm) _ a ha (lt hu) u hf _, ⟨⟨_, anr _ rfl, rfl, rfl⟩, hl.at fun o z => amW _ z, amW _ hu⟩, vU _ _ _ bs, fun h' tk hk => ?_⟩)
 refine ⟨.bl _, H, I.kept (t' := tk) fun b o z => hk b o (fun y => lt z (anp.mp y)) (amW _ z), ?_, q⟩
 show Value.bool _ = Value.bool _
 rw [am4, amT, range_any]
structure RoomM (k : Nat) (A : Around) : Prop where
 dp : A.depth + 3 * k + 5 < recursionLimit
 un : A.units + 16 * k + 200 < cLine
structure FnOkM (P : Program) (w : World) (K : amR) (mg : Str -> Option Value) (base : Heap) (k : Nat) (f : Addr) (fd : FuncData) (ps : List Str) (sp : Addr -> Sp) : Prop where
 len : ∀ a vs H Q E, sp a vs H Q E -> vs.length = ps.length
 run : ∀ (A : Around) (outer : List Env) (s : Shared) (H : Hp) (args : Args) (us : List Value) (vs : List V) (Q : VK) (a : Addr), A.handled = some (.ref a) -> RoomM k A -> Env0 P w K mg base A outer s H -> BindsTo s fd args (ps.zip us) -> Vals vs us -> sp a vs H Q E0 ->
  codeAny (model P w) A (.call (.ref f) args) (CR CX0 outer P w H s Q E0) s
def cxM (P : Program) (w : World) (K : amR) (mg : Str -> Option Value) (base : Heap) (N : List Str) (qual : Str) (scope : Scope) (f : Addr) (cd : Value) (A : Around) (outer : List Env) (s : Shared) (H : Hp) : Cx :=
 { zM CX0 P w K mg base N qual scope f cd A outer s H E0 with calm := false, xe := fun _ _ => False }
theorem alJ {P : Program} {w : World} {K : amR} {mg : Str -> Option Value} {base : Heap} {k : Nat} {f : Addr} {name qual : Str} {params : Arguments} {body : List Stmt} {scope : Scope} {dV kV doc pm cdv ct oc : Value} {an od : Option Addr}
  {osl : Array (Option Value)} {N ps : List Str} {sp : Addr -> Sp} (lk : K.lookup f = some ⟨oc, od, .func (aok name qual params body scope dV kV doc pm an cdv ct), osl⟩) (hcd : ape K cdv qual = true) (S : FnScope N ps scope)
  (len : ∀ a vs H Q E, sp a vs H Q E -> vs.length = ps.length)
  (hbody : ∀ (A : Around) (outer : List Env) (s : Shared) (H : Hp) (vs : List V) (Q : VK) (a : Addr), A.handled = some (.ref a) -> RoomM k (A.deeper (envOfC qual scope s.heap.objs.size f cdv)) -> sp a vs H Q E0 ->
   ∃ t, PSs (cxM P w K mg base N qual scope f cdv A outer s H) body t /\ t { nx := fun _ H' => Q .non H', rt := Q } (start N vs) H) :
  FnOkM P w K mg base (k + 1) f (aok name qual params body scope dV kV doc pm an cdv ct) ps sp := by
 refine ⟨len, fun A outer s H args us vs Q a hm hr e0 hb r hsp => ?_⟩
 have KX : K.In s.heap := e0.mod.kin.keeps fun b o e => (e0.bs b o e).1
 have hkind : ∀ y ∈ ps.zip us, scope.names.lookup y.1 = some .local \/ (scope.names.lookup y.1 = some .cell /\ ((cellsFrom (s.heap.objs.size + 1) scope.names []).lookup y.1).isSome = true) := fun ⟨n, v⟩ hy => (S.par n (aoP hy).1).imp id fun q => ⟨q, aot _ _ _ (.inl q)⟩
 have rd : RoomM k (A.deeper (envOfC qual scope s.heap.objs.size f cdv)) := ⟨by have := hr.dp; show A.depth + 1 + 3 * k + 5 < _; omega, by have := hr.un; show A.units + 3 + 16 * k + 200 < _; omega⟩
 refine codeAny_call_function (by have := hr.dp; omega) (KX _ _ lk) rfl S.co S.gen rfl (PySem.W.codeRec_of KX hcd) (hb _ _ _ _ (wpAny_newFunctionEnv_cells S.kind hkind fun env he s1 x => ?_))
 subst he
 refine ⟨(e0.mod.nolimit.keeps fun b o e => (e0.bs b o e).1).keeps x.toInCall.keep, codeAny_func ?_⟩
 obtain ⟨t, ht, hq⟩ := hbody A outer s H vs Q a hm rd hsp
 have e1 : Env0 P w K mg base { A with handled := none } outer s H := ⟨e0.frames, e0.mod, e0.bs, e0.bsz, e0.funs, e0.frf, e0.hok, e0.bare⟩
 have J : Inv (zM CX0 P w K mg base N qual scope f cdv { A with handled := none } outer s H E0) [] (start N vs) H s1 := abq S rfl e1 (len _ _ _ _ _ hsp) r x
 have I : Inv (cxM P w K mg base N qual scope f cdv A outer s H) [] (start N vs) H s1 :=
  ⟨⟨J.ok.mod, J.ok.kind, J.ok.glob, J.ok.blt, J.ok.above, J.ok.inj, J.ok.has, J.ok.cab, (fun z => by cases z), aqx e0.frames, J.ok.stk, J.ok.exf, J.ok.bs, J.ok.bsz, J.ok.noex, J.ok.exfs, J.ok.funs, J.ok.frf⟩, J.os, J.bare, J.base, J.loc, J.cell, J.free, J.freeC, J.pin, J.hok, J.len⟩
 refine wpAny_mono (ht [] s1 (start N vs) H _ I hq) (fun fl s' hs => ?_) fun e s' hs => hs.elim
 cases fl with
 | ret u =>
  obtain ⟨v, σ', H', Y, rv, q⟩ := hs
  exact ⟨v, H', Y.os, Y.bare, Y.base, Y.hok, rv, q⟩
 | next =>
  obtain ⟨σ', H', Y, q⟩ := hs
  exact ⟨V.non, H', Y.os, Y.bare, Y.base, Y.hok, rfl, q⟩
 | brk => exact anN hs.choose_spec.choose_spec.2
 | cont => exact anN hs.choose_spec.choose_spec.2
structure FnInM (P : Program) (w : World) (K : amR) (mg : Str -> Option Value) (base : Heap) (k : Nat) (x : Str) (ps : List Str) (sp : Addr -> Sp) : Prop where
 ex : ∃ (f : Addr) (fd : FuncData), FnOkM P w K mg base k f fd ps sp /\ mg x = some (.ref f) /\ anH K (.ref f) = true /\ Binds K fd ps []
def spM {γ : Type} (K : amR) (n : Nat) (pre : Addr -> γ -> List DV -> Prop) (post : γ -> PyData -> Prop) : Addr -> Sp := fun a => spD K n (pre a) post
section
variable {P : Program} {w : World} {K : amR} {mg : Str -> Option Value} {base : Heap} {j k n : Nat} {x : Str} {st : Stmt} {ps N : List Str} {γ : Type} {pre : Addr -> γ -> List DV -> Prop} {post : γ -> PyData -> Prop} {sp : Addr -> Sp}
theorem FnInM.mono (h : FnInM P w K mg base j x ps sp) (hk : j <= k) : FnInM P w K mg base k x ps sp :=
 let ⟨f, fd, a, b, c, d⟩ := h.ex
 ⟨f, fd, ⟨a.len, fun A outer s H args us vs Q e hm hr => a.run A outer s H args us vs Q e hm ⟨by have := hr.dp; omega, by have := hr.un; omega⟩⟩, b, c, d⟩
theorem Def.okM (F : Def K mg x st ps) (S : FnScope N ps (zh st)) (hn : ps.length = n)
  (h : ∀ (fa : Addr) (cdv : Value) (A : Around) (outer : List Env) (s : Shared) (H : Hp) (a : Addr), A.handled = some (.ref a) -> RoomM k (A.deeper (envOfC x (zh st) s.heap.objs.size fa cdv)) ->
   ∃ t, PSs (cxM P w K mg base N x (zh st) fa cdv A outer s H) (yq st) t /\ ∀ f xs c, xs.length = n -> pre a c xs -> PSd K f t (jE N xs) { nx := fun _ => post c .none, rt := post c }) :
  FnInM P w K mg base (k + 1) x ps (spM K n pre post) := by
 obtain ⟨fa, fd, F1, F2, F3⟩ := F.ex
 obtain ⟨oc, od, kV, doc, pm, an, cdv, ct, osl, rfl, lk, hcd⟩ := F1.ex
 refine ⟨fa, _, alJ lk hcd S (fun a vs H Q E h => ?_) (fun A outer s H vs Q a hm hr hs => ?_), F3, F1.kp, F2⟩
 ·obtain ⟨f, xs, c, r, hl, _⟩ := h
  rw [r.length, hl, hn]
 ·obtain ⟨f, xs, c, r, hl, fo, hp, q⟩ := hs
  obtain ⟨t, h1, h2⟩ := h fa cdv A outer s H a hm hr
  exact ⟨t, h1, h2 f xs c hl hp _ H _ (jc r fo) (fun ρ' σ' H' g' e' p => q .none .non H' g' (rep_none.mpr rfl) p) (fun d v H' g' r' p => q d v H' g' r' p) (fun _ _ _ _ _ z => z.elim) (fun _ _ _ _ _ z => z.elim)⟩
theorem ah6 {X : Cx} {a : Addr} {e : Expr} {es : List Expr} {t : TA} {p pos : Pos} (G : FnInM X.prog X.w X.K X.mg X.base k x ps sp) (hr : Room k X.A) (hg : Gl X x) (ha : PA (X.marked (.ref a)) (e :: es) t) (hdb : (x == ("__debug__" : Str)) = false := by decide)
  (he : starEach (e :: es) X.env = (false, eval e X.env) :: starEach es X.env := by rfl) (hpl : (backTo pos (starEach es X.env)).any (·.1) = false := by rfl) : PE (X.marked (.ref a)) (.Call (.Name x p) (e :: es) [] pos) (abl (sp a) [] E0 t) := by
 obtain ⟨f, fd, F, hm, hk, hb⟩ := G.ex
 intro pins s σ H Q I h
 refine wpAny_Call_Name_kw (jQ I hg hm ?_ hdb)
 refine apR (h₀ := X.base) I.ok.mod.kin hk (thn (ha pos pins s σ H _ I h) fun us s1 ⟨vs, H1, I1, r, q⟩ => ⟨I1.kIn, ?_⟩) he hpl
 have q : sp a vs H1 Q E0 := by have := q; dsimp only at this; rw [anG] at this; exact this
 have b2 := hb s1 us I1.kIn (by rw [anG, <- r.length]; exact F.len _ _ _ _ _ q)
 rw [anG] at b2
 refine wpAny_call (codeAny_mono (F.run _ _ s1 H1 ⟨us, []⟩ us vs Q a rfl ⟨hr.dp, hr.un⟩ I1.env0 b2 r q) fun res s' z => ?_)
 cases res with
 | error e => exact anN z
 | ok fl =>
  cases fl with
  | ret u => exact I1.after z
  | next => exact anN z
  | brk => exact anN z
  | cont => exact anN z
end
theorem alK {K : amR} {f : Fx} {ρ : zr} {P : PyData -> Prop} {te : TE} {j : Nat} {a : Addr} {C : Value} {x : XD} (hj : ρ[j]? = some (some (.mon (jW K a C x)))) (h : PEd K f te ρ fun x => ∃ bs : List Bool, x = .list (bs.map .bool) /\ P (.bool (bs.any id))) : PEd K f (tCB (akB K a) (yo te qj)) ρ P := fun σ H Q e q =>
 h σ H _ e fun x v H1 g1 r1 ⟨bs, ex, p⟩ => by
  subst ex
  obtain ⟨u, _, r⟩ := (e.mono g1).get j _ hj
  obtain ⟨o, _, hH, _⟩ := r H1 (zl H1 f)
  obtain ⟨b, xs, rfl, h1, h2⟩ := rep_list.mp r1
  rw [qV h2] at h1
  exact ⟨⟨C, o, hH⟩, b, bs, rfl, (zl H1 f).seq h1, q _ _ H1 g1 (rep_bool.mpr rfl) p⟩
structure TN (K : amR) (f : Fx) (a : Addr) (as : List Addr) (H2 : Hp) (ρ : zr) (R : Option (List (List Int))) (σ : St) (H : Hp) : Prop where
 env : EnvOk K (f.withs (a :: as)) ρ σ H
 sm : Same (hide H2 (f.withs (a :: as))) (hide H (f.withs (a :: as)))
 kp : ∀ b ∈ f.M, H b = H2 b
 tab : ∀ rows, R = some rows -> TabAt H a as rows
end L2
end
section
namespace L2
open PySem PySem.Spec PyProof.Rows
structure GoesW (f : Fx) (As : List Addr) (H2 H' : Hp) : Prop where
 sm : Same (hide H2 (f.withs As)) (hide H' f)
 ok : FOk f H'
 kp : ∀ b ∈ f.M, H' b = H2 b
structure FnAt (P : Program) (w : World) (K : amR) (mg : Str -> Option Value) (base : Heap) (CX : CXT) (k : Nat) (a : Addr) (sp : Sp) : Prop where
 ex : ∃ (fd : FuncData) (ps : List Str), FnOk P w K mg base CX k a fd ps sp /\ anH K (.ref a) = true /\ Binds K fd ps []
end L2
namespace L2
open PySem PySem.Spec PyProof.Rows
end L2
end
section
namespace L2
open PySem PySem.Spec PyProof.Rows
def ah7 (ds es : List PyData) : List PyData := List.zipWith (fun d e => .tuple [d, e]) ds es
section
variable {K : amR} {f : Fx} {ρ : zr} {t : TA} {R : List PyData -> Prop}
theorem amA (h : PAd K f t ρ fun xs => ∃ ds es, xs = [.dat (.list ds), .dat (.list es)] /\ R (ah7 ds es)) : PId K f (alz K t) ρ R := fun σ H C e q => h σ H _ e fun xs vs H1 g1 r1 ⟨ds, es, ex, p⟩ => by
 subst ex
 cases r1 with
 | cons rx r' =>
  cases r' with
  | cons ry r'' =>
   cases r''
   obtain ⟨a, xs, rfl, h1, h2⟩ := rep_list.mp rx
   obtain ⟨b, ys, rfl, k1, k2⟩ := rep_list.mp ry
   have l1 := h2.length
   have l2 := k2.length
   refine ⟨a, b, rfl, ⟨xs, (zl _ _).seq h1⟩, ⟨ys, (zl _ _).seq k1⟩, q (ah7 ds es) _ H1 g1 ⟨fun f' H' i d fo sm hd => ?_, fun f' H' _ sm => ⟨xs, ys, (zl _ _).seq (sm.seq h1), (zl _ _).seq (sm.seq k1), ?_⟩⟩ p⟩
   ·unfold ah7 at hd
    rw [aqt] at hd
    cases e1 : ds[i]? with
    | none => rw [e1] at hd; cases hd
    | some d1 =>
     cases e2 : es[i]? with
     | none => rw [e1, e2] at hd; cases hd
     | some d2 =>
      rw [e1, e2] at hd
      cases hd
      obtain ⟨z1, hz1, rz1⟩ := h2.get e1
      obtain ⟨z2, hz2, rz2⟩ := k2.get e2
      have s1 : SqL K H' a xs := (zl _ _).seq (sm.seq h1)
      have s2 : SqL K H' b ys := (zl _ _).seq (sm.seq k1)
      refine ⟨⟨xs, ys, z1, z2, s1, s2, hz1, hz2⟩, fun x H3 hy => ?_⟩
      obtain ⟨tp, y1, y2, rfl, hn, rfl, hy1, hy2⟩ := hy
      have q1 := hy1 xs s1
      rw [hz1] at q1
      cases q1
      have q2 := hy2 ys s2
      rw [hz2] at q2
      cases q2
      have gn : Goes f' H' (upd H' tp (.tup [z1, z2])) := .of_same (zY hn _) fo
      exact ⟨gn, rep_tuple.mpr ⟨tp, _, rfl, .of (zB (fresh_ne fo hn) zz), .cons' (Rep.mono gn.1 _ _ (Rep.mono sm _ _ rz1)) (.cons' (Rep.mono gn.1 _ _ (Rep.mono sm _ _ rz2)) .nil')⟩⟩
   ·unfold ah7
    rw [List.length_zipWith]
    omega
end
structure Src (prog : Program) (w : World) (j : Addr) (xs : Array Value) (dep : List Addr) (St : Nat -> Heap -> Prop) : Prop where
 own : j ∈ dep
 keep : ∀ {k : Nat} {h h' : Heap}, St k h -> (∀ c ∈ dep, ∀ o, h.get? c = some o -> h'.get? c = some o) -> St k h'
 there : ∀ {k : Nat} {h : Heap}, St k h -> ∃ o, h.get? j = some o
 item : ∀ {A : Around} {E : Value -> Shared -> Prop} {s : Shared} {k : Nat} {x : Value} {Q : Value -> Shared -> Prop}, St k s.heap -> xs[k]? = some x -> (∀ h', St (k + 1) h' -> aoL j s.heap h' -> Q x { s with heap := h' }) -> wpAny (model prog w) A (apX (.ref j)) Q E s
 stop : ∀ {A : Around} {E : Value -> Shared -> Prop} {s : Shared} {k : Nat} {Q : Value -> Shared -> Prop}, A.handled = none -> St k s.heap -> xs[k]? = none -> (∀ h' e, Heap.ExtBut j s.heap h' -> (∃ o, h'.get? e = some o /\ o.cls = .type "StopIteration") -> E (.ref e) { s with heap := h' }) -> wpAny (model prog w) A (apX (.ref j)) Q E s
section
variable {prog : Program} {w : World} {A : Around} {E : Value -> Shared -> Prop} {s : Shared}
structure Far (z q1 q2 j1 j2 : Addr) (e1 e2 : List Addr) : Prop where
 q1z : q1 ≠ z
 q2z : q2 ≠ z
 q12 : q1 ≠ q2
 j12 : j1 ≠ j2
 q1j1 : q1 ≠ j1
 q1j2 : q1 ≠ j2
 z1 : z ∉ e1
 z2 : z ∉ e2
 o1 : q2 ∉ e1
 o2 : q2 ∉ e2
 d12 : j2 ∉ e1
 d21 : j1 ∉ e2
end
end L2
end
section
namespace L2
open PySem PySem.Spec PyProof.Rows
end L2
end
section
namespace L2
open PySem PySem.Spec PyProof.Rows
end L2
namespace L2
open PySem PySem.Spec PyProof.Rows
section
variable {K : amR} {f : Fx} {ρ : zr} {R : List DV -> Prop} {i j m n : Nat} {d0 d1 d2 d3 : PyData}
theorem acq (h0 : ρ[i]? = some (some (.dat d0))) (h : R [.dat d0]) : PAd K f (yo (yn i) qj) ρ R := zx (zo h0 (yh h))
theorem ajG (h0 : ρ[i]? = some (some (.dat d0))) (h1 : ρ[j]? = some (some (.dat d1))) (h : R [.dat d0, .dat d1]) : PAd K f (yo (yn i) (yo (yn j) qj)) ρ R := zx (zo h0 (acq h1 h))
theorem abb (h0 : ρ[i]? = some (some (.dat d0))) (h1 : ρ[j]? = some (some (.dat d1))) (h2 : ρ[m]? = some (some (.dat d2))) (h : R [.dat d0, .dat d1, .dat d2]) : PAd K f (yo (yn i) (yo (yn j) (yo (yn m) qj))) ρ R := zx (zo h0 (ajG h1 h2 h))
end
end L2
namespace L2
open PySem PySem.Spec PyProof.Rows
theorem vp {α β : Type} {F : α -> β} {l : List β} {m : List α} (h : l.Perm (m.map F)) : ∃ m' : List α, m'.Perm m /\ l = m'.map F := by
 generalize e : m.map F = k at h
 induction h generalizing m with
 | nil => exact ⟨m, .refl _, e.symm⟩
 | cons x _ ih =>
  cases m with
  | nil => cases e
  | cons a m =>
   injection e with e1 e2
   obtain ⟨m', p, r⟩ := ih e2
   exact ⟨a :: m', p.cons a, by rw [anh, e1, r]⟩
 | swap x y l =>
  cases m with
  | nil => cases e
  | cons a m =>
   cases m with
   | nil => injection e with _ e; cases e
   | cons b m =>
    injection e with e1 e2
    injection e2 with e2 e3
    exact ⟨b :: a :: m, .swap a b m, by rw [anh, anh, e1, e2, e3]⟩
 | trans _ _ ih1 ih2 =>
  obtain ⟨m', p, r⟩ := ih2 e
  obtain ⟨m'', p', r'⟩ := ih1 r.symm
  exact ⟨m'', p'.trans p, r'⟩
abbrev FD (K : amR) (x : Str) (st : Stmt) (f : Addr) (od an : Option Addr) (sl : Array (Option Value)) (oc kV dc pm cd ct : Value) : Prop := anf K mainGlobals x = some (some (.ref f)) /\ K.lookup f = some ⟨oc, od, .func (aok x x (jT st) (yq st) (zh st) .none kV dc pm an cd ct), sl⟩ /\ ape K cd x = true /\ anH K (.ref f) = true
theorem yd {K : amR} {h : Heap} {mg : Str -> Option Value} {x : Str} {st : Stmt} {f : Addr} {od an : Option Addr} {sl : Array (Option Value)} {oc kV dc pm cd ct : Value} (X : K.In h) (G : h.Ns mainGlobals mg) (a : FD K x st f od an sl oc kV dc pm cd ct) {ps : List Str}
  (hb : ∀ (kV doc pm : Value) (an : Option Addr) (cdv ct : Value) (us : List Value), us.length = ps.length -> bindArgs (aok x x (jT st) (yq st) (zh st) .none kV doc pm an cdv ct) ⟨us, []⟩ = pure (ps.zip us)) : Def K mg x st ps :=
 ⟨f, _, adZ a.2.1 a.2.2.1 a.2.2.2, (adZ (st := st) a.2.1 a.2.2.1 a.2.2.2).binds hb, anv X G a.1⟩
end L2
namespace L2
open PySem PySem.Spec PyProof.Rows
section
variable {w : World} {K : amR} {f : Fx} {Ds : List Addr} {ρ : zr} {cs : List OC} {O : MEnds} {i : Nat}
theorem amB {v k : Int} (hi : ρ[i]? = some (some (.dat (.int v)))) : PTd K f (aeL (tOp (af5 K false) (yn i) (tC (.int k)))) ρ fun b => b = decide (v = k) :=
 yA (jH (zo hi (yt ⟨rfl, rfl, by show min 0 0 <= 60; decide, _, rfl, rfl⟩)))
end
end L2
namespace L2
open PySem PySem.Spec PyProof.Rows
theorem aei {X : Cx} {x : Str} {C : Addr} {B newId initId : String} {bmB : List Value} {e0 : Expr} {es : List Expr} {t : TA} {np cpos pos : Pos} {E : XK}
  (hxe : ∀ e s', wpAny (model X.prog X.w) X.A (leaving X.env e) (fun _ s'' => CXf X.prog X.w X.outer X.H₀ X.s₀ E e s'') (fun _ _ => False) s' -> X.xe e s')
  (hst : X.stack = X.env :: X.outer) (hf : X.env.frame = some X.env.locals) (hex : X.ex = []) (hc : X.calm = true) (hg : Gl X x) (hm : X.mg x = some (.ref C)) (he : apA X.K C bmB newId = true) (FB : ExcBaseFacts B newId initId bmB)
  (ha : PA X (e0 :: es) t) (hse : starEach (e0 :: es) X.env = (false, eval e0 X.env) :: starEach es X.env := by rfl) (hpl : (backTo cpos (starEach es X.env)).any (·.1) = false := by rfl) (hd : (x == ("__debug__" : Str)) = false := by decide) :
  PS X (.Raise (some (.Call (.Name x np) (e0 :: es) [] cpos)) none pos) (ahm (.ref C) E t) := by
 intro pins s σ H D I h
 obtain ⟨tl, N, nm, q, bs, hdct, sn, sub, ab, col, dd, k0, k1, k2, k3, k5, mN, hC, hN, hni, T⟩ := (ajb I.ok.mod.kin hm he).obj
 have hplain : (backTo cpos (starEach (e0 :: es) X.env)).any (·.1) = false := by
  rw [hse]
  show (false || (backTo cpos (starEach es X.env)).any (·.1)) = false
  rw [hpl]
  rfl
 refine wpAny_Raise_call_subT (C := C) (bm := tl) (N := N) (nm := nm) (q := q) (bs := bs) (hdct := hdct) (sn := sn) (sub := sub) (ab := ab) (col := col) (dd := dd) (k0 := k0) (k1 := k1) (k2 := k2) (k3 := k3) (k5 := k5) (mN := mN) FB (T.hasType FB.hasBase) (I.ok.hd hc) hplain hni (jQ I hg hm ⟨rfl, ?_⟩ hd)
 have h0 := ha cpos pins s σ H _ I h
 rw [hse] at h0 ⊢
 refine apC (wpAny_mono h0 (fun us s1 hq => ?_) fun _ _ z => z)
 obtain ⟨vs, H1, I1, r1, hl, hE⟩ := hq
 refine ⟨rfl, by rw [<- r1.length]; exact anE (yg hl), I1.bk _ _ hC, hN.keeps I1.bk, T.keeps I1.bk, fun h' e hx => hxe _ _ ?_⟩
 obtain ⟨t0, hu, _, _⟩ := hx.there
 refine aft (ah1 _ _) (leave_new (E := fun _ _ => False) I1 hst hf hex hx) fun _ s'' y k => ⟨e, _, none, H1, rfl, y, Dct.kd (h := h') ⟨_, hu, rfl, fun dx z => nomatch z⟩ k, hE⟩
def jF : Nat := 2 ^ 9000
theorem zZ {n m : Nat} (h : n < 2 ^ m) (hm : m <= 9000) : n < jF := ane h (aqE (by decide) hm)
theorem abE {k : Int} (h : k.natAbs < jF) : ao5 k <= 9000 := by
 unfold ao5
 split
 ·exact anA _
 ·have : k.natAbs.log2 < 9000 := by
   rcases Nat.eq_zero_or_pos k.natAbs with h0 | hp
   ·rw [h0]; decide
   ·exact (aq3 (aoW hp)).mpr h
  omega
def CMulH (i j : Int) : Prop := i.natAbs < jF /\ j.natAbs < jF
theorem CMulH.ok {i j : Int} (h : CMulH i j) : IntMulOk i j := by
 have e1 := abE h.1
 have e2 := abE h.2
 have : aqu ((ao5 i : Int) + (ao5 j : Int)) = false := by
  unfold aqu
  refine decide_eq_false ?_
  have : (100000 : Int) <= (bitsLine : Int) := by decide +kernel
  omega
 unfold IntMulOk
 rw [this, apj]
 exact amQ
theorem zL {X : Cx} : OpR X (binaryOp .Mult) (rI CMulH fun i j => .int (i * j)) := opI fun _ _ _ _ _ _ _ hc q => mul_int q hc.ok
def ah8 (_ j : Int) : Prop := j ≠ 0 /\ j.natAbs < jF
theorem jM {X : Cx} : OpR X (binaryOp .FloorDiv) (rI ah8 fun i j => .int (i.fdiv j)) := opI fun i j _ _ _ _ _ hc q => by
 obtain ⟨h1, h2⟩ := hc
 refine floordiv_int h1 q (.inl (ap2 ?_))
 exact (aq3 (by omega)).mpr h2
def aaR (q : Rat) : PyData := .tuple [.int q.num, .int (q.den : Nat)]
theorem aaS {g t : Int} (h : g ≠ 0) : (g * t).fdiv g = t := by
 rw [Int.mul_fdiv_cancel_left _ h]
theorem abF {t b : Int} (hb : b ≠ 0) : (t.fdiv (b.sign * (aoa t b : Int)) = (anC t b).num) /\ (b.fdiv (b.sign * (aoa t b : Int)) = ((anC t b).den : Int)) := by
 have gp : 0 < aoa t b := apM t hb
 have g0 : ((aoa t b : Nat) : Int) ≠ 0 := by omega
 obtain ⟨u, hu⟩ := Int.gcd_dvd_left t b
 obtain ⟨v, hv⟩ := Int.gcd_dvd_right t b
 have ss : b.sign * b.sign = 1 := by
  rcases apq b 0 with h | h | h
  ·rw [aod h]; rfl
  ·exact absurd h hb
  ·rw [aoe h]; rfl
 have s0 : b.sign * ((aoa t b : Nat) : Int) ≠ 0 := apN (fun z => by rw [z] at ss; cases ss) g0
 refine ⟨?_, ?_⟩
 ·rw [Rat.num_divInt, Int.gcd_comm b t]
  have e1 : t = b.sign * ((aoa t b : Nat) : Int) * (b.sign * u) := by
   rw [show b.sign * ((aoa t b : Nat) : Int) * (b.sign * u) = (b.sign * b.sign) * (((aoa t b : Nat) : Int) * u) by grind, ss, aqI, <- hu]
  have e2 : b.sign * t = ((aoa t b : Nat) : Int) * (b.sign * u) := by rw [show ((aoa t b : Nat) : Int) * (b.sign * u) = b.sign * (((aoa t b : Nat) : Int) * u) by grind, <- hu]
  rw [e2, ap6 _ g0]
  generalize hG : b.sign * ((aoa t b : Nat) : Int) = G at *
  rw [e1]
  exact aaS s0
 ·rw [Rat.den_divInt, if_neg hb, Int.gcd_comm b t]
  have e1 : b = b.sign * ((aoa t b : Nat) : Int) * (b.sign * v) := by
   rw [show b.sign * ((aoa t b : Nat) : Int) * (b.sign * v) = (b.sign * b.sign) * (((aoa t b : Nat) : Int) * v) by grind, ss, aqI, <- hv]
  have e3 : (b.natAbs : Int) = ((aoa t b : Nat) : Int) * (b.sign * v) := by
   rw [show ((aoa t b : Nat) : Int) * (b.sign * v) = b.sign * (((aoa t b : Nat) : Int) * v) by grind, <- hv]
   rcases apq b 0 with h | h | h
   ·rw [aod h]; omega
   ·exact absurd h hb
   ·rw [aoe h]; omega
  rw [Int.natCast_ediv, e3, ap6 _ g0]
  have key : ∀ G X : Int, G ≠ 0 -> b = G * X -> b.fdiv G = X := fun G X h e => by rw [e]; exact aaS h
  exact key _ _ s0 e1
theorem aaT (t b : Int) : (anC t b).num.natAbs <= t.natAbs := by
 rw [Rat.num_divInt]
 refine ank (Int.natAbs_ediv_le_natAbs _ _) ?_
 rw [anR]
 refine ank (aqJ _ (show b.sign.natAbs <= 1 from ?_)) (by rw [Nat.one_mul]; exact amV _)
 rcases apq b 0 with h | h | h
 ·rw [aod h]; decide
 ·rw [h]; decide
 ·rw [aoe h]; decide
theorem aaU {t b : Int} (h : b ≠ 0) : (anC t b).den <= b.natAbs := by
 rw [Rat.den_divInt, if_neg h]
 exact Nat.div_le_self _ _
end L2
namespace L2
open PySem PySem.Spec PyProof.Rows
section
variable {K : amR} {f : Fx} {ρ : zr} {R : zr -> Prop} {P : PyData -> Prop} {i j m : Nat}
theorem amC {a b c : PyData} (h : R (((ρ.set i (some (.dat a))).set j (some (.dat b))).set m (some (.dat c)))) : PGd K f (aiV K 3 (acL (jf i) (acL (jf j) (acL (jf m) akR)))) (.tuple [a, b, c]) ρ R := yp rfl (zm (zi (zm (zi (zm (zi (zN h)))))))
theorem aej {C : Int -> Int -> Prop} {g : Int -> Int -> Int} {a b : Int} (hi : ρ[i]? = some (some (.dat (.int a)))) (hj : ρ[j]? = some (some (.dat (.int b)))) (c : C a b) (p : P (.int (g a b))) : PEd K f (tOp (rI C fun i j => .int (g i j)) (yn i) (yn j)) ρ P := zX (zo hi ⟨_, rfl, zo hj ⟨_, rfl, c, p⟩⟩)
end
end L2
end
section
namespace My
open PySem PySem.Spec PyProof.Rows L2
def top (i : Nat) : Stmt := PySem.Challenge.pw_heightrings_k37_ring_areas_by_places.main.body.getD i (.Pass ⟨0, 0, 0, 0⟩)
abbrev acr : Stmt := top 1
abbrev alL : List Str := ["rows"]
theorem ajH : FnScope alL ["rows"] (zh acr) := ⟨rfl, rfl, rfl, by decide +kernel, rfl, by decide +kernel, by decide +kernel⟩
abbrev vq : Stmt := top 2
abbrev ah9 : List Str := ["rows", "wide", "tall"]
theorem sc_points : FnScope ah9 ["rows"] (zh vq) := ⟨rfl, rfl, rfl, by decide +kernel, rfl, by decide +kernel, by decide +kernel⟩
abbrev jt : Stmt := top 3
abbrev ado : List Str := ["rows", "x", "y", "wide", "tall"]
theorem sc_has_point : FnScope ado ["rows", "x", "y"] (zh jt) := ⟨rfl, rfl, rfl, by decide +kernel, rfl, by decide +kernel, by decide +kernel⟩
abbrev jX : Stmt := top 4
abbrev aek : List Str := ["rows", "x", "y"]
theorem adp : FnScope aek ["rows", "x", "y"] (zh jX) := ⟨rfl, rfl, rfl, by decide +kernel, rfl, by decide +kernel, by decide +kernel⟩
abbrev qA : Stmt := top 5
abbrev agy : List Str := ["x", "y"]
theorem ael : FnScope agy ["x", "y"] (zh qA) := ⟨rfl, rfl, rfl, by decide +kernel, rfl, by decide +kernel, by decide +kernel⟩
abbrev vt : Stmt := top 19
abbrev aia : List Str := ["one", "other"]
theorem sc_common : FnScope aia ["one", "other"] (zh vt) := ⟨rfl, rfl, rfl, by decide +kernel, rfl, by decide +kernel, by decide +kernel⟩
abbrev ju : Stmt := top 20
abbrev adq : List Str := ["top", "bottom", "by"]
theorem sc_shortened : FnScope adq ["top", "bottom"] (zh ju) := ⟨rfl, rfl, rfl, by decide +kernel, rfl, by decide +kernel, by decide +kernel⟩
abbrev aaj : Stmt := top 21
abbrev ajI : List Str := ["some", "top", "bottom", "more", "parts"]
theorem sc_total : FnScope ajI ["some"] (zh aaj) := ⟨rfl, rfl, rfl, by decide +kernel, rfl, by decide +kernel, by decide +kernel⟩
abbrev jv : Stmt := top 27
abbrev ads : List Str := ["rows", "at", "row"]
theorem sc_ask_table : FnScope ads ["rows"] (zh jv) := ⟨rfl, rfl, rfl, by decide +kernel, rfl, by decide +kernel, by decide +kernel⟩
abbrev acs : Stmt := top 28
abbrev alM : List Str := ["things"]
theorem ajJ : FnScope alM ["things"] (zh acs) := ⟨rfl, rfl, rfl, by decide +kernel, rfl, by decide +kernel, by decide +kernel⟩
abbrev vw : Stmt := top 29
abbrev aib : List Str := ["row"]
theorem agz : FnScope aib ["row"] (zh vw) := ⟨rfl, rfl, rfl, by decide +kernel, rfl, by decide +kernel, by decide +kernel⟩
abbrev aak : Stmt := top 33
abbrev ajK : List Str := ["rows", "cut", "sides"]
theorem sc_gates : FnScope ajK ["rows", "cut"] (zh aak) := ⟨rfl, rfl, rfl, by decide +kernel, rfl, by decide +kernel, by decide +kernel⟩
abbrev jY : Stmt := top 34
abbrev aem : List Str := ["rows", "cut", "gate"]
theorem adt : FnScope aem ["rows", "cut", "gate"] (zh jY) := ⟨rfl, rfl, rfl, by decide +kernel, rfl, by decide +kernel, by decide +kernel⟩
abbrev yO : Stmt := top 35
abbrev abc : List Str := ["rows", "cut", "point", "x", "y"]
theorem sc_stands_high : FnScope abc ["rows", "cut", "point"] (zh yO) := ⟨rfl, rfl, rfl, by decide +kernel, rfl, by decide +kernel, by decide +kernel⟩
abbrev yP : Stmt := top 36
abbrev abd : List Str := ["gate", "x", "y", "way"]
theorem sc_gate_points : FnScope abd ["gate"] (zh yP) := ⟨rfl, rfl, rfl, by decide +kernel, rfl, by decide +kernel, by decide +kernel⟩
abbrev jZ : Stmt := top 37
abbrev aen : List Str := ["rows", "gate"]
theorem adu : FnScope aen ["rows", "gate"] (zh jZ) := ⟨rfl, rfl, rfl, by decide +kernel, rfl, by decide +kernel, by decide +kernel⟩
abbrev qB : Stmt := top 38
abbrev agA : List Str := ["rows", "cut", "gate", "first", "second"]
theorem sc_is_open : FnScope agA ["rows", "cut", "gate"] (zh qB) := ⟨rfl, rfl, rfl, by decide +kernel, rfl, by decide +kernel, by decide +kernel⟩
abbrev yX : Stmt := top 39
abbrev acu : List Str := ["cell", "x", "y"]
theorem sc_cell_gates : FnScope acu ["cell"] (zh yX) := ⟨rfl, rfl, rfl, by decide +kernel, rfl, by decide +kernel, by decide +kernel⟩
abbrev yY : Stmt := top 40
abbrev acv : List Str := ["rows", "cut", "cell"]
theorem abe : FnScope acv ["rows", "cut", "cell"] (zh yY) := ⟨rfl, rfl, rfl, by decide +kernel, rfl, by decide +kernel, by decide +kernel⟩
abbrev yv : Stmt := top 41
abbrev vx : List Str := ["rows", "cut", "cell", "x", "y"]
theorem sc_has_high_middle : FnScope vx ["rows", "cut", "cell"] (zh yv) := ⟨rfl, rfl, rfl, by decide +kernel, rfl, by decide +kernel, by decide +kernel⟩
abbrev jw : Stmt := top 42
abbrev adv : List Str := ["rows", "cut", "cell", "through"]
theorem sc_cell_ties : FnScope adv ["rows", "cut", "cell"] (zh jw) := ⟨rfl, rfl, rfl, by decide +kernel, rfl, by decide +kernel, by decide +kernel⟩
abbrev yK : Stmt := top 43
abbrev aaV : List Str := ["rows", "cut", "cell", "above", "left", "below", "right"]
theorem sc_crossed_ties : FnScope aaV ["rows", "cut", "cell"] (zh yK) := ⟨rfl, rfl, rfl, by decide +kernel, rfl, by decide +kernel, by decide +kernel⟩
abbrev qC : Stmt := top 44
abbrev agB : List Str := ["rows", "cut", "gate", "x", "y", "way", "near_is_high"]
theorem sc_heading : FnScope agB ["rows", "cut", "gate"] (zh qC) := ⟨rfl, rfl, rfl, by decide +kernel, rfl, by decide +kernel, by decide +kernel⟩
abbrev yZ : Stmt := top 45
abbrev acw : List Str := ["rows", "cut", "gate", "across", "down"]
theorem sc_cell_ahead : FnScope acw ["rows", "cut", "gate"] (zh yZ) := ⟨rfl, rfl, rfl, by decide +kernel, rfl, by decide +kernel, by decide +kernel⟩
abbrev j7 : Stmt := top 46
abbrev aeo : List Str := ["rows", "cut", "gate", "across", "down"]
theorem sc_comes_in : FnScope aeo ["rows", "cut", "gate"] (zh j7) := ⟨rfl, rfl, rfl, by decide +kernel, rfl, by decide +kernel, by decide +kernel⟩
abbrev y3 : Stmt := top 47
abbrev acx : List Str := ["rows", "cut", "gate", "x", "y", "partners", "one", "other"]
theorem sc_gate_ahead : FnScope acx ["rows", "cut", "gate"] (zh y3) := ⟨rfl, rfl, rfl, by decide +kernel, rfl, by decide +kernel, by decide +kernel⟩
abbrev aal : Stmt := top 49
abbrev ajL : List Str := ["rows", "cut", "gate"]
theorem aic : FnScope ajL ["rows", "cut", "gate"] (zh aal) := ⟨rfl, rfl, rfl, by decide +kernel, rfl, by decide +kernel, by decide +kernel⟩
abbrev j8 : Stmt := top 50
abbrev aep : List Str := ["rows", "cut", "gate", "x", "y", "way", "part", "whole"]
theorem sc_place_of : FnScope aep ["rows", "cut", "gate"] (zh j8) := ⟨rfl, rfl, rfl, by decide +kernel, rfl, by decide +kernel, by decide +kernel⟩
abbrev aam : Stmt := top 51
abbrev ajM : List Str := ["rows", "cut", "gate", "first", "second"]
theorem sc_share : FnScope ajM ["rows", "cut", "gate"] (zh aam) := ⟨rfl, rfl, rfl, by decide +kernel, rfl, by decide +kernel, by decide +kernel⟩
abbrev aan : Stmt := top 53
abbrev ajN : List Str := ["rows", "cut", "through", "starts", "told", "passed", "start", "line", "gate"]
theorem sc_lines : FnScope ajN ["rows", "cut"] (zh aan) := ⟨rfl, rfl, rfl, by decide +kernel, rfl, by decide +kernel, by decide +kernel⟩
abbrev jx : Stmt := top 54
abbrev adw : List Str := ["rows", "cut", "start", "path", "gate"]
theorem sc_line_from : FnScope adw ["rows", "cut", "start"] (zh jx) := ⟨rfl, rfl, rfl, by decide +kernel, rfl, by decide +kernel, by decide +kernel⟩
abbrev jy : Stmt := top 56
abbrev adx : List Str := ["rows", "cut", "line", "word", "path"]
theorem sc_ring_area : FnScope adx ["rows", "cut", "line"] (zh jy) := ⟨rfl, rfl, rfl, by decide +kernel, rfl, by decide +kernel, by decide +kernel⟩
abbrev y4 : Stmt := top 57
abbrev acy : List Str := ["around", "after", "top", "bottom"]
theorem sc_field_area : FnScope acy ["around"] (zh y4) := ⟨rfl, rfl, rfl, by decide +kernel, rfl, by decide +kernel, by decide +kernel⟩
abbrev j9 : Stmt := top 59
abbrev qY : List Str := ["_law_script", "_law_k", "_law_cell"]
theorem sc_law_feed : FnScope qY ["_law_script", "_law_k"] (zh j9) := ⟨rfl, rfl, rfl, by decide +kernel, rfl, by decide +kernel, by decide +kernel⟩
abbrev qa : Stmt := top 60
abbrev aeq : List Str := ["_law_feed_here", "_law_many", "_law_found"]
theorem sc_law_draw : FnScope aeq ["_law_feed_here", "_law_many"] (zh qa) := ⟨rfl, rfl, rfl, by decide +kernel, rfl, by decide +kernel, by decide +kernel⟩
abbrev ja : Stmt := top 61
abbrev acz : List Str := ["_law_feed_here", "_law_far", "_law_base"]
theorem abf : FnScope acz ["_law_feed_here", "_law_far", "_law_base"] (zh ja) := ⟨rfl, rfl, rfl, by decide +kernel, rfl, by decide +kernel, by decide +kernel⟩
abbrev jz : Stmt := top 62
abbrev ady : List Str := ["_law_feed_here", "_law_wide", "_law_high", "_law_far", "_law_base"]
theorem sc_law_table : FnScope ady ["_law_feed_here"] (zh jz) := ⟨rfl, rfl, rfl, by decide +kernel, rfl, by decide +kernel, by decide +kernel⟩
abbrev qD : Stmt := top 63
abbrev agC : List Str := ["_law_feed_here", "_law_rows", "_law_row"]
theorem sc_law_cut : FnScope agC ["_law_feed_here", "_law_rows"] (zh qD) := ⟨rfl, rfl, rfl, by decide +kernel, rfl, by decide +kernel, by decide +kernel⟩
abbrev jb : Stmt := top 64
abbrev acA : List Str := ["_law_one", "_law_other"]
theorem sc_law_common : FnScope acA ["_law_one", "_law_other"] (zh jb) := ⟨rfl, rfl, rfl, by decide +kernel, rfl, by decide +kernel, by decide +kernel⟩
abbrev qE : Stmt := top 65
abbrev agD : List Str := ["_law_rows", "_law_cut_here", "_law_line", "_law_spots", "_law_top", "_law_bottom", "_law_k", "_law_a", "_law_b", "_law_w", "_law_c", "_law_d", "_law_v", "_law_one", "_law_by"]
theorem sc_law_due : FnScope agD ["_law_rows", "_law_cut_here", "_law_line"] (zh qE) := ⟨rfl, rfl, rfl, by decide +kernel, rfl, by decide +kernel, by decide +kernel⟩
abbrev jA : Stmt := top 66
abbrev adz : List Str := ["_law_caught", "_law_some"]
theorem sc_law_alone : FnScope adz ["_law_caught"] (zh jA) := ⟨rfl, rfl, rfl, by decide +kernel, rfl, by decide +kernel, by decide +kernel⟩
abbrev qb : Stmt := top 67
abbrev aer : List Str := ["_law_rows", "_law_cut_here", "_law_line", "_law_found", "_law_caught"]
theorem sc_law_told : FnScope aer ["_law_rows", "_law_cut_here", "_law_line"] (zh qb) := ⟨rfl, rfl, rfl, by decide +kernel, rfl, by decide +kernel, by decide +kernel⟩
abbrev vZ : Stmt := top 68
abbrev afv : List Str := ["_law_script", "_law_k", "_law_feed_here", "_law_rows", "_law_cut_here", "_law_kept", "_law_line", "_law_due_here", "_law_turn"]
theorem sc_law : FnScope afv ["_law_script"] (zh vZ) := ⟨rfl, rfl, rfl, by decide +kernel, rfl, by decide +kernel, by decide +kernel⟩
def tab (rows : List (List Int)) : PyData := .list (rows.map fun r => .list (r.map .int))
structure Good (w : Nat) (rows : List (List Int)) : Prop where
 h1 : 2 <= rows.length
 h2 : rows.length <= 7
 w1 : 2 <= w
 w2 : w <= 7
 row : ∀ r ∈ rows, r.length = w
 hgt : ∀ r ∈ rows, ∀ n ∈ r, -1000000000 <= n /\ n <= 1000000000
theorem Good.ne {w : Nat} {rows : List (List Int)} (g : Good w rows) : ∃ r rs, rows = r :: rs := by
 cases rows with
 | nil => have := g.h1; simp at this
 | cons r rs => exact ⟨r, rs, rfl⟩
theorem yQ {α β : Type} {F : α -> β} {xs : List α} {k : Int} {j : Nat} (hk : (j : Int) = k) (h : j < xs.length) : atI (xs.map F) k = some (F xs[j]) := by
 subst hk
 exact aeR (by rw [am1, amP h]; rfl)
local macro_rules | `(tactic| walk_at "dl") => `(tactic| first
 | (with_reducible show PSd _ _ (qJ _ (acM (yn _) (tC (V.int 0)) aaA)) _ _; refine aeY rfl ?_)
 | (with_reducible show PSd _ _ (qJ _ (acM (yn _) (tC (V.int 1)) aaA)) _ _; refine aeZ rfl ?_)
 | with_reducible refine zH ?_ | with_reducible refine v9 ?_ | with_reducible refine yE ?_ | with_reducible refine zF ?_ | with_reducible refine qT ?_ | with_reducible refine qh ?_
 | with_reducible refine zi ?_ | with_reducible refine yp rfl ?_ | with_reducible refine zm ?_ | with_reducible refine zN ?_
 | with_reducible refine yA ?_ | with_reducible refine t_b ?_ | with_reducible refine ag8 ?_ | with_reducible refine ak8 ?_ | with_reducible refine acX ?_ | with_reducible refine qg ?_
 | with_reducible refine aeX ?_ | with_reducible refine aeW ?_ | with_reducible refine qf ?_ | with_reducible refine zX ?_ | with_reducible refine jH ?_
 | with_reducible refine ai6 ?_ | with_reducible refine aaD ?_ | with_reducible refine d_orV ?_ | with_reducible refine ad2 ?_
 | with_reducible refine yt ?_ | with_reducible refine amd ?_ | with_reducible refine qO ?_ | with_reducible refine ako ?_
 | (with_reducible show PEd _ _ (yn _) _ _; refine zo rfl ?_)
 | (with_reducible show PEd _ _ (tOp (af1 _) (yn _) _) _ _; refine akp rfl ?_)
 | with_reducible refine acW ?_ | with_reducible refine abv ?_
 | (with_reducible show PAd _ _ (yo (yn _) _) _ _; refine ag7 rfl ?_)
 | with_reducible refine zx ?_ | with_reducible refine yh ?_
 | with_reducible refine jI ?_ | with_reducible refine akq ?_ | with_reducible refine ag9 ?_ | with_reducible refine aha ?_ | with_reducible refine ahb ?_ | with_reducible refine ahc ?_ | with_reducible refine vD ?_
 | (with_reducible show (∃ _, _) \/ (∃ _, _); refine Or.inl ⟨_, rfl, ?_⟩) | refine ⟨_, rfl, ?_⟩ | refine ⟨_, _, rfl, ?_⟩
 | (with_reducible show (_ = _ /\ ∀ _, _) \/ _; first | refine Or.inl ⟨rfl, fun a ha => ?_⟩ | refine Or.inr ⟨rfl, fun b hb hb' => ?_⟩)
 | refine ⟨rfl, ?_⟩
 | (refine And.intro ?side ?_; (case side => first | omega | exact Int.ediv_nonneg (by omega) (by omega) | exact apJ _ (by omega) | exact aow _ (by omega) | decide | exact ⟨by decide, by decide, by decide⟩ | exact ⟨by omega, by omega⟩ | exact Or.inl ⟨by omega, by omega⟩ | exact Or.inr ⟨by omega, by omega⟩ | (refine ank (aoX (by rfl)) (show _ <= 1000 by decide)) | ((repeat' apply And.intro) <;> first | rfl | omega | decide | assumption) | (simp [aq2]))))
section
variable {P : Program} {w : World} {K : amR} {mg : Str -> Option Value} {base : Heap} {k : Nat}
theorem ajO (F : Def K mg "size" acr ["rows"]) (m_len : mg "len" = none) : FnIn P w K mg base (k + 1) "size" ["rows"] (spD K 1 (fun (c : List (List Int) × Nat) xs => xs = [.dat (tab c.1)] /\ Good c.2 c.1) fun c r => r = .tuple [.int c.2, .int c.1.length]) := by
 refine F.ok ajH rfl fun fa cdv A outer s H E hr => ⟨_, (zj (zv (zI (za (zu (yi (K := K) rfl) rfl m_len anW (za (z6 (zG (K := K) rfl) (pv 0) zg (fun _ _ => rfl)) zb)) (za (zu (yi (K := K) rfl) rfl m_len anW (za (pv 0) zb)) zb))))), ?_⟩
 rintro f xs ⟨rows, wd⟩ hl ⟨rfl, g⟩
 try dsimp only [zM, zk]
 obtain ⟨r, rs, rfl⟩ := g.ne
 repeat walk_at "dl"
 refine ⟨_, yQ (j := 0) rfl (by simp), ?_⟩
 repeat walk_at "dl"
 have hw := g.row r am6
 show PyData.tuple [.int _, .int _] = _
 rw [amT, amT]
 show PyData.tuple [.int (r.length : Nat), _] = _
 rw [hw]
theorem ajP (F : Def K mg "fits" acs ["things"]) (m_len : mg "len" = none) (m_FEWEST : ∃ t, mg "FEWEST" = some (.int 2 t)) (m_MOST : ∃ t, mg "MOST" = some (.int 7 t)) :
  FnIn P w K mg base (k + 1) "fits" ["things"] (spD K 1 (fun (c : List PyData) xs => xs = [.dat (.list c)]) fun c r => r = .bool (decide (2 <= c.length /\ c.length <= 7))) := by
 obtain ⟨_, m_FEWEST⟩ := m_FEWEST
 obtain ⟨_, m_MOST⟩ := m_MOST
 refine F.ok ajJ rfl fun fa cdv A outer s H E hr => ⟨_, (zj (zv (aax abj abj (vd rfl m_FEWEST) (zu (yi (K := K) rfl) rfl m_len anW (za (pv 0) zb)) (vd rfl m_MOST)))), ?_⟩
 rintro f xs ds hl rfl
 try dsimp only [zM, zk]
 repeat walk_at "dl"
 by_cases h : 2 <= ds.length
 ·rw [if_pos (by simp; omega)]
  repeat walk_at "dl"
  show PyData.bool _ = _
  congr 1
  by_cases h7 : ds.length <= 7 <;> simp [h, h7] <;> omega
 ·rw [if_neg (by simp; omega)]
  show PyData.bool _ = _
  congr 1
  simp [h]
theorem agE (F : Def K mg "is_row" vw ["row"]) (m_min : mg "min" = none) (m_max : mg "max" = none) (m_LEAST : ∃ t, mg "LEAST" = some (.int (-1000000000) t)) (m_GREATEST : ∃ t, mg "GREATEST" = some (.int 1000000000 t))
  (G_fits : FnIn P w K mg base k "fits" ["things"] (spD K 1 (fun (c : List PyData) xs => xs = [.dat (.list c)]) fun c r => r = .bool (decide (2 <= c.length /\ c.length <= 7)))) :
  FnIn P w K mg base (k + 1) "is_row" ["row"] (spD K 1 (fun (c : List Int) xs => xs = [.dat (.list (c.map .int))]) fun c r => r = .bool (decide (2 <= c.length /\ c.length <= 7 /\ ∀ n ∈ c, -1000000000 <= n /\ n <= 1000000000))) := by
 obtain ⟨_, m_LEAST⟩ := m_LEAST
 obtain ⟨_, m_GREATEST⟩ := m_GREATEST
 refine F.ok agz rfl fun fa cdv A outer s H E hr => ⟨_, (zj (zv (vC (ze G_fits hr rfl (za (pv 0) zb)) (vC (vb abj (vd rfl m_LEAST) (zu (agb (K := K) rfl rfl) rfl m_min boot_min (za (pv 0) zb)) (z7 _)) (abS (vb abj (zu (agc (K := K) rfl rfl) rfl m_max boot_max (za (pv 0) zb)) (vd rfl m_GREATEST) (z7 _))))))), ?_⟩
 rintro f xs c hl rfl
 try dsimp only [zM, zk]
 repeat walk_at "dl"
 refine zp (c.map .int) ?_
 repeat walk_at "dl"
 rintro r rfl
 rw [amT]
 repeat walk_at "dl"
 by_cases h : 2 <= c.length /\ c.length <= 7
 ·have hne : c ≠ [] := by rintro rfl; simp at h
  rw [if_pos (by simpa using h)]
  repeat walk_at "dl"
  intro M hM hM'
  repeat walk_at "dl"
  by_cases h2 : -1000000000 <= M
  ·rw [if_pos (by simpa using h2)]
   repeat walk_at "dl"
   intro M' hN hN'
   repeat walk_at "dl"
   show PyData.bool _ = _
   congr 1
   rw [decide_eq_decide]
   refine ⟨fun q => ⟨h.1, h.2, fun n hn => ⟨Int.le_trans h2 (hM' n hn), Int.le_trans (hN' n hn) q⟩⟩, fun q => (q.2.2 M' hN).2⟩
  ·rw [if_neg (by simpa using h2)]
   show PyData.bool _ = _
   congr 1
   symm
   rw [decide_eq_false_iff_not]
   exact fun q => h2 (q.2.2 M hM).1
 ·rw [if_neg (by simpa using h)]
  show PyData.bool _ = _
  congr 1
  symm
  rw [decide_eq_false_iff_not]
  exact fun q => h ⟨q.1, q.2.1⟩
abbrev adA (K : amR) : Sp := spD K 1 (fun (c : List (List Int) × Nat) xs => xs = [.dat (tab c.1)] /\ Good c.2 c.1) fun _ r => r = .bool true
theorem alN (F : Def K mg "ask_table" jv ["rows"]) (m_len : mg "len" = none) (m_enumerate : mg "enumerate" = none)
  (G_fits : FnIn P w K mg base k "fits" ["things"] (spD K 1 (fun (c : List PyData) xs => xs = [.dat (.list c)]) fun c r => r = .bool (decide (2 <= c.length /\ c.length <= 7))))
  (G_is_row : FnIn P w K mg base k "is_row" ["row"] (spD K 1 (fun (c : List Int) xs => xs = [.dat (.list (c.map .int))]) fun c r => r = .bool (decide (2 <= c.length /\ c.length <= 7 /\ ∀ n ∈ c, -1000000000 <= n /\ n <= 1000000000)))) :
  FnIn P w K mg base (k + 1) "ask_table" ["rows"] (adA K) := by
 refine F.ok sc_ask_table rfl fun fa cdv A outer s H E hr => ⟨_, (zc (yC (aar (yu (K := K) rfl (ze G_fits hr rfl (za (pv 0) zb)) (fun _ => rfl))) (zj aas) zR) (zc (jS anK rfl (ahh (K := K) rfl rfl m_enumerate (za (pv 0) zb)) (zD (K := K) (n := 2) rfl rfl (zf (zd (i := 1) sc_ask_table.nd rfl (Or.inl rfl) (Or.inr rfl)) (zf (zd (i := 2) sc_ask_table.nd rfl (Or.inl rfl) (Or.inr rfl)) zA))) (zj (yC (PW.pt (akg (zW (qU (K := K) rfl hr.units) (zu (yi (K := K) rfl) rfl m_len anW (za (pv 2) zb)) (zu (yi (K := K) rfl) rfl m_len anW (za (z6 (zG (K := K) rfl) (pv 0) zg (fun _ _ => rfl)) zb)) (z7 _)) (agS (aar (yu (K := K) rfl (ze G_is_row hr rfl (za (pv 2) zb)) (fun _ => rfl)))))) (zj aas) zR))) (zj (zv abi)))), ?_⟩
 rintro f xs ⟨rows, wd⟩ hl ⟨rfl, g⟩
 try dsimp only [zM, zk]
 have g1 := g.h1
 have g2 := g.h2
 repeat walk_at "dl"
 refine zp (rows.map fun r => .list (r.map .int)) ?_
 repeat walk_at "dl"
 rintro r rfl
 dsimp only at g1 g2
 refine ⟨_, rfl, ?_⟩
 rw [amT, decide_eq_true ⟨g1, g2⟩, anB, if_neg amQ]
 repeat walk_at "dl"
 refine ad3 ?_
 repeat walk_at "dl"
 refine ⟨fun i ρ => ∃ a b, ρ = [some (.dat (tab rows)), a, b], ⟨_, _, rfl⟩, ?_, ?_⟩
 ·rintro i d ρ hd ⟨a, b, rfl⟩
  rw [am1] at hd
  cases hr : rows[i]? with
  | none => rw [hr] at hd; cases hd
  | some r =>
   rw [hr] at hd
   cases hd
   have hm := ana hr
   have hw := g.row r hm
   obtain ⟨r0, rs, hrs⟩ := g.ne
   dsimp only at hrs
   subst hrs
   have hw0 := g.row r0 am6
   repeat walk_at "dl"
   refine ⟨_, yQ (j := 0) rfl (by simp), ?_⟩
   repeat walk_at "dl"
   dsimp only at hw hw0
   rw [if_pos rfl, amT, amT]
   show (if (!(((r.length : Nat) : Int) == ((r0.length : Nat) : Int))) = true then _ else _)
   rw [hw, hw0, beq_self_eq_true, anB, if_neg amQ]
   repeat walk_at "dl"
   refine zp r ?_
   repeat walk_at "dl"
   rintro _ rfl
   refine ⟨_, rfl, ?_⟩
   have w1 := g.w1
   have w2 := g.w2
   dsimp only at w1 w2
   rw [decide_eq_true ⟨by omega, by omega, g.hgt r hm⟩, anB, if_neg amQ]
   repeat walk_at "dl"
   exact ⟨_, _, rfl⟩
 ·rintro ρ ⟨a, b, rfl⟩
  repeat walk_at "dl"
  rfl
theorem ajQ (F : Def K mg "_law_draw" qa ["_law_feed_here", "_law_many"]) : FnIn P w K mg base (k + 1) "_law_draw" ["_law_feed_here", "_law_many"] (spD K 2 (fun (c : Int) xs => xs = [.feed, .dat (.int c)] /\ 0 < c /\ c < 1152921504606846976) fun c r => ∃ i : Int, r = .int i /\ 0 <= i /\ i < c) := by
 refine F.ok sc_law_draw rfl fun fa cdv A outer s H E hr => ⟨_, (zc (yC (zW akj (z6 (zG (K := K) rfl) (pv 0) zg (fun _ _ => rfl)) (zq aaw zg zg) (z7 _)) (zc (zE (i := 2) sc_law_draw.nd rfl (Or.inl rfl) (zq qk (z6 (zG (K := K) rfl) (pv 0) zg (fun _ _ => rfl)) (pv 1))) (zc (zT (zq ac3 (z6 (zG (K := K) rfl) (pv 0) zg (fun _ _ => rfl)) (pv 1)) (abT (pv 0) zg set_list)) (zj (zv (pv 2))))) zR) (zc (zT (zq qk (zq zQ (zq zQ (zq aav (z6 (zG (K := K) rfl) (pv 0) zg (fun _ _ => rfl)) zg) (zq qk (z6 (zG (K := K) rfl) (pv 0) zg (fun _ _ => rfl)) zg)) zg) zg) (abT (pv 0) zg set_list)) (zj (zv (zq qk (zq ac3 (zq qk (zq aav (z6 (zG (K := K) rfl) (pv 0) zg (fun _ _ => rfl)) zg) zg) zg) (pv 1)))))), ?_⟩
 rintro f xs c hl ⟨rfl, c0, c1⟩
 try dsimp only [zM, zk]
 repeat walk_at "dl"
 split
 ·repeat walk_at "dl"
  exact aow _ c0
 ·repeat walk_at "dl"
  exact aow _ c0
abbrev aes (K : amR) : Sp := spD K 2 (fun (c : Int) xs => xs = [.feed, .dat (.int c)] /\ 0 < c /\ c < 1152921504606846976) fun c r => ∃ i : Int, r = .int i /\ 0 <= i /\ i < c
abbrev adB (K : amR) : Sp := spD K 3 (fun (c : Int × Int) xs => xs = [.feed, .dat (.int c.1), .dat (.int c.2)] /\ 0 <= c.1 /\ c.1 <= 10 /\ -1000000000 <= c.2 /\ c.2 <= 999999991) fun c r => ∃ i : Int, r = .int i /\ -1000000000 <= i /\ i <= 1000000000
theorem agF (F : Def K mg "_law_height" ja ["_law_feed_here", "_law_far", "_law_base"]) (m_min : mg "min" = none) (G__law_draw : FnIn P w K mg base k "_law_draw" ["_law_feed_here", "_law_many"] (aes K)) :
  FnIn P w K mg base (k + 1) "_law_height" ["_law_feed_here", "_law_far", "_law_base"] (adB K) := by
 refine F.ok abf rfl fun fa cdv A outer s H E hr => ⟨_, (zc (yC (zW aeK (pv 1) zg (z7 _)) (zj (zv (zq zQ (pv 2) (ze G__law_draw hr rfl (za (pv 0) (za (pv 1) zb)))))) zR) (zj (zv (zu (abk rfl) rfl m_min boot_min (za (zq aaw zg zg) (za (zq jC (zq zQ (zq aav (ze G__law_draw hr rfl (za (pv 0) (za zg zb))) zg) (ze G__law_draw hr rfl (za (pv 0) (za zg zb)))) (zq aaw zg zg)) zb)))))), ?_⟩
 rintro f xs ⟨far, bs⟩ hl ⟨rfl, c0, c1, c2, c3⟩
 dsimp only at c0 c1 c2 c3
 try dsimp only [zM, zk]
 repeat walk_at "dl"
 by_cases h : 0 < far
 ·rw [if_pos (by simpa using h)]
  repeat walk_at "dl"
  refine zp far ?_
  repeat walk_at "dl"
  rintro r ⟨i, rfl, h1, h2⟩
  repeat walk_at "dl"
  show bs + i <= 1000000000
  omega
 ·rw [if_neg (by simpa using h)]
  repeat walk_at "dl"
  refine zp 20001 ?_
  repeat walk_at "dl"
  rintro r ⟨i, rfl, h1, h2⟩
  repeat walk_at "dl"
  refine zp 100000 ?_
  repeat walk_at "dl"
  rintro r ⟨j, rfl, h3, h4⟩
  repeat walk_at "dl"
  have e9 : (10 : Int) ^ Int.toNat 9 = 1000000000 := by decide
  rw [e9]
  omega
end
open PySem PySem.Spec PyProof.Rows L2
section
variable {P : Program} {w : World} {K : amR} {mg : Str -> Option Value} {base : Heap} {k : Nat}
abbrev afw (K : amR) : Sp := spD K 1 (fun (_ : Unit) xs => xs = [.feed]) fun _ r => ∃ wd rows, r = tab rows /\ Good wd rows
theorem menu {ds : List PyData} {i n : Int} (h0 : 0 <= i) (h1 : i < n) (hn : n = (ds.length : Int)) : ∃ d, atI ds i = some d /\ d ∈ ds := by
 have hi : i.toNat < ds.length := by omega
 have e : i = ((i.toNat : Nat) : Int) := by omega
 have q := aeR (amP hi)
 rw [<- e] at q
 exact ⟨_, q, ani hi⟩
theorem afx : ∀ {es : List PyData} {p : Int -> Prop}, (∀ (i : Nat) e, es[i]? = some e -> ∃ n : Int, e = .int n /\ p n) -> ∃ ns : List Int, es = ns.map .int /\ ∀ n ∈ ns, p n
 | [], p, _ => ⟨[], rfl, fun n h => by cases h⟩
 | e :: es, p, h => by
  obtain ⟨n, rfl, hn⟩ := h 0 e rfl
  obtain ⟨ns, rfl, hs⟩ := afx (es := es) (p := p) fun i e' he => h (i + 1) e' (by simpa using he)
  exact ⟨n :: ns, rfl, fun m hm => by
   rcases am2.mp hm with rfl | hm
   ·exact hn
   ·exact hs m hm⟩
theorem afy : ∀ {es : List PyData} {p : List Int -> Prop}, (∀ (i : Nat) e, es[i]? = some e -> ∃ r : List Int, e = .list (r.map .int) /\ p r) -> ∃ rows : List (List Int), es = rows.map (fun r => .list (r.map .int)) /\ ∀ r ∈ rows, p r
 | [], p, _ => ⟨[], rfl, fun n h => by cases h⟩
 | e :: es, p, h => by
  obtain ⟨n, rfl, hn⟩ := h 0 e rfl
  obtain ⟨ns, rfl, hs⟩ := afy (es := es) (p := p) fun i e' he => h (i + 1) e' (by simpa using he)
  exact ⟨n :: ns, rfl, fun m hm => by
   rcases am2.mp hm with rfl | hm
   ·exact hn
   ·exact hs m hm⟩
theorem aid (F : Def K mg "_law_table" jz ["_law_feed_here"]) (m_range : mg "range" = none) (G__law_draw : FnIn P w K mg base k "_law_draw" ["_law_feed_here", "_law_many"] (aes K)) (G__law_height : FnIn P w K mg base k "_law_height" ["_law_feed_here", "_law_far", "_law_base"] (adB K)) :
  FnIn P w K mg base (k + 1) "_law_table" ["_law_feed_here"] (afw K) := by
 refine F.ok sc_law_table rfl fun fa cdv A outer s H E hr => ⟨_, (zc (zE (i := 1) sc_law_table.nd rfl (Or.inr rfl) (zq zQ zg (ze G__law_draw hr rfl (za (pv 0) (za zg zb))))) (zc (zE (i := 2) sc_law_table.nd rfl (Or.inl rfl) (zq zQ zg (ze G__law_draw hr rfl (za (pv 0) (za zg zb))))) (zc (zE (i := 3) sc_law_table.nd rfl (Or.inr rfl) (z6 (zG (K := K) rfl) (yz (za zg (za zg (za zg (za zg (za zg (za zg (za zg zb)))))))) (ze G__law_draw hr rfl (za (pv 0) (za zg zb))) (fun _ _ => rfl))) (zc (zE (i := 4) sc_law_table.nd rfl (Or.inr rfl) (z6 (zG (K := K) rfl) (yz (za zg (za (zq jC zg zg) (za (zq jC (zq aaw zg zg) zg) (za (zq jC zg (zq aaw zg zg)) zb))))) (ze G__law_draw hr rfl (za (pv 0) (za zg zb))) (fun _ _ => rfl))) (zj (zv (yD (N := ["_law_y", "_law_feed_here", "_law_wide", "_law_far", "_law_base"]) (own := 1) (fr := [0, 1, 3, 4]) ⟨rfl, by decide +kernel, of_decide_eq_true (by kernel_rfl), of_decide_eq_true (by kernel_rfl), of_decide_eq_true (by kernel_rfl), rfl⟩ rfl (yL rfl m_range (za (pv 2) zb)) (fun _ _ _ _ => (zd (i := 0) (show (["_law_y", "_law_feed_here", "_law_wide", "_law_far", "_law_base"] : List Str).Nodup by decide +kernel) rfl (Or.inl rfl) (Or.inr rfl))) (fun _ _ _ _ => yr) (fun _ _ _ _ => (yD (N := ["_law_x", "_law_feed_here", "_law_far", "_law_base"]) (own := 1) (fr := [1, 3, 4]) ⟨rfl, by decide +kernel, of_decide_eq_true (by kernel_rfl), of_decide_eq_true (by kernel_rfl), of_decide_eq_true (by kernel_rfl), rfl⟩ rfl (yL rfl m_range (za (pv 2) zb)) (fun _ _ _ _ => (zd (i := 0) (show (["_law_x", "_law_feed_here", "_law_far", "_law_base"] : List Str).Nodup by decide +kernel) rfl (Or.inl rfl) (Or.inr rfl))) (fun _ _ _ _ => yr) (fun _ _ _ _ => (ze G__law_height hr rfl (za (pv 1) (za (pv 2) (za (pv 3) zb))))) rfl rfl (fun _ => rfl))) rfl rfl (fun _ => rfl)))))))), ?_⟩
 rintro f xs ⟨⟩ hl rfl
 try dsimp only [zM, zk]
 repeat walk_at "dl"
 refine zp 6 ?_
 repeat walk_at "dl"
 rintro r ⟨i1, rfl, h1, h2⟩
 repeat walk_at "dl"
 refine zp 6 ?_
 repeat walk_at "dl"
 rintro r ⟨i2, rfl, h3, h4⟩
 repeat walk_at "dl"
 refine zp 7 ?_
 repeat walk_at "dl"
 rintro r ⟨i3, rfl, h5, h6⟩
 refine ⟨_, rfl, ?_⟩
 obtain ⟨d3, e3, m3⟩ := menu (ds := [.int 2, .int 3, .int 5, .int 10, .int 2, .int 3, .int 0]) h5 h6 (by simp)
 obtain ⟨far, rfl, f0, f1⟩ : ∃ n : Int, d3 = .int n /\ 0 <= n /\ n <= 10 := by
  simp only [am2, anL, or_false] at m3
  rcases m3 with rfl | rfl | rfl | rfl | rfl | rfl | rfl <;> exact ⟨_, rfl, by decide, by decide⟩
 refine ⟨_, e3, ?_⟩
 repeat walk_at "dl"
 refine zp 4 ?_
 repeat walk_at "dl"
 rintro r ⟨i4, rfl, h7, h8⟩
 refine ⟨_, rfl, ?_⟩
 obtain ⟨d4, e4, m4⟩ := menu (ds := [.int 0, .int (0 - 3), .int (10 ^ Int.toNat 9 - 9), .int (0 - 10 ^ Int.toNat 9)]) h7 h8 (by simp)
 obtain ⟨bs, rfl, b0, b1⟩ : ∃ n : Int, d4 = .int n /\ -1000000000 <= n /\ n <= 999999991 := by
  simp only [am2, anL, or_false] at m4
  rcases m4 with rfl | rfl | rfl | rfl <;> exact ⟨_, rfl, by decide, by decide⟩
 refine ⟨_, e4, ?_⟩
 repeat walk_at "dl"
 refine acZ ?_
 repeat walk_at "dl"
 refine ⟨fun _ e => ∃ r : List Int, e = .list (r.map .int) /\ r.length = (2 + i1).toNat /\ ∀ n ∈ r, -1000000000 <= n /\ n <= 1000000000, fun D i hi => ?_, fun es hes hR => ?_⟩
 ·refine acZ ?_
  repeat walk_at "dl"
  refine ⟨fun _ e => ∃ n : Int, e = .int n /\ -1000000000 <= n /\ n <= 1000000000, fun D' i' hi' => ?_, fun es hes hR => ?_⟩
  ·refine zp (far, bs) ?_
   repeat walk_at "dl"
   rintro r ⟨n, rfl, n0, n1⟩
   exact ⟨n, rfl, n0, n1⟩
  ·obtain ⟨ns, rfl, hs⟩ := afx (p := fun n => -1000000000 <= n /\ n <= 1000000000) hR
   exact ⟨ns, rfl, by rw [amT] at hes; exact hes, hs⟩
 ·obtain ⟨rows, rfl, hs⟩ := afy (p := fun r => r.length = (2 + i1).toNat /\ ∀ n ∈ r, -1000000000 <= n /\ n <= 1000000000) hR
  rw [amT] at hes
  exact ⟨(2 + i1).toNat, rows, rfl, by omega, by omega, by omega, by omega, fun r hr => (hs r hr).1, fun r hr => (hs r hr).2⟩
abbrev akC (K : amR) : Sp := spD K 2 (fun (c : List (List Int) × Nat) xs => xs = [.feed, .dat (tab c.1)] /\ Good c.2 c.1) fun _ r => ∃ n : Int, r = .int n /\ -1000000001 <= n /\ n <= 1000000000
end
open PySem PySem.Spec PyProof.Rows L2
local macro_rules | `(tactic| walk_at "dl") => `(tactic| first
 | (with_reducible show PSd _ _ (qJ _ (acM (yn _) (tC (V.int 0)) aaA)) _ _; refine aeY rfl ?_)
 | (with_reducible show PSd _ _ (qJ _ (acM (yn _) (tC (V.int 1)) aaA)) _ _; refine aeZ rfl ?_)
 | with_reducible refine zH ?_ | with_reducible refine v9 ?_ | with_reducible refine yE ?_ | with_reducible refine zF ?_ | with_reducible refine qT ?_ | with_reducible refine qh ?_
 | with_reducible refine zi ?_ | with_reducible refine yp rfl ?_ | with_reducible refine zm ?_ | with_reducible refine zN ?_
 | with_reducible refine yA ?_ | with_reducible refine t_b ?_ | with_reducible refine ag8 ?_ | with_reducible refine ak8 ?_ | with_reducible refine acX ?_ | with_reducible refine qg ?_
 | with_reducible refine aeX ?_ | with_reducible refine aeW ?_ | with_reducible refine qf ?_ | with_reducible refine zX ?_ | with_reducible refine jH ?_
 | with_reducible refine ai6 ?_ | with_reducible refine aaD ?_ | with_reducible refine d_orV ?_ | with_reducible refine ad2 ?_
 | with_reducible refine yt ?_ | with_reducible refine amd ?_ | with_reducible refine qO ?_ | with_reducible refine ako ?_
 | (with_reducible show PEd _ _ (yn _) _ _; refine zo rfl ?_)
 | (with_reducible show PEd _ _ (tOp (af1 _) (yn _) _) _ _; refine akp rfl ?_)
 | with_reducible refine acW ?_ | with_reducible refine abv ?_
 | (with_reducible show PAd _ _ (yo (yn _) _) _ _; refine ag7 rfl ?_)
 | with_reducible refine zx ?_ | with_reducible refine yh ?_
 | with_reducible refine d_catT ?_ | with_reducible refine ahl ?_ | with_reducible refine ahj ?_ | with_reducible refine ahk ?_ | with_reducible refine d_int1 ?_ | with_reducible refine aja ?_ | with_reducible refine jo ?_
 | with_reducible refine jI ?_ | with_reducible refine akq ?_ | with_reducible refine ag9 ?_ | with_reducible refine aha ?_ | with_reducible refine ahb ?_ | with_reducible refine ahc ?_ | with_reducible refine vD ?_
 | (with_reducible show (∃ _, _) \/ (∃ _, _); first | refine Or.inl ⟨_, rfl, ?_⟩ | refine Or.inr ⟨_, rfl, ?_⟩) | refine ⟨_, rfl, ?_⟩ | refine ⟨_, _, rfl, ?_⟩
 | (with_reducible show (_ = _ /\ ∀ _, _) \/ _; first | refine Or.inl ⟨rfl, fun a ha => ?_⟩ | refine Or.inr ⟨rfl, fun b hb hb' => ?_⟩)
 | (with_reducible show PyData.canLay0 _ = true /\ _; refine And.intro (by first | rfl | assumption | decide +kernel) ?_)
 | (with_reducible show min _ _ <= 60 /\ _; refine And.intro (by first | assumption | (simp [aq2, am0]; done)) ?_)
 | refine ⟨rfl, ?_⟩
 | (refine And.intro ?side ?_; (case side => first | omega | exact Int.ediv_nonneg (by omega) (by omega) | exact apJ _ (by omega) | exact aow _ (by omega) | decide | exact ⟨by decide, by decide, by decide⟩ | exact ⟨by omega, by omega⟩ | exact Or.inl ⟨by omega, by omega⟩ | exact Or.inr ⟨by omega, by omega⟩ | (refine ank (aoX (by rfl)) (show _ <= 1000 by decide)) | ((repeat' apply And.intro) <;> first | rfl | omega | decide | assumption) | (simp [aq2]))))
theorem yV {b : Bool} {p q : Prop} (h1 : b = true -> p) (h2 : b = false -> q) : if b = true then p else q := by
 cases b with
 | true => rw [if_pos rfl]; exact h1 rfl
 | false => rw [if_neg amQ]; exact h2 rfl
def yf (rows : List (List Int)) (wd : Nat) (x y : Int) : Bool := decide (0 <= x /\ x < wd) && decide (0 <= y /\ y < rows.length)
def zO (rows : List (List Int)) (x y : Int) : Int := (rows.getD y.toNat []).getD x.toNat 0
theorem qc {rows : List (List Int)} {wd : Nat} {x y : Int} (h : yf rows wd x y = true) : 0 <= x /\ x < wd /\ 0 <= y /\ y < rows.length := by
 unfold yf at h
 rw [amX] at h
 have h1 := of_decide_eq_true h.1
 have h2 := of_decide_eq_true h.2
 omega
def jB (x y w : Int) : PyData := .tuple [.int x, .int y, .int w]
def px (x : Int) (w : Int) : Int := if w = 0 then x + 1 else x
def py (y : Int) (w : Int) : Int := if w = 0 then y else y + 1
def qK (rows : List (List Int)) (wd : Nat) (x y w : Int) : Bool := decide (w = 0 \/ w = 1) && (yf rows wd x y && yf rows wd (px x w) (py y w))
def ye (rows : List (List Int)) (wd : Nat) (cut x y w : Int) : Bool := qK rows wd x y w && (decide (cut < zO rows x y) != decide (cut < zO rows (px x w) (py y w)))
def abG (rows : List (List Int)) (cut x y w : Int) : Str := if w = 0 then (if cut < zO rows x y then "up" else "down") else (if cut < zO rows x y then "right" else "left")
theorem afz (a b : Int) : anl (.int a) (.int b) = decide (a = b) := rfl
theorem adC (a b : Bool) : anl (.bool a) (.bool b) = (a == b) := rfl
section
variable {P : Program} {w : World} {K : amR} {mg : Str -> Option Value} {base : Heap} {k : Nat}
abbrev aie (K : amR) : Sp := spD K 1 (fun (c : List (List Int) × Nat) xs => xs = [.dat (tab c.1)] /\ Good c.2 c.1) fun c r => r = .tuple [.int c.2, .int c.1.length]
abbrev aif (K : amR) : Sp := spD K 3 (fun (c : List (List Int) × Nat × Int × Int) xs => xs = [.dat (tab c.1), .dat (.int c.2.2.1), .dat (.int c.2.2.2)] /\ Good c.2.1 c.1) fun c r => r = .bool (yf c.1 c.2.1 c.2.2.1 c.2.2.2)
theorem alO (F : Def K mg "has_point" jt ["rows", "x", "y"]) (G_size : FnIn P w K mg base k "size" ["rows"] (aie K)) : FnIn P w K mg base (k + 1) "has_point" ["rows", "x", "y"] (aif K) := by
 refine F.ok sc_has_point rfl fun fa cdv A outer s H E hr => ⟨_, (zc (zT (ze G_size hr rfl (za (pv 0) zb)) (zD (K := K) (n := 2) rfl rfl (zf (zd (i := 3) sc_has_point.nd rfl (Or.inl rfl) (Or.inr rfl)) (zf (zd (i := 4) sc_has_point.nd rfl (Or.inl rfl) (Or.inr rfl)) zA)))) (zj (zv (vC (aax abj agX zg (pv 1) (pv 3)) (abS (aax abj agX zg (pv 2) (pv 4))))))), ?_⟩
 rintro f xs ⟨rows, wd, x, y⟩ hl ⟨rfl, g⟩
 try dsimp only [zM, zk]
 dsimp only at *
 refine zH (zF (zp (rows, wd) ?_))
 repeat walk_at "dl"
 rintro _ rfl
 repeat walk_at "dl"
 have fin : ∀ b : Bool, b = yf rows wd x y -> PyData.bool b = PyData.bool (yf rows wd x y) := fun b h => by rw [h]
 refine yV (fun h1 => ?_) fun h1 => ?_
 ·have h1' := of_decide_eq_true h1
  repeat walk_at "dl"
  refine yV (fun h2 => ?_) fun h2 => ?_
  ·have h2' := of_decide_eq_true h2
   repeat walk_at "dl"
   refine yV (fun h3 => ?_) fun h3 => ?_
   ·have h3' := of_decide_eq_true h3
    repeat walk_at "dl"
    refine fin _ ?_
    unfold yf
    dsimp only at h2' ⊢
    rw [decide_eq_true (p := (0 <= x /\ x < (wd : Int))) (by omega), apB]
    exact decide_eq_decide.mpr (by omega)
   ·have h3' := of_decide_eq_false h3
    refine fin _ ?_
    unfold yf
    rw [decide_eq_false (p := (0 <= y /\ y < (rows.length : Int))) (by omega), apj]
  ·have h2' := of_decide_eq_false h2
   refine fin _ ?_
   unfold yf
   dsimp only at h2'
   rw [decide_eq_false (p := (0 <= x /\ x < (wd : Int))) (by omega), aoS]
 ·have h1' := of_decide_eq_false h1
  refine ⟨_, rfl, ?_⟩
  rw [if_neg amQ]
  refine fin _ ?_
  unfold yf
  rw [decide_eq_false (p := (0 <= x /\ x < (wd : Int))) (by omega), aoS]
abbrev acB (K : amR) : Sp := spD K 3 (fun (c : List (List Int) × Nat × Int × Int × Int) xs => xs = [.dat (tab c.1), .dat (.int c.2.2.1), .dat (.tuple [.int c.2.2.2.1, .int c.2.2.2.2])] /\ Good c.2.1 c.1 /\ yf c.1 c.2.1 c.2.2.2.1 c.2.2.2.2 = true) fun c r => r = .bool (decide (c.2.2.1 < zO c.1 c.2.2.2.1 c.2.2.2.2))
theorem aaW {rows : List (List Int)} {wd : Nat} {x y : Int} (g : Good wd rows) (h : yf rows wd x y = true) : ∃ r : List Int, atI (rows.map fun q => PyData.list (q.map .int)) y = some (.list (r.map .int)) /\ atI (r.map PyData.int) x = some (.int (zO rows x y)) := by
 obtain ⟨x0, x1, y0, y1⟩ := qc h
 have hy : y.toNat < rows.length := by omega
 have hr := g.row _ (ani hy)
 have hx : x.toNat < rows[y.toNat].length := by omega
 refine ⟨rows[y.toNat], yQ (F := fun q : List Int => PyData.list (q.map .int)) (by omega) hy, ?_⟩
 rw [yQ (j := x.toNat) (by omega) hx]
 unfold zO
 rw [amS, amS, amP hy, Option.getD_some, amP hx]
 rfl
theorem ajR (F : Def K mg "stands_high" yO ["rows", "cut", "point"]) : FnIn P w K mg base (k + 1) "stands_high" ["rows", "cut", "point"] (acB K) := by
 refine F.ok sc_stands_high rfl fun fa cdv A outer s H E hr => ⟨_, (zc (zT (pv 2) (zD (K := K) (n := 2) rfl rfl (zf (zd (i := 3) sc_stands_high.nd rfl (Or.inl rfl) (Or.inr rfl)) (zf (zd (i := 4) sc_stands_high.nd rfl (Or.inl rfl) (Or.inr rfl)) zA)))) (zj (zv (vb aeK (z6 (zG (K := K) rfl) (z6 (zG (K := K) rfl) (pv 0) (pv 4) (fun _ _ => rfl)) (pv 3) (fun _ _ => rfl)) (pv 1) (z7 _))))), ?_⟩
 rintro f xs ⟨rows, wd, cut, x, y⟩ hl ⟨rfl, g, hi⟩
 try dsimp only [zM, zk]
 dsimp only at *
 obtain ⟨r, h1, h2⟩ := aaW g hi
 unfold tab
 repeat walk_at "dl"
 refine ⟨_, h1, ?_⟩
 repeat walk_at "dl"
 refine ⟨_, h2, ?_⟩
 repeat walk_at "dl"
 rfl
abbrev afA (K : amR) : Sp := spD K 1 (fun (c : Int × Int × Int) xs => xs = [.dat (jB c.1 c.2.1 c.2.2)]) fun c r => r = .list [.tuple [.int c.1, .int c.2.1], .tuple [.int (px c.1 c.2.2), .int (py c.2.1 c.2.2)]]
theorem alP (F : Def K mg "gate_points" yP ["gate"]) : FnIn P w K mg base (k + 1) "gate_points" ["gate"] (afA K) := by
 refine F.ok sc_gate_points rfl fun fa cdv A outer s H E hr => ⟨_, (zc (zT (pv 0) (zD (K := K) (n := 3) rfl rfl (zf (zd (i := 1) sc_gate_points.nd rfl (Or.inl rfl) (Or.inr rfl)) (zf (zd (i := 2) sc_gate_points.nd rfl (Or.inl rfl) (Or.inr rfl)) (zf (zd (i := 3) sc_gate_points.nd rfl (Or.inl rfl) (Or.inr rfl)) zA))))) (zc (yC (zW (aaF (K := K) rfl hr.units) (pv 3) zg (z7 _)) (zj (zv (yz (za (zI (za (pv 1) (za (pv 2) zb))) (za (zI (za (zq zQ (pv 1) zg) (za (pv 2) zb))) zb))))) zR) (zj (zv (yz (za (zI (za (pv 1) (za (pv 2) zb))) (za (zI (za (pv 1) (za (zq zQ (pv 2) zg) zb))) zb))))))), ?_⟩
 rintro f xs ⟨x, y, w⟩ hl rfl
 try dsimp only [zM, zk]
 dsimp only at *
 unfold jB
 repeat walk_at "dl"
 rw [if_neg amQ, afz]
 refine yV (fun h => ?_) fun h => ?_
 ·have h' := of_decide_eq_true h
  repeat walk_at "dl"
  unfold px py
  rw [if_pos h', if_pos h']
 ·have h' := of_decide_eq_false h
  repeat walk_at "dl"
  unfold px py
  rw [if_neg h', if_neg h']
abbrev aih (K : amR) : Sp := spD K 2 (fun (c : List (List Int) × Nat × Int × Int × Int) xs => xs = [.dat (tab c.1), .dat (jB c.2.2.1 c.2.2.2.1 c.2.2.2.2)] /\ Good c.2.1 c.1) fun c r => r = .bool (qK c.1 c.2.1 c.2.2.1 c.2.2.2.1 c.2.2.2.2)
theorem ajS (F : Def K mg "has_gate" jZ ["rows", "gate"]) (m_all : mg "all" = none) (G_has_point : FnIn P w K mg base k "has_point" ["rows", "x", "y"] (aif K)) (G_gate_points : FnIn P w K mg base k "gate_points" ["gate"] (afA K)) : FnIn P w K mg base (k + 1) "has_gate" ["rows", "gate"] (aih K) := by
 refine F.ok adu rfl fun fa cdv A outer s H E hr => ⟨_, (zc (yC (zW (agf (K := K) rfl) (z6 (jn (K := K) rfl) (pv 1) zg (fun _ _ => rfl)) (zI (za zg (za zg zb))) rfl) (zj (zv abi)) zR) (zj (zv (zu (abw (K := K) rfl rfl) rfl m_all aqv (za (yD (N := ["x", "y", "rows"]) (own := 2) (fr := [0]) ⟨rfl, by decide +kernel, of_decide_eq_true (by kernel_rfl), of_decide_eq_true (by kernel_rfl), of_decide_eq_true (by kernel_rfl), rfl⟩ rfl (yj (K := K) rfl (ze G_gate_points hr rfl (za (pv 1) zb))) (fun _ _ _ _ => (zD (K := K) (n := 2) rfl rfl (zf (zd (i := 0) (show (["x", "y", "rows"] : List Str).Nodup by decide +kernel) rfl (Or.inl rfl) (Or.inr rfl)) (zf (zd (i := 1) (show (["x", "y", "rows"] : List Str).Nodup by decide +kernel) rfl (Or.inl rfl) (Or.inr rfl)) zA)))) (fun _ _ _ _ => yr) (fun _ _ _ _ => (ze G_has_point hr rfl (za (pv 2) (za (pv 0) (za (pv 1) zb))))) rfl rfl (fun _ => rfl)) zb))))), ?_⟩
 rintro f xs ⟨rows, wd, x, y, w⟩ hl ⟨rfl, g⟩
 try dsimp only [zM, zk]
 dsimp only at *
 refine zH (v9 (yA (ahq ?_)))
 unfold jB
 repeat walk_at "dl"
 refine ⟨[0, 1], rfl, _, rfl, ?_⟩
 have hc : (([0, 1] : List Int).contains w) = decide (w = 0 \/ w = 1) := by
  rw [aqo]
  simp
 rw [hc]
 by_cases h : w = 0 \/ w = 1
 ·rw [decide_eq_true h, anB, if_neg amQ]
  refine qh (yE (akr (PEdO.ped (vT (A := fun p : Int × Int => PyData.tuple [.int p.1, .int p.2]) (B := fun p : Int × Int => PyData.bool (yf rows wd p.1 p.2)) [(x, y), (px x w, py y w)] (yN (zp (x, y, w) ?_))))))
  repeat walk_at "dl"
  rintro _ rfl
  refine ⟨_, rfl, rfl, show 2 <= 1000 by decide, ?_, ?_⟩
  ·rintro D p ρ' es hp ho hes
   obtain ⟨u, v, rfl⟩ := ho.two
   refine yp rfl (zm (zi (zm (zi (zN (jo ?_))))))
   rw [if_pos rfl]
   refine yJ hes (zp (rows, wd, p.1, p.2) ?_)
   repeat walk_at "dl"
   rintro _ rfl
   exact ⟨.mk2, rfl⟩
  ·refine ⟨[yf rows wd x y, yf rows wd (px x w) (py y w)], rfl, ?_⟩
   show PyData.bool _ = PyData.bool _
   unfold qK
   rw [decide_eq_true h, apB]
   show PyData.bool (yf rows wd x y && (yf rows wd (px x w) (py y w) && true)) = _
   rw [Bool.and_true]
 ·rw [decide_eq_false h, apn, if_pos rfl]
  repeat walk_at "dl"
  unfold qK
  rw [decide_eq_false h]
  rfl
abbrev aaX (K : amR) : Sp := spD K 3 (fun (c : List (List Int) × Nat × Int × Int × Int × Int) xs => xs = [.dat (tab c.1), .dat (.int c.2.2.1), .dat (jB c.2.2.2.1 c.2.2.2.2.1 c.2.2.2.2.2)] /\ Good c.2.1 c.1) fun c r => r = .bool (ye c.1 c.2.1 c.2.2.1 c.2.2.2.1 c.2.2.2.2.1 c.2.2.2.2.2)
theorem qr {rows : List (List Int)} {wd : Nat} {x y w : Int} (h : qK rows wd x y w = true) : yf rows wd x y = true /\ yf rows wd (px x w) (py y w) = true := by
 unfold qK at h
 rw [amX, amX] at h
 exact h.2
theorem ajT (F : Def K mg "is_open" qB ["rows", "cut", "gate"]) (G_has_gate : FnIn P w K mg base k "has_gate" ["rows", "gate"] (aih K)) (G_gate_points : FnIn P w K mg base k "gate_points" ["gate"] (afA K)) (G_stands_high : FnIn P w K mg base k "stands_high" ["rows", "cut", "point"] (acB K)) : FnIn P w K mg base (k + 1) "is_open" ["rows", "cut", "gate"] (aaX K) := by
 refine F.ok sc_is_open rfl fun fa cdv A outer s H E hr => ⟨_, (zc (yC (aar (yu (K := K) rfl (ze G_has_gate hr rfl (za (pv 0) (za (pv 2) zb))) (fun _ => rfl))) (zj (zv abi)) zR) (zc (zT (ze G_gate_points hr rfl (za (pv 2) zb)) (ab5 (K := K) (n := 2) rfl rfl (zf (zd (i := 3) sc_is_open.nd rfl (Or.inl rfl) (Or.inr rfl)) (zf (zd (i := 4) sc_is_open.nd rfl (Or.inl rfl) (Or.inr rfl)) zA)))) (zj (zv (vb (qU (K := K) rfl hr.units) (ze G_stands_high hr rfl (za (pv 0) (za (pv 1) (za (pv 3) zb)))) (ze G_stands_high hr rfl (za (pv 0) (za (pv 1) (za (pv 4) zb)))) (z7 _)))))), ?_⟩
 rintro f xs ⟨rows, wd, cut, x, y, w⟩ hl ⟨rfl, g⟩
 try dsimp only [zM, zk]
 dsimp only at *
 refine zH (v9 (acX (qg (zp (rows, wd, x, y, w) ?_))))
 repeat walk_at "dl"
 rintro _ rfl
 refine ⟨_, rfl, ?_⟩
 dsimp only
 cases h : qK rows wd x y w with
 | false =>
  rw [apn, if_pos rfl]
  repeat walk_at "dl"
  unfold ye
  rw [h]
  rfl
 | true =>
  rw [anB, if_neg amQ]
  obtain ⟨i1, i2⟩ := qr h
  refine qh (zH (zF (zp (x, y, w) ?_)))
  repeat walk_at "dl"
  rintro _ rfl
  dsimp only
  refine ahp rfl (zm (zi (zm (zi (zN ?_)))))
  refine yE (jH (zp (rows, wd, cut, x, y) ?_))
  repeat walk_at "dl"
  rintro _ rfl
  refine zp (rows, wd, cut, px x w, py y w) ?_
  repeat walk_at "dl"
  rintro _ rfl
  dsimp only
  repeat walk_at "dl"
  show PyData.bool _ = PyData.bool _
  unfold ye
  rw [h, apB, if_pos rfl, adC]
  rfl
theorem alQ (F : Def K mg "_law_cut" qD ["_law_feed_here", "_law_rows"]) (m_len : mg "len" = none) (G__law_draw : FnIn P w K mg base k "_law_draw" ["_law_feed_here", "_law_many"] (aes K)) : FnIn P w K mg base (k + 1) "_law_cut" ["_law_feed_here", "_law_rows"] (akC K) := by
 refine F.ok sc_law_cut rfl fun fa cdv A outer s H E hr => ⟨_, (zc (zE (i := 2) sc_law_cut.nd rfl (Or.inl rfl) (z6 (zG (K := K) rfl) (pv 1) (ze G__law_draw hr rfl (za (pv 0) (za (zu (yi (K := K) rfl) rfl m_len anW (za (pv 1) zb)) zb))) (fun _ _ => rfl))) (zj (zv (zq jC (z6 (zG (K := K) rfl) (pv 2) (ze G__law_draw hr rfl (za (pv 0) (za (zu (yi (K := K) rfl) rfl m_len anW (za (pv 2) zb)) zb))) (fun _ _ => rfl)) (ze G__law_draw hr rfl (za (pv 0) (za zg zb))))))), ?_⟩
 rintro f xs ⟨rows, wd⟩ hl ⟨rfl, g⟩
 try dsimp only [zM, zk]
 dsimp only at *
 have g1 := g.h1
 have g2 := g.h2
 have w1 := g.w1
 have w2 := g.w2
 have ml : (rows.map fun r => PyData.list (r.map .int)).length = rows.length := amT _
 have ml1 : 2 <= (rows.map fun r => PyData.list (r.map .int)).length := by omega
 have ml2 : (rows.map fun r => PyData.list (r.map .int)).length <= 7 := by omega
 refine zH (zF (acW ?_))
 unfold tab
 repeat walk_at "dl"
 refine zp (((rows.map fun r => PyData.list (r.map .int)).length : Nat) : Int) ?_
 repeat walk_at "dl"
 rintro _ ⟨i, rfl, i0, i1⟩
 have hi : i.toNat < rows.length := by omega
 have hr := g.row _ (ani hi)
 have hh := g.hgt _ (ani hi)
 refine ⟨_, rfl, _, yQ (F := fun q : List Int => PyData.list (q.map .int)) (j := i.toNat) (by omega) hi, ?_⟩
 generalize rows[i.toNat] = row at hr hh
 have rl : (row.map PyData.int).length = row.length := amT _
 have rl1 : 2 <= (row.map PyData.int).length := by omega
 have rl2 : (row.map PyData.int).length <= 7 := by omega
 repeat walk_at "dl"
 refine zp (((row.map PyData.int).length : Nat) : Int) ?_
 repeat walk_at "dl"
 rintro _ ⟨q, rfl, q0, q1⟩
 have hq : q.toNat < row.length := by omega
 refine ⟨_, rfl, _, yQ (F := PyData.int) (j := q.toNat) (by omega) hq, ?_⟩
 have hb := hh _ (ani hq)
 generalize row[q.toNat] = v at hb
 repeat walk_at "dl"
 refine zp 2 ?_
 repeat walk_at "dl"
 rintro _ ⟨u, rfl, u0, u1⟩
 repeat walk_at "dl"
 omega
end
open PySem PySem.Spec PyProof.Rows L2
theorem qt {n i : Nat} {d : PyData} (h : (qm n)[i]? = some d) : i < n /\ d = .int (i : Int) := by
 unfold qm at h
 rw [am1] at h
 by_cases hi : i < n
 ·rw [aog hi] at h
  cases h
  exact ⟨hi, rfl⟩
 ·rw [anj (by rw [anO]; omega)] at h
  cases h
theorem vM (n : Nat) : (qm n).length = n := by unfold qm; simp
def ajU (x y : Nat) : PyData := .tuple [.int x, .int y]
def qu (t n : Nat) : List PyData := (am8 n).flatMap fun x => (am8 t).map (ajU x)
theorem adD (t n : Nat) : qu t (n + 1) = qu t n ++ (am8 t).map (ajU n) := by
 unfold qu
 rw [ao9, aor]
 simp
theorem afB (t : Nat) : ∀ n, (qu t n).length = t * n
 | 0 => rfl
 | n + 1 => by rw [adD, am9, afB t n, amT, anO, Nat.mul_succ]
section
variable {P : Program} {w : World} {K : amR} {mg : Str -> Option Value} {base : Heap} {k : Nat}
abbrev adE (K : amR) : Sp := spD K 1 (fun (c : List (List Int) × Nat) xs => xs = [.dat (tab c.1)] /\ Good c.2 c.1) fun c r => r = .list (qu c.1.length c.2)
theorem agG (F : Def K mg "points" vq ["rows"]) (m_range : mg "range" = none) (G_size : FnIn P w K mg base k "size" ["rows"] (aie K)) : FnIn P w K mg base (k + 1) "points" ["rows"] (adE K) := by
 refine F.ok sc_points rfl fun fa cdv A outer s H E hr => ⟨_, (zc (zT (ze G_size hr rfl (za (pv 0) zb)) (zD (K := K) (n := 2) rfl rfl (zf (zd (i := 1) sc_points.nd rfl (Or.inl rfl) (Or.inr rfl)) (zf (zd (i := 2) sc_points.nd rfl (Or.inr rfl) (Or.inl rfl)) zA)))) (zj (zv (ag4 (N := ["x", "y", "tall"]) (own := 2) (fr := [2]) ⟨rfl, by decide +kernel, of_decide_eq_true (by kernel_rfl), of_decide_eq_true (by kernel_rfl), of_decide_eq_true (by kernel_rfl), rfl⟩ rfl (yL rfl m_range (za (pv 1) zb)) (fun _ _ _ _ => (zd (i := 0) (show (["x", "y", "tall"] : List Str).Nodup by decide +kernel) rfl (Or.inl rfl) (Or.inr rfl))) (fun _ _ _ _ => yr) (fun _ _ _ _ => (yL rfl m_range (za (pv 2) zb))) (fun _ _ _ _ => (zd (i := 1) (show (["x", "y", "tall"] : List Str).Nodup by decide +kernel) rfl (Or.inl rfl) (Or.inr rfl))) (fun _ _ _ _ => yr) (fun _ _ _ _ => (zI (za (pv 0) (za (pv 1) zb)))) rfl rfl (fun _ => rfl) (fun _ _ _ _ _ => rfl))))), ?_⟩
 rintro f xs ⟨rows, wd⟩ hl ⟨rfl, g⟩
 try dsimp only [zM, zk]
 dsimp only at *
 have g2 := g.h2
 have w2 := g.w2
 refine zH (zF (zp (rows, wd) ?_))
 repeat walk_at "dl"
 rintro _ rfl
 refine yp rfl (zm (zi (zm (zi (zN ?_)))))
 refine yE (PEdO.ped (vF (ve (zx (zo rfl (yh ⟨_, rfl, by dsimp only; omega, by dsimp only; omega, fun n ρ es => (∃ u v, ρ = [u, v, some (.dat (.int rows.length))]) /\ es = qu rows.length n, ⟨⟨_, _, rfl⟩, rfl⟩, ?_, ?_⟩))))))
 ·rintro D n d ρ' es hd ⟨⟨u, v, rfl⟩, rfl⟩
  obtain ⟨hn, rfl⟩ := qt hd
  have hn' : n < wd := by have : n < ((wd : Int)).toNat := hn; omega
  have l1 : rows.length * n <= 7 * 7 := aox g2 (by omega)
  refine zi (jo ?_)
  rw [if_pos rfl]
  refine ame (ve (zx (zo rfl (yh ⟨_, rfl, by omega, by omega, fun m ρ es => (∃ v, ρ = [some (.dat (.int n)), v, some (.dat (.int rows.length))]) /\ es = qu rows.length n ++ (am8 m).map (ajU n), ⟨⟨_, rfl⟩, by simp⟩, ?_, ?_⟩))))
  ·rintro m d ρ2 es2 hd2 ⟨⟨v, rfl⟩, rfl⟩
   obtain ⟨hm, rfl⟩ := qt hd2
   have hm' : m < rows.length := by have : m < ((rows.length : Int)).toNat := hm; omega
   refine zi (jo ?_)
   rw [if_pos rfl]
   refine yJ (by rw [am9, afB, amT, anO]; omega) ?_
   repeat walk_at "dl"
   rw [ao9, anx, apm]
   rfl
  ·rintro ρ2 es2 ⟨⟨v, rfl⟩, rfl⟩
   rw [vM, aoR]
   exact ⟨⟨_, _, rfl⟩, by rw [adD]⟩
 ·rintro ρ' es ⟨_, rfl⟩
  rw [vM, aoR]
end
open PySem PySem.Spec PyProof.Rows L2
def F2 : PyData -> List PyData
 | .tuple [.int x, .int y] => [jB x y 0, jB x y 1]
 | _ => []
def gD3 (g : Int × Int × Int) : PyData := jB g.1 g.2.1 g.2.2
def opG (rows : List (List Int)) (wd : Nat) (cut : Int) (g : Int × Int × Int) : Bool := ye rows wd cut g.1 g.2.1 g.2.2
def yB (t n : Nat) : List (Int × Int × Int) := (am8 n).flatMap fun (x : Nat) => (am8 t).flatMap fun (y : Nat) => [((x : Int), (y : Int), (0 : Int)), ((x : Int), (y : Int), (1 : Int))]
theorem adF (t n : Nat) : (qu t n).flatMap F2 = (yB t n).map gD3 := by
 unfold qu yB
 rw [List.flatMap_assoc, List.map_flatMap]
 congr 1
 funext x
 rw [List.flatMap_map, List.map_flatMap]
 rfl
theorem ajV {t n : Nat} {d : PyData} (h : d ∈ qu t n) : ∃ x y : Nat, d = ajU x y := by
 obtain ⟨x, _, h⟩ := anM.mp h
 obtain ⟨y, _, rfl⟩ := ant.mp h
 exact ⟨x, y, rfl⟩
theorem aaY {α : Type} {F : Nat -> List α} {b : Nat} (h : ∀ n, (F n).length <= b) : ∀ n, ((am8 n).flatMap F).length <= b * n
 | 0 => by simp
 | n + 1 => by
  rw [ao9, aor, am9]
  have := aaY h n
  have := h n
  simp only [List.flatMap_cons, List.flatMap_nil, anG]
  rw [Nat.mul_succ]
  omega
theorem abH {t n : Nat} (ht : t <= 7) (hn : n <= 7) : (yB t n).length <= 98 := by
 have h := aaY (F := fun (x : Nat) => (am8 t).flatMap fun (y : Nat) => [((x : Int), (y : Int), (0 : Int)), ((x : Int), (y : Int), (1 : Int))]) (b := 2 * t) (fun x => aaY (F := fun (y : Nat) => [((x : Int), (y : Int), (0 : Int)), ((x : Int), (y : Int), (1 : Int))]) (b := 2) (fun y => amV 2) t) n
 exact ank h (aox (show 2 * t <= 14 by omega) hn)
def alR (rows : List (List Int)) (wd : Nat) (cut : Int) (x y : Nat) : List (Int × Int × Int) := (if ye rows wd cut x y 0 = true then [((x : Int), (y : Int), (0 : Int))] else []) ++ if ye rows wd cut x y 1 = true then [((x : Int), (y : Int), (1 : Int))] else []
def z9 (rows : List (List Int)) (wd : Nat) (cut : Int) : List (Int × Int × Int) := (am8 wd).flatMap fun x => (am8 rows.length).flatMap fun y => alR rows wd cut x y
theorem agH {α : Type} {F : Nat -> List α} (n : Nat) : (am8 (n + 1)).flatMap F = (am8 n).flatMap F ++ F n := by
 rw [ao9, aor]
 simp
theorem ajW (rows : List (List Int)) (wd : Nat) (cut : Int) (x y : Nat) : alR rows wd cut x y = [((x : Int), (y : Int), (0 : Int)), ((x : Int), (y : Int), (1 : Int))].filter (opG rows wd cut) := by
 unfold alR opG
 simp only [an0, aqp]
 cases ye rows wd cut x y 0 <;> cases ye rows wd cut x y 1 <;> rfl
theorem qv (rows : List (List Int)) (wd : Nat) (cut : Int) : z9 rows wd cut = (yB rows.length wd).filter (opG rows wd cut) := by
 unfold z9 yB
 rw [aqP]
 congr 1
 funext x
 rw [aqP]
 congr 1
 funext y
 exact ajW rows wd cut x y
def gLt (a b : Int × Int × Int) : Prop := a.1 < b.1 \/ (a.1 = b.1 /\ (a.2.1 < b.2.1 \/ (a.2.1 = b.2.1 /\ a.2.2 < b.2.2)))
theorem afC {α : Type} {R : α -> α -> Prop} {F : Nat -> List α} (n : Nat) (h1 : ∀ i, i < n -> (F i).Pairwise R) (h2 : ∀ i j, i < j -> j < n -> ∀ a ∈ F i, ∀ b ∈ F j, R a b) : ((am8 n).flatMap F).Pairwise R := by
 induction n with
 | zero => simp
 | succ n ih =>
  rw [agH, List.pairwise_append]
  refine ⟨ih (fun i hi => h1 i (by omega)) (fun i j hij hj => h2 i j hij (by omega)), h1 n (by omega), fun a ha b hb => ?_⟩
  obtain ⟨i, hi, ha⟩ := anM.mp ha
  exact h2 i n (ans.mp hi) (by omega) a ha b hb
theorem adG (t n : Nat) : (yB t n).Pairwise gLt := by
 unfold yB
 refine afC n (fun x _ => afC t (fun y _ => ?_) fun y y' hy _ a ha b hb => ?_) fun x x' hx _ a ha b hb => ?_
 ·simp [gLt]
 ·simp only [am2, anL, or_false] at ha hb
  rcases ha with rfl | rfl <;> rcases hb with rfl | rfl <;> (unfold gLt; dsimp only; omega)
 ·obtain ⟨y, _, ha⟩ := anM.mp ha
  obtain ⟨y', _, hb⟩ := anM.mp hb
  simp only [am2, anL, or_false] at ha hb
  rcases ha with rfl | rfl <;> rcases hb with rfl | rfl <;> (unfold gLt; dsimp only; omega)
theorem abI {rows : List (List Int)} {wd : Nat} {cut : Int} (g : Good wd rows) : (z9 rows wd cut).length <= 98 := by
 rw [qv]
 exact ank (aoA _ _) (abH g.h2 g.w2)
theorem ajX (rows : List (List Int)) : (tab rows).canLay0 = true /\ (tab rows).depth <= 60 := by
 have intz : ∀ r : List Int, aoF (r.map .int) = true /\ am0 (r.map .int) = 0 := fun r => by
  induction r with
  | nil => exact ⟨rfl, rfl⟩
  | cons n r ih => exact ⟨ih.1, by show max 0 (am0 (r.map .int)) = 0; rw [ih.2]; rfl⟩
 have all : aoF (rows.map fun r => PyData.list (r.map .int)) = true /\ am0 (rows.map fun r => PyData.list (r.map .int)) <= 1 := by
  induction rows with
  | nil => exact ⟨rfl, anA _⟩
  | cons r rows ih =>
   refine ⟨?_, ?_⟩
   ·show (aoF (r.map .int) && aoF (rows.map fun r => PyData.list (r.map .int))) = true
    rw [(intz r).1, ih.1]
    rfl
   ·show max (am0 (r.map .int) + 1) (am0 (rows.map fun r => PyData.list (r.map .int))) <= 1
    rw [(intz r).2]
    exact Nat.max_le.mpr ⟨amV _, ih.2⟩
 exact ⟨all.1, ank (Nat.succ_le_succ all.2) (by decide)⟩
open PySem PySem.Spec PyProof.Rows L2
section
variable {P : Program} {w : World} {K : amR} {mg : Str -> Option Value} {base : Heap} {k : Nat}
abbrev afD (K : amR) : Sp := spN K 2 (fun (c : List (List Int) × Nat × Int) xs => xs = [.dat (tab c.1), .dat (.int c.2.2)] /\ Good c.2.1 c.1) fun c es => es = ((yB c.1.length c.2.1).filter (opG c.1 c.2.1 c.2.2)).map gD3
theorem aii (F : Def K mg "gates" aak ["rows", "cut"]) (G_ask_table : FnIn P w K mg base k "ask_table" ["rows"] (adA K)) (G_points : FnIn P w K mg base k "points" ["rows"] (adE K)) (G_is_open : FnIn P w K mg base k "is_open" ["rows", "cut", "gate"] (aaX K)) : FnIn P w K mg base (k + 1) "gates" ["rows", "cut"] (afD K) := by
 refine F.okN sc_gates rfl fun fa cdv A outer s H E hr => ⟨_, (zc (jl (ze G_ask_table hr rfl (za (pv 0) zb))) (zc (acV (i := 2) (N := ["x", "y", "way"]) (own := 3) (fr := []) ⟨rfl, by decide +kernel, of_decide_eq_true (by kernel_rfl), of_decide_eq_true (by kernel_rfl), of_decide_eq_true (by kernel_rfl), rfl⟩ rfl sc_gates.nd rfl (Or.inl rfl) (yj (K := K) rfl (ze G_points hr rfl (za (pv 0) zb))) (fun _ _ _ _ => (zD (K := K) (n := 2) rfl rfl (zf (zd (i := 0) (show (["x", "y", "way"] : List Str).Nodup by decide +kernel) rfl (Or.inl rfl) (Or.inr rfl)) (zf (zd (i := 1) (show (["x", "y", "way"] : List Str).Nodup by decide +kernel) rfl (Or.inl rfl) (Or.inr rfl)) zA)))) (fun _ _ _ _ => yr) (fun _ _ _ _ => (aac (K := K) rfl (zI (za zg (za zg zb))))) (fun _ _ _ _ => (zd (i := 2) (show (["x", "y", "way"] : List Str).Nodup by decide +kernel) rfl (Or.inl rfl) (Or.inr rfl))) (fun _ _ _ _ => yr) (fun _ _ _ _ => (zI (za (pv 0) (za (pv 1) (za (pv 2) zb))))) rfl rfl (fun _ => rfl) (fun _ _ _ _ _ => rfl) (Or.inl rfl) rfl) (zj (zv (yD (N := ["gate", "rows", "cut"]) (own := 1) (fr := [0, 1]) ⟨rfl, by decide +kernel, of_decide_eq_true (by kernel_rfl), of_decide_eq_true (by kernel_rfl), of_decide_eq_true (by kernel_rfl), rfl⟩ rfl (yj (K := K) rfl (pv 2)) (fun _ _ _ _ => (zd (i := 0) (show (["gate", "rows", "cut"] : List Str).Nodup by decide +kernel) rfl (Or.inl rfl) (Or.inr rfl))) (fun _ _ _ _ => (ab0 (yu (K := K) rfl (ze G_is_open hr rfl (za (pv 1) (za (pv 2) (za (pv 0) zb)))) (fun _ => rfl)))) (fun _ _ _ _ => (pv 0)) rfl rfl (fun _ => rfl)))))), ?_⟩
 rintro f xs ⟨rows, wd, cut⟩ hl ⟨rfl, g⟩
 try dsimp only [zM, zk]
 dsimp only at *
 have sl := abH g.h2 g.w2
 refine aaJ (qT (zp (rows, wd) ?_))
 repeat walk_at "dl"
 rintro _ rfl
 refine aaJ (zF (PEdO.ped (ald (yN (zp (rows, wd) ?_)))))
 repeat walk_at "dl"
 rintro _ rfl
 refine ⟨_, rfl, F2, by rw [adF, amT]; exact ank sl (by decide), ?_, ?_⟩
 ·rintro D d ρ' es hd ho hes
  obtain ⟨x, y, rfl⟩ := ajV hd
  obtain ⟨us, hus, rfl⟩ := ho
  match us, hus with
  | [u1, u2, u3], _ =>
   refine yp rfl (zm (zi (zm (zi (zN (jo ?_))))))
   rw [if_pos rfl]
   have hes' : es.length + 2 <= 1000 := hes
   refine ame (ae0 (jI (zx (yt (zx (yt (yh ⟨_, rfl, by simp, _, rfl, fun m ρ es2 => (∃ v, ρ = [some (.dat (.int x)), some (.dat (.int y)), v]) /\ es2 = es ++ [jB x y 0, jB x y 1].take m, ⟨⟨_, rfl⟩, by simp⟩, ?_, ?_⟩)))))))
   ·rintro m d ρ2 es2 hd2 ⟨⟨v, rfl⟩, rfl⟩
    have hm : (m = 0 /\ d = .int 0) \/ (m = 1 /\ d = .int 1) := by
     match m, hd2 with
     | 0, h => cases h; exact .inl ⟨rfl, rfl⟩
     | 1, h => cases h; exact .inr ⟨rfl, rfl⟩
     | (q + 2), h => cases h
    rcases hm with ⟨rfl, rfl⟩ | ⟨rfl, rfl⟩
    ·refine zi (jo ?_)
     rw [if_pos rfl]
     refine yJ (by simp; omega) ?_
     repeat walk_at "dl"
     simp
     rfl
    ·refine zi (jo ?_)
     rw [if_pos rfl]
     refine yJ (by simp; omega) ?_
     repeat walk_at "dl"
     simp
     rfl
   ·rintro ρ2 es2 ⟨⟨v, rfl⟩, rfl⟩
    exact ⟨⟨[_, _, _], rfl, rfl⟩, rfl⟩
 ·rw [show List.flatMap F2 (qu (rows, wd).1.length (rows, wd).2) = (yB rows.length wd).map gD3 from adF _ _]
  refine zi (ac6 (vF (yN (zo rfl ⟨_, rfl, fun n ρ es => (∃ u, ρ = [u, some (.dat (tab rows)), some (.dat (.int cut))]) /\ es = (((yB rows.length wd).take n).filter (opG rows wd cut)).map gD3, ⟨⟨_, rfl⟩, rfl⟩, ?_, ?_⟩))))
  ·rintro D n d ρ' es hd ⟨⟨u, rfl⟩, rfl⟩
   rw [am1] at hd
   cases hq : (yB rows.length wd)[n]? with
   | none => rw [hq] at hd; cases hd
   | some q =>
    rw [hq] at hd
    cases hd
    have tk : (yB rows.length wd).take (n + 1) = (yB rows.length wd).take n ++ [q] := by
     rw [apr, hq]
     rfl
    have len : ((((yB rows.length wd).take n).filter (opG rows wd cut)).map gD3).length < 1000 := by
     rw [amT]
     have a1 := aoA (opG rows wd cut) ((yB rows.length wd).take n)
     rw [anu] at a1
     omega
    refine zi (qg (zp (rows, wd, cut, q.1, q.2.1, q.2.2) ?_))
    unfold gD3 at *
    repeat walk_at "dl"
    rintro _ rfl
    dsimp only
    refine ⟨_, rfl, ?_⟩
    refine yV (fun h => ?_) fun h => ?_
    ·refine yJ len ?_
     repeat walk_at "dl"
     rw [tk, aoy, anx, an0, show opG rows wd cut q = true from h, if_pos rfl]
     rfl
    ·refine ⟨⟨_, rfl⟩, ?_⟩
     rw [tk, aoy, anx, an0, show opG rows wd cut q = false from h, if_neg amQ]
     simp
  ·rintro ρ' es ⟨_, rfl⟩
   rw [amT, anS]
end
open PySem PySem.Spec PyProof.Rows L2
abbrev CC := List (List Int) × Nat × Int × Int × Int
def zP (rows : List (List Int)) (wd : Nat) (x y : Int) : Bool := yf rows wd x y && yf rows wd (x + 1) (y + 1)
def hiB (rows : List (List Int)) (cut x y : Int) : Bool := decide (cut < zO rows x y)
theorem cell_in {rows : List (List Int)} {wd : Nat} {x y : Int} (h : zP rows wd x y = true) : yf rows wd x y = true /\ yf rows wd (x + 1) y = true /\ yf rows wd (x + 1) (y + 1) = true /\ yf rows wd x (y + 1) = true := by
 unfold zP at h
 rw [amX] at h
 obtain ⟨a0, a1, a2, a3⟩ := qc h.1
 obtain ⟨b0, b1, b2, b3⟩ := qc h.2
 refine ⟨h.1, ?_, h.2, ?_⟩ <;> unfold yf <;> rw [decide_eq_true (by omega), decide_eq_true (by omega)] <;> rfl
section
variable {rows : List (List Int)} {wd : Nat} {cut x y : Int}
theorem afE (h : zP rows wd x y = true) : ye rows wd cut x y 0 = (hiB rows cut x y != hiB rows cut (x + 1) y) := by
 obtain ⟨a, b, c, d⟩ := cell_in h
 unfold ye qK
 show (decide ((0 : Int) = 0 \/ (0 : Int) = 1) && (yf rows wd x y && yf rows wd (x + 1) y) && _) = _
 rw [a, b]
 rfl
theorem aij (h : zP rows wd x y = true) : ye rows wd cut x y 1 = (hiB rows cut x y != hiB rows cut x (y + 1)) := by
 obtain ⟨a, b, c, d⟩ := cell_in h
 unfold ye qK
 show (decide ((1 : Int) = 0 \/ (1 : Int) = 1) && (yf rows wd x y && yf rows wd x (y + 1)) && _) = _
 rw [a, d]
 rfl
theorem afF (h : zP rows wd x y = true) : ye rows wd cut x (y + 1) 0 = (hiB rows cut x (y + 1) != hiB rows cut (x + 1) (y + 1)) := by
 obtain ⟨a, b, c, d⟩ := cell_in h
 unfold ye qK
 show (decide ((0 : Int) = 0 \/ (0 : Int) = 1) && (yf rows wd x (y + 1) && yf rows wd (x + 1) (y + 1)) && _) = _
 rw [c, d]
 rfl
theorem afG (h : zP rows wd x y = true) : ye rows wd cut (x + 1) y 1 = (hiB rows cut (x + 1) y != hiB rows cut (x + 1) (y + 1)) := by
 obtain ⟨a, b, c, d⟩ := cell_in h
 unfold ye qK
 show (decide ((1 : Int) = 0 \/ (1 : Int) = 1) && (yf rows wd (x + 1) y && yf rows wd (x + 1) (y + 1)) && _) = _
 rw [b, c]
 rfl
end
def cg (x y : Int) : List (Int × Int × Int) := [(x, y, 0), (x, y, 1), (x, y + 1, 0), (x + 1, y, 1)]
def acC (rows : List (List Int)) (wd : Nat) (cut x y : Int) : Bool := (cg x y).all (opG rows wd cut)
def amD (rows : List (List Int)) (x y : Int) : Int := zO rows x y + (zO rows (x + 1) y + (zO rows (x + 1) (y + 1) + (zO rows x (y + 1) + 0)))
def abg (rows : List (List Int)) (cut x y : Int) : Bool := decide (4 * cut + 2 <= amD rows x y)
def pairD (g h : Int × Int × Int) : PyData := .tuple [gD3 g, gD3 h]
section
variable {P : Program} {w : World} {K : amR} {mg : Str -> Option Value} {base : Heap} {k : Nat}
abbrev aet (K : amR) : Sp := spD K 3 (fun (c : List (List Int) × Nat × Int × Int) xs => xs = [.dat (tab c.1), .dat (.int c.2.2.1), .dat (.int c.2.2.2)] /\ Good c.2.1 c.1) fun c r => r = .bool (zP c.1 c.2.1 c.2.2.1 c.2.2.2)
theorem ajY (F : Def K mg "has_cell" jX ["rows", "x", "y"]) (G_has_point : FnIn P w K mg base k "has_point" ["rows", "x", "y"] (aif K)) : FnIn P w K mg base (k + 1) "has_cell" ["rows", "x", "y"] (aet K) := by
 refine F.ok adp rfl fun fa cdv A outer s H E hr => ⟨_, (zj (zv (vC (ze G_has_point hr rfl (za (pv 0) (za (pv 1) (za (pv 2) zb)))) (abS (ze G_has_point hr rfl (za (pv 0) (za (zq zQ (pv 1) zg) (za (zq zQ (pv 2) zg) zb)))))))), ?_⟩
 rintro f xs ⟨rows, wd, x, y⟩ hl ⟨rfl, g⟩
 try dsimp only [zM, zk]
 dsimp only at *
 refine yE (aaD (zp (rows, wd, x, y) ?_))
 repeat walk_at "dl"
 rintro _ rfl
 dsimp only
 refine ⟨_, rfl, ?_⟩
 refine yV (fun h => ?_) fun h => ?_
 ·refine zp (rows, wd, x + 1, y + 1) ?_
  repeat walk_at "dl"
  rintro _ rfl
  dsimp only
  unfold zP
  rw [h, apB]
 ·unfold zP
  rw [h, aoS]
abbrev abJ (K : amR) : Sp := spD K 2 (fun (c : Int × Int) xs => xs = [.dat (.int c.1), .dat (.int c.2)]) fun c r => r = .list [.tuple [.int c.1, .int c.2], .tuple [.int (c.1 + 1), .int c.2], .tuple [.int (c.1 + 1), .int (c.2 + 1)], .tuple [.int c.1, .int (c.2 + 1)]]
theorem aeu (F : Def K mg "corners" qA ["x", "y"]) : FnIn P w K mg base (k + 1) "corners" ["x", "y"] (abJ K) := by
 refine F.ok ael rfl fun fa cdv A outer s H E hr => ⟨_, (zj (zv (yz (za (zI (za (pv 0) (za (pv 1) zb))) (za (zI (za (zq zQ (pv 0) zg) (za (pv 1) zb))) (za (zI (za (zq zQ (pv 0) zg) (za (zq zQ (pv 1) zg) zb))) (za (zI (za (pv 0) (za (zq zQ (pv 1) zg) zb))) zb))))))), ?_⟩
 rintro f xs ⟨x, y⟩ hl rfl
 try dsimp only [zM, zk]
 dsimp only at *
 repeat walk_at "dl"
 rfl
abbrev vy (K : amR) : Sp := spD K 1 (fun (c : Int × Int) xs => xs = [.dat (.tuple [.int c.1, .int c.2])]) fun c r => r = .list ((cg c.1 c.2).map gD3)
theorem agI (F : Def K mg "cell_gates" yX ["cell"]) : FnIn P w K mg base (k + 1) "cell_gates" ["cell"] (vy K) := by
 refine F.ok sc_cell_gates rfl fun fa cdv A outer s H E hr => ⟨_, (zc (zT (pv 0) (zD (K := K) (n := 2) rfl rfl (zf (zd (i := 1) sc_cell_gates.nd rfl (Or.inl rfl) (Or.inr rfl)) (zf (zd (i := 2) sc_cell_gates.nd rfl (Or.inl rfl) (Or.inr rfl)) zA)))) (zj (zv (yz (za (zI (za (pv 1) (za (pv 2) (za zg zb)))) (za (zI (za (pv 1) (za (pv 2) (za zg zb)))) (za (zI (za (pv 1) (za (zq zQ (pv 2) zg) (za zg zb)))) (za (zI (za (zq zQ (pv 1) zg) (za (pv 2) (za zg zb)))) zb)))))))), ?_⟩
 rintro f xs ⟨x, y⟩ hl rfl
 try dsimp only [zM, zk]
 dsimp only at *
 repeat walk_at "dl"
 rfl
abbrev ajZ (c : CC) (xs : List DV) : Prop := xs = [.dat (tab c.1), .dat (.int c.2.2.1), .dat (.tuple [.int c.2.2.2.1, .int c.2.2.2.2])] /\ Good c.2.1 c.1 /\ zP c.1 c.2.1 c.2.2.2.1 c.2.2.2.2 = true
abbrev abK (K : amR) : Sp := spD K 3 ajZ fun c r => r = .bool (acC c.1 c.2.1 c.2.2.1 c.2.2.2.1 c.2.2.2.2)
theorem aev (F : Def K mg "is_crossed" yY ["rows", "cut", "cell"]) (m_all : mg "all" = none) (G_is_open : FnIn P w K mg base k "is_open" ["rows", "cut", "gate"] (aaX K)) (G_cell_gates : FnIn P w K mg base k "cell_gates" ["cell"] (vy K)) : FnIn P w K mg base (k + 1) "is_crossed" ["rows", "cut", "cell"] (abK K) := by
 refine F.ok abe rfl fun fa cdv A outer s H E hr => ⟨_, (zj (zv (zu (abw (K := K) rfl rfl) rfl m_all aqv (za (yD (N := ["gate", "rows", "cut"]) (own := 1) (fr := [0, 1]) ⟨rfl, by decide +kernel, of_decide_eq_true (by kernel_rfl), of_decide_eq_true (by kernel_rfl), of_decide_eq_true (by kernel_rfl), rfl⟩ rfl (yj (K := K) rfl (ze G_cell_gates hr rfl (za (pv 2) zb))) (fun _ _ _ _ => (zd (i := 0) (show (["gate", "rows", "cut"] : List Str).Nodup by decide +kernel) rfl (Or.inl rfl) (Or.inr rfl))) (fun _ _ _ _ => yr) (fun _ _ _ _ => (ze G_is_open hr rfl (za (pv 1) (za (pv 2) (za (pv 0) zb))))) rfl rfl (fun _ => rfl)) zb)))), ?_⟩
 rintro f xs ⟨rows, wd, cut, x, y⟩ hl ⟨rfl, g, hc⟩
 try dsimp only [zM, zk]
 dsimp only at *
 refine yE (akr (PEdO.ped (vT (A := gD3) (B := fun q => PyData.bool (opG rows wd cut q)) (cg x y) (yN (zp (x, y) ?_)))))
 repeat walk_at "dl"
 rintro _ rfl
 refine ⟨_, rfl, rfl, show 4 <= 1000 by decide, ?_, ?_⟩
 ·rintro D q ρ' es hq ho hes
  obtain ⟨u, rfl⟩ := ho.one
  refine zi (jo ?_)
  rw [if_pos rfl]
  refine yJ hes (zp (rows, wd, cut, q.1, q.2.1, q.2.2) ?_)
  unfold gD3
  repeat walk_at "dl"
  rintro _ rfl
  exact ⟨.mk1, rfl⟩
 ·refine ⟨(cg x y).map (opG rows wd cut), by rw [aoO]; rfl, ?_⟩
  show PyData.bool _ = PyData.bool _
  unfold acC
  rw [List.all_map]
  rfl
abbrev akD (K : amR) : Sp := spD K 3 ajZ fun c r => r = .bool (abg c.1 c.2.2.1 c.2.2.2.1 c.2.2.2.2)
theorem alS (F : Def K mg "has_high_middle" yv ["rows", "cut", "cell"]) (m_sum : mg "sum" = none) (G_corners : FnIn P w K mg base k "corners" ["x", "y"] (abJ K)) : FnIn P w K mg base (k + 1) "has_high_middle" ["rows", "cut", "cell"] (akD K) := by
 refine F.ok sc_has_high_middle rfl fun fa cdv A outer s H E hr => ⟨_, (zc (zT (pv 2) (zD (K := K) (n := 2) rfl rfl (zf (zd (i := 3) sc_has_high_middle.nd rfl (Or.inl rfl) (Or.inr rfl)) (zf (zd (i := 4) sc_has_high_middle.nd rfl (Or.inl rfl) (Or.inr rfl)) zA)))) (zj (zv (vb akj (zu (ad7 (K := K) rfl rfl) rfl m_sum PyProof.Rows.boot_sum (za (yD (N := ["a", "b", "rows"]) (own := 2) (fr := [0]) ⟨rfl, by decide +kernel, of_decide_eq_true (by kernel_rfl), of_decide_eq_true (by kernel_rfl), of_decide_eq_true (by kernel_rfl), rfl⟩ rfl (yj (K := K) rfl (ze G_corners hr rfl (za (pv 3) (za (pv 4) zb)))) (fun _ _ _ _ => (zD (K := K) (n := 2) rfl rfl (zf (zd (i := 0) (show (["a", "b", "rows"] : List Str).Nodup by decide +kernel) rfl (Or.inl rfl) (Or.inr rfl)) (zf (zd (i := 1) (show (["a", "b", "rows"] : List Str).Nodup by decide +kernel) rfl (Or.inl rfl) (Or.inr rfl)) zA)))) (fun _ _ _ _ => yr) (fun _ _ _ _ => (z6 (zG (K := K) rfl) (z6 (zG (K := K) rfl) (pv 2) (pv 1) (fun _ _ => rfl)) (pv 0) (fun _ _ => rfl))) rfl rfl (fun _ => rfl)) zb)) (zq zQ (zq aav zg (pv 1)) zg) (z7 _))))), ?_⟩
 rintro f xs ⟨rows, wd, cut, x, y⟩ hl ⟨rfl, g, hc⟩
 try dsimp only [zM, zk]
 dsimp only at *
 obtain ⟨i1, i2, i3, i4⟩ := cell_in hc
 refine zH (zF (zo rfl (yp rfl (zm (zi (zm (zi (zN ?_))))))))
 refine yE (aeW (aml (PEdO.ped (vT (A := fun p : Int × Int => PyData.tuple [.int p.1, .int p.2]) (B := fun p : Int × Int => PyData.int (zO rows p.1 p.2)) [(x, y), (x + 1, y), (x + 1, y + 1), (x, y + 1)] (yN (zp (x, y) ?_))))))
 repeat walk_at "dl"
 rintro _ rfl
 refine ⟨_, rfl, rfl, show 4 <= 1000 by decide, ?_, ?_⟩
 ·rintro D p ρ' es hp ho hes
  obtain ⟨u, v, rfl⟩ := ho.two
  have hi : yf rows wd p.1 p.2 = true := by
   simp only [am2, anL, or_false] at hp
   rcases hp with rfl | rfl | rfl | rfl
   ·exact i1
   ·exact i2
   ·exact i3
   ·exact i4
  obtain ⟨r, h1, h2⟩ := aaW g hi
  refine yp rfl (zm (zi (zm (zi (zN (jo ?_))))))
  rw [if_pos rfl]
  refine yJ hes ?_
  unfold tab
  repeat walk_at "dl"
  refine ⟨_, h1, ?_⟩
  repeat walk_at "dl"
  refine ⟨_, h2, ?_⟩
  exact ⟨.mk2, rfl⟩
 ·refine ⟨[zO rows x y, zO rows (x + 1) y, zO rows (x + 1) (y + 1), zO rows x (y + 1)], rfl, ?_⟩
  repeat walk_at "dl"
  rfl
end
open PySem PySem.Spec PyProof.Rows L2
def acD (rows : List (List Int)) (cut x y : Int) : List PyData := if (hiB rows cut x y == abg rows cut x y) = true then [pairD (x, y, 0) (x + 1, y, 1), pairD (x, y, 1) (x, y + 1, 0)] else [pairD (x, y, 0) (x, y, 1), pairD (x, y + 1, 0) (x + 1, y, 1)]
def thr (rows : List (List Int)) (wd : Nat) (cut x y : Int) : List (Int × Int × Int) := (cg x y).filter (opG rows wd cut)
def aik : List (Int × Int × Int) -> List PyData
 | a :: b :: _ => [pairD a b]
 | _ => []
def afH (rows : List (List Int)) (wd : Nat) (cut x y : Int) : List PyData := if acC rows wd cut x y = true then acD rows cut x y else aik (thr rows wd cut x y)
theorem aj0 {rows : List (List Int)} {wd : Nat} {cut x y : Int} (h : zP rows wd x y = true) : thr rows wd cut x y = [] \/ ∃ a b r, thr rows wd cut x y = a :: b :: r := by
 have e1 : opG rows wd cut (x, y, 0) = _ := afE (cut := cut) h
 have e2 : opG rows wd cut (x, y, 1) = _ := aij (cut := cut) h
 have e3 : opG rows wd cut (x, y + 1, 0) = _ := afF (cut := cut) h
 have e4 : opG rows wd cut (x + 1, y, 1) = _ := afG (cut := cut) h
 unfold thr cg
 simp only [an0, e1, e2, e3, e4, aqp]
 cases hiB rows cut x y <;> cases hiB rows cut (x + 1) y <;> cases hiB rows cut (x + 1) (y + 1) <;> cases hiB rows cut x (y + 1) <;> simp
section
variable {P : Program} {w : World} {K : amR} {mg : Str -> Option Value} {base : Heap} {k : Nat}
abbrev adH (K : amR) : Sp := spN K 3 ajZ fun c es => es = acD c.1 c.2.2.1 c.2.2.2.1 c.2.2.2.2
theorem agJ (F : Def K mg "crossed_ties" yK ["rows", "cut", "cell"]) (G_cell_gates : FnIn P w K mg base k "cell_gates" ["cell"] (vy K)) (G_stands_high : FnIn P w K mg base k "stands_high" ["rows", "cut", "point"] (acB K)) (G_has_high_middle : FnIn P w K mg base k "has_high_middle" ["rows", "cut", "cell"] (akD K)) : FnIn P w K mg base (k + 1) "crossed_ties" ["rows", "cut", "cell"] (adH K) := by
 refine F.okN sc_crossed_ties rfl fun fa cdv A outer s H E hr => ⟨_, (zc (zT (ze G_cell_gates hr rfl (za (pv 2) zb)) (ab5 (K := K) (n := 4) rfl rfl (zf (zd (i := 3) sc_crossed_ties.nd rfl (Or.inl rfl) (Or.inr rfl)) (zf (zd (i := 4) sc_crossed_ties.nd rfl (Or.inl rfl) (Or.inr rfl)) (zf (zd (i := 5) sc_crossed_ties.nd rfl (Or.inl rfl) (Or.inr rfl)) (zf (zd (i := 6) sc_crossed_ties.nd rfl (Or.inl rfl) (Or.inr rfl)) zA)))))) (zc (yC (zW (aaF (K := K) rfl hr.units) (ze G_stands_high hr rfl (za (pv 0) (za (pv 1) (za (pv 2) zb)))) (ze G_has_high_middle hr rfl (za (pv 0) (za (pv 1) (za (pv 2) zb)))) (z7 _)) (zj (zv (yz (za (zI (za (pv 3) (za (pv 6) zb))) (za (zI (za (pv 4) (za (pv 5) zb))) zb))))) zR) (zj (zv (yz (za (zI (za (pv 3) (za (pv 4) zb))) (za (zI (za (pv 5) (za (pv 6) zb))) zb))))))), ?_⟩
 rintro f xs ⟨rows, wd, cut, x, y⟩ hl ⟨rfl, g, hc⟩
 try dsimp only [zM, zk]
 dsimp only at *
 have hi := (cell_in hc).1
 refine aaJ (zF (zp (x, y) ?_))
 repeat walk_at "dl"
 rintro _ rfl
 refine ahp rfl (zm (zi (zm (zi (zm (zi (zm (zi (zN ?_)))))))))
 refine aks (yA (jH (zp (rows, wd, cut, x, y) ?_)))
 repeat walk_at "dl"
 rintro _ rfl
 refine zp (rows, wd, cut, x, y) ?_
 repeat walk_at "dl"
 rintro _ rfl
 dsimp only
 repeat walk_at "dl"
 rw [if_neg amQ, adC]
 unfold acD
 refine yV (fun h => ?_) fun h => ?_
 ·rw [if_pos (show (hiB rows cut x y == abg rows cut x y) = true from h)]
  refine ac5 ?_
  repeat walk_at "dl"
  rfl
 ·rw [if_neg (show ¬ (hiB rows cut x y == abg rows cut x y) = true from by rw [show (hiB rows cut x y == abg rows cut x y) = false from h]; exact amQ)]
  refine ac6 (ac5 ?_)
  repeat walk_at "dl"
  rfl
abbrev afI (K : amR) : Sp := spN K 3 ajZ fun c es => es = afH c.1 c.2.1 c.2.2.1 c.2.2.2.1 c.2.2.2.2
theorem ail (F : Def K mg "cell_ties" jw ["rows", "cut", "cell"]) (G_is_crossed : FnIn P w K mg base k "is_crossed" ["rows", "cut", "cell"] (abK K)) (G_crossed_ties : FnIn P w K mg base k "crossed_ties" ["rows", "cut", "cell"] (adH K)) (G_cell_gates : FnIn P w K mg base k "cell_gates" ["cell"] (vy K)) (G_is_open : FnIn P w K mg base k "is_open" ["rows", "cut", "gate"] (aaX K)) : FnIn P w K mg base (k + 1) "cell_ties" ["rows", "cut", "cell"] (afI K) := by
 refine F.okN sc_cell_ties rfl fun fa cdv A outer s H E hr => ⟨_, (zc (yC (yu (K := K) rfl (ze G_is_crossed hr rfl (za (pv 0) (za (pv 1) (za (pv 2) zb)))) (fun _ => rfl)) (zj (zv (ze G_crossed_ties hr rfl (za (pv 0) (za (pv 1) (za (pv 2) zb)))))) zR) (zc (ql (i := 3) (N := ["gate", "rows", "cut"]) (own := 1) (fr := [0, 1]) ⟨rfl, by decide +kernel, of_decide_eq_true (by kernel_rfl), of_decide_eq_true (by kernel_rfl), of_decide_eq_true (by kernel_rfl), rfl⟩ rfl sc_cell_ties.nd rfl (Or.inl rfl) (yj (K := K) rfl (ze G_cell_gates hr rfl (za (pv 2) zb))) (fun _ _ _ _ => (zd (i := 0) (show (["gate", "rows", "cut"] : List Str).Nodup by decide +kernel) rfl (Or.inl rfl) (Or.inr rfl))) (fun _ _ _ _ => (ab0 (yu (K := K) rfl (ze G_is_open hr rfl (za (pv 1) (za (pv 2) (za (pv 0) zb)))) (fun _ => rfl)))) (fun _ _ _ _ => (pv 0)) rfl rfl (fun _ => rfl) (Or.inl rfl) rfl) (zj (zv (qZ (yu (K := K) rfl (pv 3) (fun _ => rfl)) (yz (za (zI (za (z6 (zG (K := K) rfl) (pv 3) zg (fun _ _ => rfl)) (za (z6 (zG (K := K) rfl) (pv 3) zg (fun _ _ => rfl)) zb))) zb)) (yz zb)))))), ?_⟩
 rintro f xs ⟨rows, wd, cut, x, y⟩ hl ⟨rfl, g, hc⟩
 try dsimp only [zM, zk]
 dsimp only at *
 refine aks (qg (zp (rows, wd, cut, x, y) ?_))
 repeat walk_at "dl"
 rintro _ rfl
 dsimp only
 refine ⟨_, rfl, ?_⟩
 unfold afH
 refine yV (fun h => ?_) fun h => ?_
 ·rw [if_pos h]
  refine ab7 (rows, wd, cut, x, y) ?_
  repeat walk_at "dl"
  exact fun es he => he
 ·rw [if_neg (by rw [h]; exact amQ)]
  refine aaJ (zF (PEdO.ped (vF (yN (zp (x, y) ?_)))))
  repeat walk_at "dl"
  rintro _ rfl
  refine ⟨_, rfl, fun n ρ es => (∃ u, ρ = [u, some (.dat (tab rows)), some (.dat (.int cut))]) /\ es = (((cg x y).take n).filter (opG rows wd cut)).map gD3, ⟨⟨_, rfl⟩, rfl⟩, ?_, ?_⟩
  ·rintro D n d ρ' es hd ⟨⟨u, rfl⟩, rfl⟩
   rw [am1] at hd
   cases hq : (cg x y)[n]? with
   | none => rw [hq] at hd; cases hd
   | some q =>
    rw [hq] at hd
    cases hd
    have hn : n < (cg x y).length := (amU.mp hq).1
    have n4 : n < 4 := hn
    have tk : (cg x y).take (n + 1) = (cg x y).take n ++ [q] := by
     rw [apr, hq]
     rfl
    have len : ((((cg x y).take n).filter (opG rows wd cut)).map gD3).length < 1000 := by
     rw [amT]
     have a1 := aoA (opG rows wd cut) ((cg x y).take n)
     rw [anu] at a1
     omega
    refine zi (qg (zp (rows, wd, cut, q.1, q.2.1, q.2.2) ?_))
    unfold gD3 at *
    repeat walk_at "dl"
    rintro _ rfl
    dsimp only
    refine ⟨_, rfl, ?_⟩
    refine yV (fun h => ?_) fun h => ?_
    ·refine yJ len ?_
     repeat walk_at "dl"
     rw [tk, aoy, anx, an0, show opG rows wd cut q = true from h, if_pos rfl]
     rfl
    ·refine ⟨⟨_, rfl⟩, ?_⟩
     rw [tk, aoy, anx, an0, show opG rows wd cut q = false from h, if_neg amQ]
     simp
  ·rintro ρ' es ⟨_, rfl⟩
   rw [amT, anS]
   rw [show List.filter (opG rows wd cut) (cg (x, y).1 (x, y).2) = thr rows wd cut x y from rfl]
   rcases aj0 (cut := cut) hc with e | ⟨a, b, r, e⟩
   ·rw [e]
    refine zi (ac6 (akt (qg (zo rfl ⟨false, rfl, ?_⟩))))
    rw [if_neg amQ]
    exact amf rfl
   ·rw [e]
    have h0 : atI ((a :: b :: r).map gD3) 0 = some (gD3 a) := yQ (xs := a :: b :: r) (j := 0) rfl (apP _)
    have h1 : atI ((a :: b :: r).map gD3) 1 = some (gD3 b) := yQ (xs := a :: b :: r) (j := 1) rfl (Nat.succ_lt_succ (apP _))
    refine zi (ac6 (akt (qg (zo rfl ⟨true, rfl, ?_⟩))))
    rw [if_pos rfl]
    refine ac5 ?_
    repeat walk_at "dl"
    refine ⟨_, h0, ?_⟩
    repeat walk_at "dl"
    refine ⟨_, h1, ?_⟩
    repeat walk_at "dl"
    rfl
end
open PySem PySem.Spec PyProof.Rows L2
def opF (A B C D : Bool) (i : Fin 4) : Bool := match i with
 | 0 => A != B
 | 1 => A != D
 | 2 => D != C
 | 3 => B != C
def enF (A B C D : Bool) (i : Fin 4) : Bool := match i with
 | 0 => !A
 | 1 => A
 | 2 => D
 | 3 => !B
def aaZ (A B C D M : Bool) : List (Fin 4 × Fin 4) :=
 if (opF A B C D 0 && opF A B C D 1 && opF A B C D 2 && opF A B C D 3) = true then (if (A == M) = true then [(0, 3), (1, 2)] else [(0, 1), (2, 3)]) else
 match ([0, 1, 2, 3] : List (Fin 4)).filter (opF A B C D) with
 | a :: b :: _ => [(a, b)]
 | _ => []
def prt {α : Type} [DecidableEq α] (l : List (α × α)) (g : α) : Option α := l.findSome? fun p => if p.1 = g then some p.2 else if p.2 = g then some p.1 else none
theorem aj1 : ∀ (A B C D M : Bool) (i : Fin 4), opF A B C D i = true -> ∃ j, prt (aaZ A B C D M) i = some j /\ j ≠ i /\ opF A B C D j = true /\ prt (aaZ A B C D M) j = some i /\ enF A B C D j = !enF A B C D i := by decide
theorem adI : ∀ (A B C D M : Bool), aaZ A B C D M = [] \/ (∃ a b, a ≠ b /\ aaZ A B C D M = [(a, b)]) \/ ∃ a b c d, a ≠ b /\ a ≠ c /\ a ≠ d /\ b ≠ c /\ b ≠ d /\ c ≠ d /\ aaZ A B C D M = [(a, b), (c, d)] := by decide
abbrev Gt := Int × Int × Int
def gt (x y : Int) (i : Fin 4) : Gt := match i with
 | 0 => (x, y, 0)
 | 1 => (x, y, 1)
 | 2 => (x, y + 1, 0)
 | 3 => (x + 1, y, 1)
theorem acE {x y : Int} {i j : Fin 4} (h : gt x y i = gt x y j) : i = j := by
 have h1 : (gt x y i).1 = (gt x y j).1 := by rw [h]
 have h2 : (gt x y i).2.1 = (gt x y j).2.1 := by rw [h]
 have h3 : (gt x y i).2.2 = (gt x y j).2.2 := by rw [h]
 revert h1 h2 h3
 clear h
 match i, j with
 | 0, 0 => intros; rfl
 | 0, 1 => intro _ _ h; simp [gt] at h
 | 0, 2 => intro _ h _; simp [gt] at h; omega
 | 0, 3 => intro _ _ h; simp [gt] at h
 | 1, 0 => intro _ _ h; simp [gt] at h
 | 1, 1 => intros; rfl
 | 1, 2 => intro _ _ h; simp [gt] at h
 | 1, 3 => intro h _ _; simp [gt] at h; omega
 | 2, 0 => intro _ h _; simp [gt] at h; omega
 | 2, 1 => intro _ _ h; simp [gt] at h
 | 2, 2 => intros; rfl
 | 2, 3 => intro _ _ h; simp [gt] at h
 | 3, 0 => intro _ _ h; simp [gt] at h
 | 3, 1 => intro h _ _; simp [gt] at h; omega
 | 3, 2 => intro _ _ h; simp [gt] at h
 | 3, 3 => intros; rfl
theorem afJ {α β : Type} [DecidableEq α] [DecidableEq β] {f : α -> β} (inj : ∀ i j, f i = f j -> i = j) (l : List (α × α)) (i : α) : prt (l.map fun p => (f p.1, f p.2)) (f i) = (prt l i).map f := by
 unfold prt
 induction l with
 | nil => rfl
 | cons p l ih =>
  rw [anh, ao6, ao6]
  have e1 : (f p.1 = f i) ↔ p.1 = i := ⟨inj _ _, fun z => by rw [z]⟩
  have e2 : (f p.2 = f i) ↔ p.2 = i := ⟨inj _ _, fun z => by rw [z]⟩
  by_cases h1 : p.1 = i
  ·rw [if_pos h1, if_pos (e1.mpr h1)]; rfl
  ·rw [if_neg h1, if_neg (fun z => h1 (e1.mp z))]
   by_cases h2 : p.2 = i
   ·rw [if_pos h2, if_pos (e2.mpr h2)]; rfl
   ·rw [if_neg h2, if_neg (fun z => h2 (e2.mp z))]; exact ih
section
variable (rows : List (List Int)) (wd : Nat) (cut : Int)
def t4 (x y : Int) : List (Fin 4 × Fin 4) := aaZ (hiB rows cut x y) (hiB rows cut (x + 1) y) (hiB rows cut (x + 1) (y + 1)) (hiB rows cut x (y + 1)) (abg rows cut x y)
def jN (x y : Int) : List (Gt × Gt) := (t4 rows cut x y).map fun p => (gt x y p.1, gt x y p.2)
def jj (w : Int) (h : Bool) : Int × Int := if w = 0 then (if h = true then (0, -1) else (0, 0)) else (if h = true then (0, 0) else (-1, 0))
def jk (w : Int) (h : Bool) : Int × Int := if w = 0 then (if h = true then (0, 0) else (0, -1)) else (if h = true then (-1, 0) else (0, 0))
def ahC (g : Gt) : Int × Int := (g.1 + (jj g.2.2 (hiB rows cut g.1 g.2.1)).1, g.2.1 + (jj g.2.2 (hiB rows cut g.1 g.2.1)).2)
def bhC (g : Gt) : Int × Int := (g.1 + (jk g.2.2 (hiB rows cut g.1 g.2.1)).1, g.2.1 + (jk g.2.2 (hiB rows cut g.1 g.2.1)).2)
def yc (g : Gt) : Option Gt := if zP rows wd (ahC rows cut g).1 (ahC rows cut g).2 = true then prt (jN rows cut (ahC rows cut g).1 (ahC rows cut g).2) g else none
def yH (g : Gt) : Option Gt := if zP rows wd (bhC rows cut g).1 (bhC rows cut g).2 = true then prt (jN rows cut (bhC rows cut g).1 (bhC rows cut g).2) g else none
end
section
variable {rows : List (List Int)} {wd : Nat} {cut x y : Int}
theorem vN (h : zP rows wd x y = true) (i : Fin 4) : opG rows wd cut (gt x y i) = opF (hiB rows cut x y) (hiB rows cut (x + 1) y) (hiB rows cut (x + 1) (y + 1)) (hiB rows cut x (y + 1)) i := by
 match i with
 | 0 => exact afE h
 | 1 => exact aij h
 | 2 => exact afF h
 | 3 => exact afG h
theorem afK (i : Fin 4) : (ahC rows cut (gt x y i) = (x, y) ↔ enF (hiB rows cut x y) (hiB rows cut (x + 1) y) (hiB rows cut (x + 1) (y + 1)) (hiB rows cut x (y + 1)) i = true) /\ (bhC rows cut (gt x y i) = (x, y) ↔ enF (hiB rows cut x y) (hiB rows cut (x + 1) y) (hiB rows cut (x + 1) (y + 1)) (hiB rows cut x (y + 1)) i = false) := by
 unfold ahC bhC
 match i with
 | 0 =>
  show ((x + (jj 0 (hiB rows cut x y)).1, y + (jj 0 (hiB rows cut x y)).2) = (x, y) ↔ (!hiB rows cut x y) = true) /\ ((x + (jk 0 (hiB rows cut x y)).1, y + (jk 0 (hiB rows cut x y)).2) = (x, y) ↔ (!hiB rows cut x y) = false)
  cases hiB rows cut x y <;> simp [jj, jk] <;> omega
 | 1 =>
  show ((x + (jj 1 (hiB rows cut x y)).1, y + (jj 1 (hiB rows cut x y)).2) = (x, y) ↔ hiB rows cut x y = true) /\ ((x + (jk 1 (hiB rows cut x y)).1, y + (jk 1 (hiB rows cut x y)).2) = (x, y) ↔ hiB rows cut x y = false)
  cases hiB rows cut x y <;> simp [jj, jk] <;> omega
 | 2 =>
  show ((x + (jj 0 (hiB rows cut x (y + 1))).1, y + 1 + (jj 0 (hiB rows cut x (y + 1))).2) = (x, y) ↔ hiB rows cut x (y + 1) = true) /\ ((x + (jk 0 (hiB rows cut x (y + 1))).1, y + 1 + (jk 0 (hiB rows cut x (y + 1))).2) = (x, y) ↔ hiB rows cut x (y + 1) = false)
  cases hiB rows cut x (y + 1) <;> simp [jj, jk] <;> omega
 | 3 =>
  show ((x + 1 + (jj 1 (hiB rows cut (x + 1) y)).1, y + (jj 1 (hiB rows cut (x + 1) y)).2) = (x, y) ↔ (!hiB rows cut (x + 1) y) = true) /\ ((x + 1 + (jk 1 (hiB rows cut (x + 1) y)).1, y + (jk 1 (hiB rows cut (x + 1) y)).2) = (x, y) ↔ (!hiB rows cut (x + 1) y) = false)
  cases hiB rows cut (x + 1) y <;> simp [jj, jk] <;> omega
theorem afL (h : zP rows wd x y = true) {i : Fin 4} (o : opG rows wd cut (gt x y i) = true) : ∃ j, prt (jN rows cut x y) (gt x y i) = some (gt x y j) /\ j ≠ i /\ opG rows wd cut (gt x y j) = true /\ prt (jN rows cut x y) (gt x y j) = some (gt x y i) /\
  (ahC rows cut (gt x y i) = (x, y) -> bhC rows cut (gt x y j) = (x, y)) /\ (bhC rows cut (gt x y i) = (x, y) -> ahC rows cut (gt x y j) = (x, y)) := by
 rw [vN h] at o
 obtain ⟨j, h1, h2, h3, h4, h5⟩ := aj1 _ _ _ _ (abg rows cut x y) i o
 have inj : ∀ i j, gt x y i = gt x y j -> i = j := fun _ _ => acE
 refine ⟨j, ?_, h2, by rw [vN h]; exact h3, ?_, fun z => ?_, fun z => ?_⟩
 ·unfold jN t4
  rw [afJ inj, h1]
  rfl
 ·unfold jN t4
  rw [afJ inj, h4]
  rfl
 ·rw [(afK j).2, h5, (afK i).1.mp z]
  rfl
 ·rw [(afK j).1, h5, (afK i).2.mp z]
  rfl
theorem aim (g : Gt) (hw : g.2.2 = 0 \/ g.2.2 = 1) : ∃ i, g = gt (ahC rows cut g).1 (ahC rows cut g).2 i := by
 obtain ⟨x, y, w⟩ := g
 unfold ahC
 dsimp only at hw ⊢
 rcases hw with rfl | rfl
 ·cases hiB rows cut x y
  ·exact ⟨0, by simp [jj, gt]⟩
  ·exact ⟨2, by simp [jj, gt]; omega⟩
 ·cases hiB rows cut x y
  ·exact ⟨3, by simp [jj, gt]; omega⟩
  ·exact ⟨1, by simp [jj, gt]⟩
theorem agK (g : Gt) (hw : g.2.2 = 0 \/ g.2.2 = 1) : ∃ i, g = gt (bhC rows cut g).1 (bhC rows cut g).2 i := by
 obtain ⟨x, y, w⟩ := g
 unfold bhC
 dsimp only at hw ⊢
 rcases hw with rfl | rfl
 ·cases hiB rows cut x y
  ·exact ⟨2, by simp [jk, gt]; omega⟩
  ·exact ⟨0, by simp [jk, gt]⟩
 ·cases hiB rows cut x y
  ·exact ⟨1, by simp [jk, gt]⟩
  ·exact ⟨3, by simp [jk, gt]; omega⟩
theorem vO {g : Gt} (o : opG rows wd cut g = true) : g.2.2 = 0 \/ g.2.2 = 1 := by
 unfold opG ye qK at o
 rw [amX, amX] at o
 exact of_decide_eq_true o.1.1
theorem qG {g : Gt} (o : opG rows wd cut g = true) (h : zP rows wd (ahC rows cut g).1 (ahC rows cut g).2 = true) : ∃ n, yc rows wd cut g = some n /\ n ≠ g /\ opG rows wd cut n = true /\ bhC rows cut n = ahC rows cut g /\ yH rows wd cut n = some g := by
 obtain ⟨i, ei⟩ := aim (rows := rows) (cut := cut) g (vO o)
 have o' := o
 rw [ei] at o'
 obtain ⟨j, h1, h2, h3, h4, h5, _⟩ := afL h o'
 rw [<- ei] at h1 h4 h5
 have hb := h5 rfl
 refine ⟨gt (ahC rows cut g).1 (ahC rows cut g).2 j, ?_, fun z => h2 (acE (z.trans ei)), h3, hb, ?_⟩
 ·unfold yc
  rw [if_pos h]
  exact h1
 ·unfold yH
  rw [hb, if_pos h]
  exact h4
theorem acF {g : Gt} (o : opG rows wd cut g = true) (h : zP rows wd (bhC rows cut g).1 (bhC rows cut g).2 = true) : ∃ n, yH rows wd cut g = some n /\ n ≠ g /\ opG rows wd cut n = true /\ ahC rows cut n = bhC rows cut g /\ yc rows wd cut n = some g := by
 obtain ⟨i, ei⟩ := agK (rows := rows) (cut := cut) g (vO o)
 have o' := o
 rw [ei] at o'
 obtain ⟨j, h1, h2, h3, h4, _, h5⟩ := afL h o'
 rw [<- ei] at h1 h4 h5
 have hb := h5 rfl
 refine ⟨gt (bhC rows cut g).1 (bhC rows cut g).2 j, ?_, fun z => h2 (acE (z.trans ei)), h3, hb, ?_⟩
 ·unfold yH
  rw [if_pos h]
  exact h1
 ·unfold yc
  rw [hb, if_pos h]
  exact h4
theorem aa0 {g g' n : Gt} (o : opG rows wd cut g = true) (o' : opG rows wd cut g' = true) (h : yc rows wd cut g = some n) (h' : yc rows wd cut g' = some n) : g = g' := by
 have c : zP rows wd (ahC rows cut g).1 (ahC rows cut g).2 = true := by
  unfold yc at h
  by_cases z : zP rows wd (ahC rows cut g).1 (ahC rows cut g).2 = true
  ·exact z
  ·rw [if_neg z] at h; cases h
 have c' : zP rows wd (ahC rows cut g').1 (ahC rows cut g').2 = true := by
  unfold yc at h'
  by_cases z : zP rows wd (ahC rows cut g').1 (ahC rows cut g').2 = true
  ·exact z
  ·rw [if_neg z] at h'; cases h'
 obtain ⟨m, a1, _, _, _, a2⟩ := qG o c
 obtain ⟨m', b1, _, _, _, b2⟩ := qG o' c'
 rw [h] at a1
 rw [h'] at b1
 cases a1
 cases b1
 rw [a2] at b2
 exact Option.some.inj b2
theorem vP {g n : Gt} (o : opG rows wd cut g = true) (h : yc rows wd cut g = some n) : opG rows wd cut n = true /\ n ≠ g := by
 have c : zP rows wd (ahC rows cut g).1 (ahC rows cut g).2 = true := by
  unfold yc at h
  by_cases z : zP rows wd (ahC rows cut g).1 (ahC rows cut g).2 = true
  ·exact z
  ·rw [if_neg z] at h; cases h
 obtain ⟨m, a1, a2, a3, _, _⟩ := qG o c
 rw [h] at a1
 cases a1
 exact ⟨a3, a2⟩
end
open PySem PySem.Spec PyProof.Rows L2
section
variable {P : Program} {w : World} {K : amR} {mg : Str -> Option Value} {base : Heap} {k : Nat}
abbrev aew (K : amR) : Sp := spD K 3 (fun (c : List (List Int) × Nat × Int × Int × Int × Int) xs => xs = [.dat (tab c.1), .dat (.int c.2.2.1), .dat (jB c.2.2.2.1 c.2.2.2.2.1 c.2.2.2.2.2)] /\ Good c.2.1 c.1 /\ yf c.1 c.2.1 c.2.2.2.1 c.2.2.2.2.1 = true) fun c r => r = .str (abG c.1 c.2.2.1 c.2.2.2.1 c.2.2.2.2.1 c.2.2.2.2.2)
theorem aex (F : Def K mg "heading" qC ["rows", "cut", "gate"]) (G_stands_high : FnIn P w K mg base k "stands_high" ["rows", "cut", "point"] (acB K)) : FnIn P w K mg base (k + 1) "heading" ["rows", "cut", "gate"] (aew K) := by
 refine F.ok sc_heading rfl fun fa cdv A outer s H E hr => ⟨_, (zc (zT (pv 2) (zD (K := K) (n := 3) rfl rfl (zf (zd (i := 3) sc_heading.nd rfl (Or.inl rfl) (Or.inr rfl)) (zf (zd (i := 4) sc_heading.nd rfl (Or.inl rfl) (Or.inr rfl)) (zf (zd (i := 5) sc_heading.nd rfl (Or.inl rfl) (Or.inr rfl)) zA))))) (zc (zE (i := 6) sc_heading.nd rfl (Or.inl rfl) (ze G_stands_high hr rfl (za (pv 0) (za (pv 1) (za (zI (za (pv 3) (za (pv 4) zb))) zb))))) (zc (yC (zW (aaF (K := K) rfl hr.units) (pv 5) zg (z7 _)) (zj (zv (qZ (yu (K := K) rfl (pv 6) (fun _ => rfl)) yR yR))) zR) (zj (zv (qZ (yu (K := K) rfl (pv 6) (fun _ => rfl)) yR yR)))))), ?_⟩
 rintro f xs ⟨rows, wd, cut, x, y, w⟩ hl ⟨rfl, g, hi⟩
 try dsimp only [zM, zk]
 dsimp only at *
 unfold jB
 refine zH (zF (zo rfl (yp rfl (zm (zi (zm (zi (zm (zi (zN ?_))))))))))
 refine zH (zF (zp (rows, wd, cut, x, y) ?_))
 repeat walk_at "dl"
 rintro _ rfl
 dsimp only
 repeat walk_at "dl"
 rw [if_neg amQ, afz]
 unfold abG
 refine yV (fun h => ?_) fun h => ?_
 ·have h' := of_decide_eq_true h
  rw [if_pos h']
  repeat walk_at "dl"
  refine yV (fun h2 => ?_) fun h2 => ?_
  ·repeat walk_at "dl"
   rw [if_pos (of_decide_eq_true h2)]
  ·repeat walk_at "dl"
   rw [if_neg (of_decide_eq_false h2)]
 ·have h' := of_decide_eq_false h
  rw [if_neg h']
  repeat walk_at "dl"
  refine yV (fun h2 => ?_) fun h2 => ?_
  ·repeat walk_at "dl"
   rw [if_pos (of_decide_eq_true h2)]
  ·repeat walk_at "dl"
   rw [if_neg (of_decide_eq_false h2)]
end
open PySem PySem.Spec PyProof.Rows L2
abbrev alT : List (Str × List Int) := [("down", [0, 0]), ("up", [0, -1]), ("right", [0, 0]), ("left", [-1, 0])]
abbrev ain : List (Str × List Int) := [("down", [0, -1]), ("up", [0, 0]), ("right", [-1, 0]), ("left", [0, 0])]
theorem alU {rows : List (List Int)} {cut x y w : Int} (hw : w = 0 \/ w = 1) : aqH (abG rows cut x y w) alT = some [(jj w (hiB rows cut x y)).1, (jj w (hiB rows cut x y)).2] := by
 unfold abG jj hiB
 rcases hw with rfl | rfl
 ·by_cases h : cut < zO rows x y
  ·rw [if_pos rfl, if_pos h, if_pos rfl, decide_eq_true h, if_pos rfl]; decide +kernel
  ·rw [if_pos rfl, if_neg h, if_pos rfl, decide_eq_false h, if_neg amQ]; decide +kernel
 ·have e : ¬ ((1 : Int) = 0) := by decide
  by_cases h : cut < zO rows x y
  ·rw [if_neg e, if_pos h, if_neg e, decide_eq_true h, if_pos rfl]; decide +kernel
  ·rw [if_neg e, if_neg h, if_neg e, decide_eq_false h, if_neg amQ]; decide +kernel
theorem alV {rows : List (List Int)} {cut x y w : Int} (hw : w = 0 \/ w = 1) : aqH (abG rows cut x y w) ain = some [(jk w (hiB rows cut x y)).1, (jk w (hiB rows cut x y)).2] := by
 unfold abG jk hiB
 rcases hw with rfl | rfl
 ·by_cases h : cut < zO rows x y
  ·rw [if_pos rfl, if_pos h, if_pos rfl, decide_eq_true h, if_pos rfl]; decide +kernel
  ·rw [if_pos rfl, if_neg h, if_pos rfl, decide_eq_false h, if_neg amQ]; decide +kernel
 ·have e : ¬ ((1 : Int) = 0) := by decide
  by_cases h : cut < zO rows x y
  ·rw [if_neg e, if_pos h, if_neg e, decide_eq_true h, if_pos rfl]; decide +kernel
  ·rw [if_neg e, if_neg h, if_neg e, decide_eq_false h, if_neg amQ]; decide +kernel
theorem aio {rows : List (List Int)} {wd : Nat} {cut : Int} {g : Gt} (o : opG rows wd cut g = true) : yf rows wd g.1 g.2.1 = true := by
 unfold opG ye qK at o
 rw [amX, amX, amX] at o
 exact o.1.2.1
section
variable {P : Program} {w : World} {K : amR} {mg : Str -> Option Value} {base : Heap} {k : Nat}
abbrev GO := List (List Int) × Nat × Int × Gt
abbrev aey (c : GO) (xs : List DV) : Prop := xs = [.dat (tab c.1), .dat (.int c.2.2.1), .dat (gD3 c.2.2.2)] /\ Good c.2.1 c.1 /\ opG c.1 c.2.1 c.2.2.1 c.2.2.2 = true
abbrev adJ (K : amR) : Sp := spD K 3 aey fun c r => r = .tuple [.int (ahC c.1 c.2.2.1 c.2.2.2).1, .int (ahC c.1 c.2.2.1 c.2.2.2).2]
theorem agL {C_AHEAD : Addr} (F : Def K mg "cell_ahead" yZ ["rows", "cut", "gate"]) (m_AHEAD : mg "AHEAD" = some (.ref C_AHEAD)) (tab_AHEAD : agt K C_AHEAD alT = true) (G_heading : FnIn P w K mg base k "heading" ["rows", "cut", "gate"] (aew K)) : FnIn P w K mg base (k + 1) "cell_ahead" ["rows", "cut", "gate"] (adJ K) := by
 refine F.ok sc_cell_ahead rfl fun fa cdv A outer s H E hr => ⟨_, (zc (zT (ahU (K := K) rfl rfl m_AHEAD tab_AHEAD (ze G_heading hr rfl (za (pv 0) (za (pv 1) (za (pv 2) zb)))) (fun _ _ => rfl)) (zD (K := K) (n := 2) rfl rfl (zf (zd (i := 3) sc_cell_ahead.nd rfl (Or.inl rfl) (Or.inr rfl)) (zf (zd (i := 4) sc_cell_ahead.nd rfl (Or.inl rfl) (Or.inr rfl)) zA)))) (zj (zv (zI (za (zq zQ (z6 (jn (K := K) rfl) (pv 2) zg (fun _ _ => rfl)) (pv 3)) (za (zq zQ (z6 (jn (K := K) rfl) (pv 2) zg (fun _ _ => rfl)) (pv 4)) zb)))))), ?_⟩
 rintro f xs ⟨rows, wd, cut, x, y, w⟩ hl ⟨rfl, g, o⟩
 try dsimp only [zM, zk]
 dsimp only at *
 have hw := vO o
 have hin := aio o
 refine zH (zF (akx (zp (rows, wd, cut, x, y, w) ?_)))
 unfold gD3 at *
 repeat walk_at "dl"
 rintro _ rfl
 refine ⟨_, _, rfl, alU hw, ?_⟩
 refine yp rfl (zm (zi (zm (zi (zN ?_)))))
 repeat walk_at "dl"
 rfl
abbrev afM (K : amR) : Sp := spD K 3 aey fun c r => r = .bool (!zP c.1 c.2.1 (bhC c.1 c.2.2.1 c.2.2.2).1 (bhC c.1 c.2.2.1 c.2.2.2).2)
theorem aip {C_BEHIND : Addr} (F : Def K mg "comes_in" j7 ["rows", "cut", "gate"]) (m_BEHIND : mg "BEHIND" = some (.ref C_BEHIND)) (tab_BEHIND : agt K C_BEHIND ain = true) (G_heading : FnIn P w K mg base k "heading" ["rows", "cut", "gate"] (aew K)) (G_has_cell : FnIn P w K mg base k "has_cell" ["rows", "x", "y"] (aet K)) : FnIn P w K mg base (k + 1) "comes_in" ["rows", "cut", "gate"] (afM K) := by
 refine F.ok sc_comes_in rfl fun fa cdv A outer s H E hr => ⟨_, (zc (zT (ahU (K := K) rfl rfl m_BEHIND tab_BEHIND (ze G_heading hr rfl (za (pv 0) (za (pv 1) (za (pv 2) zb)))) (fun _ _ => rfl)) (zD (K := K) (n := 2) rfl rfl (zf (zd (i := 3) sc_comes_in.nd rfl (Or.inl rfl) (Or.inr rfl)) (zf (zd (i := 4) sc_comes_in.nd rfl (Or.inl rfl) (Or.inr rfl)) zA)))) (zj (zv (agT (ze G_has_cell hr rfl (za (pv 0) (za (zq zQ (z6 (jn (K := K) rfl) (pv 2) zg (fun _ _ => rfl)) (pv 3)) (za (zq zQ (z6 (jn (K := K) rfl) (pv 2) zg (fun _ _ => rfl)) (pv 4)) zb)))))))), ?_⟩
 rintro f xs ⟨rows, wd, cut, x, y, w⟩ hl ⟨rfl, g, o⟩
 try dsimp only [zM, zk]
 dsimp only at *
 have hw := vO o
 have hin := aio o
 refine zH (zF (akx (zp (rows, wd, cut, x, y, w) ?_)))
 unfold gD3 at *
 repeat walk_at "dl"
 rintro _ rfl
 refine ⟨_, _, rfl, alV hw, ?_⟩
 refine yp rfl (zm (zi (zm (zi (zN ?_)))))
 repeat walk_at "dl"
 refine zp (rows, wd, (bhC rows cut (x, y, w)).1, (bhC rows cut (x, y, w)).2) ?_
 repeat walk_at "dl"
 rintro _ rfl
 exact ⟨_, rfl, rfl⟩
noncomputable def qQ : List (Gt × Gt) -> List (PyData × PyData) -> List (PyData × PyData)
 | [], kvs => kvs
 | p :: l, kvs => qQ l (dput (gD3 p.2) (gD3 p.1) (dput (gD3 p.1) (gD3 p.2) kvs))
theorem aez (l : List (Gt × Gt)) (p : Gt × Gt) : ∀ kvs, qQ (l ++ [p]) kvs = dput (gD3 p.2) (gD3 p.1) (dput (gD3 p.1) (gD3 p.2) (qQ l kvs)) := by
 induction l with
 | nil => intro kvs; rfl
 | cons q l ih => intro kvs; exact ih _
theorem aa1 (a b : PyData) (kvs : List (PyData × PyData)) : (dput a b kvs).length <= kvs.length + 1 := by
 unfold dput
 split
 ·rw [amT]; omega
 ·rw [am9]; exact amV _
theorem agM (l : List (Gt × Gt)) : ∀ kvs, (qQ l kvs).length <= kvs.length + 2 * l.length := by
 induction l with
 | nil => intro kvs; exact amV _
 | cons q l ih =>
  intro kvs
  have h1 := ih (dput (gD3 q.2) (gD3 q.1) (dput (gD3 q.1) (gD3 q.2) kvs))
  have h2 := aa1 (gD3 q.2) (gD3 q.1) (dput (gD3 q.1) (gD3 q.2) kvs)
  have h3 := aa1 (gD3 q.1) (gD3 q.2) kvs
  show (qQ l _).length <= _
  rw [anb]
  omega
theorem acG {a b : Gt} (h : gD3 a = gD3 b) : a = b := by
 obtain ⟨x, y, w⟩ := a
 obtain ⟨x', y', w'⟩ := b
 unfold gD3 jB at h
 simp at h
 simp [h]
theorem aiq {rows : List (List Int)} {wd : Nat} {cut x y : Int} (h : zP rows wd x y = true) : afH rows wd cut x y = (jN rows cut x y).map fun p => pairD p.1 p.2 := by
 have e0 : opG rows wd cut (x, y, 0) = _ := vN (cut := cut) h 0
 have e1 : opG rows wd cut (x, y, 1) = _ := vN (cut := cut) h 1
 have e2 : opG rows wd cut (x, y + 1, 0) = _ := vN (cut := cut) h 2
 have e3 : opG rows wd cut (x + 1, y, 1) = _ := vN (cut := cut) h 3
 unfold afH jN t4 acC acD thr cg aaZ
 simp only [aqS, List.all_nil, an0, aqp, e0, e1, e2, e3, Bool.and_true]
 generalize abg rows cut x y = M
 generalize hiB rows cut x y = A
 generalize hiB rows cut (x + 1) y = B
 generalize hiB rows cut (x + 1) (y + 1) = C
 generalize hiB rows cut x (y + 1) = D
 cases A <;> cases B <;> cases C <;> cases D <;> cases M <;> rfl
theorem air {rows : List (List Int)} {cut x y : Int} {g n : Gt} (h : prt (jN rows cut x y) g = some n) : vo (gD3 g) (qQ (jN rows cut x y) []) = some (gD3 n) := by
 have key : ∀ a b : Gt, a ≠ b -> gD3 a ≠ gD3 b := fun a b ne z => ne (acG z)
 have inj : ∀ i j : Fin 4, i ≠ j -> gt x y i ≠ gt x y j := fun i j ne z => ne (acE z)
 unfold jN t4 at h ⊢
 rcases adI (hiB rows cut x y) (hiB rows cut (x + 1) y) (hiB rows cut (x + 1) (y + 1)) (hiB rows cut x (y + 1)) (abg rows cut x y) with e | ⟨a, b, n1, e⟩ | ⟨a, b, c, d, n1, n2, n3, n4, n5, n6, e⟩
 ·rw [e] at h; cases h
 ·rw [e] at h ⊢
  have k1 := key _ _ (inj a b n1)
  have k1' := anU k1
  simp only [anh, apO, qQ] at h ⊢
  unfold prt at h
  simp only [ao6, List.findSome?_nil] at h
  by_cases c1 : gt x y a = g
  ·rw [if_pos c1] at h
   cases h
   simp [dput, vo, k1, k1', <- c1]
  ·rw [if_neg c1] at h
   by_cases c2 : gt x y b = g
   ·rw [if_pos c2] at h
    cases h
    simp [dput, vo, k1, k1', <- c2]
   ·rw [if_neg c2] at h; cases h
 ·rw [e] at h ⊢
  have k1 := key _ _ (inj a b n1)
  have k2 := key _ _ (inj a c n2)
  have k3 := key _ _ (inj a d n3)
  have k4 := key _ _ (inj b c n4)
  have k5 := key _ _ (inj b d n5)
  have k6 := key _ _ (inj c d n6)
  have j1 := anU k1
  have j2 := anU k2
  have j3 := anU k3
  have j4 := anU k4
  have j5 := anU k5
  have j6 := anU k6
  simp only [anh, apO, qQ] at h ⊢
  unfold prt at h
  simp only [ao6, List.findSome?_nil] at h
  by_cases c1 : gt x y a = g
  ·rw [if_pos c1] at h
   cases h
   simp [dput, vo, k1, k2, k3, k4, k5, k6, j1, j2, j3, j4, j5, j6, <- c1]
  ·rw [if_neg c1] at h
   by_cases c2 : gt x y b = g
   ·rw [if_pos c2] at h
    cases h
    simp [dput, vo, k1, k2, k3, k4, k5, k6, j1, j2, j3, j4, j5, j6, <- c2]
   ·rw [if_neg c2] at h
    by_cases c3 : gt x y c = g
    ·rw [if_pos c3] at h
     cases h
     simp [dput, vo, k1, k2, k3, k4, k5, k6, j1, j2, j3, j4, j5, j6, <- c3]
    ·rw [if_neg c3] at h
     by_cases c4 : gt x y d = g
     ·rw [if_pos c4] at h
      cases h
      simp [dput, vo, k1, k2, k3, k4, k5, k6, j1, j2, j3, j4, j5, j6, <- c4]
     ·rw [if_neg c4] at h; cases h
def acH : Option Gt -> PyData
 | none => .none
 | some g => gD3 g
abbrev ais (K : amR) : Sp := spD K 3 aey fun c r => r = acH (yc c.1 c.2.1 c.2.2.1 c.2.2.2)
theorem qw (g : Gt) : agq (gD3 g) := ⟨⟨rfl, aqw rfl⟩, _, rfl⟩
theorem aj2 (F : Def K mg "gate_ahead" y3 ["rows", "cut", "gate"]) (G_cell_ahead : FnIn P w K mg base k "cell_ahead" ["rows", "cut", "gate"] (adJ K)) (G_has_cell : FnIn P w K mg base k "has_cell" ["rows", "x", "y"] (aet K)) (G_cell_ties : FnIn P w K mg base k "cell_ties" ["rows", "cut", "cell"] (afI K)) :
  FnIn P w K mg base (k + 1) "gate_ahead" ["rows", "cut", "gate"] (ais K) := by
 refine F.ok sc_gate_ahead rfl fun fa cdv A outer s H E hr => ⟨_, (zc (zT (ze G_cell_ahead hr rfl (za (pv 0) (za (pv 1) (za (pv 2) zb)))) (zD (K := K) (n := 2) rfl rfl (zf (zd (i := 3) sc_gate_ahead.nd rfl (Or.inl rfl) (Or.inr rfl)) (zf (zd (i := 4) sc_gate_ahead.nd rfl (Or.inl rfl) (Or.inr rfl)) zA)))) (zc (yC (aar (yu (K := K) rfl (ze G_has_cell hr rfl (za (pv 0) (za (pv 3) (za (pv 4) zb)))) (fun _ => rfl))) (zj (zv adQ)) zR) (zc (zE (i := 5) sc_gate_ahead.nd rfl (Or.inl rfl) (ags (w := w) rfl)) (zc (jS anK rfl (yj (K := K) rfl (ze G_cell_ties hr rfl (za (pv 0) (za (pv 1) (za (zI (za (pv 3) (za (pv 4) zb))) zb))))) (zD (K := K) (n := 2) rfl rfl (zf (zd (i := 6) sc_gate_ahead.nd rfl (Or.inl rfl) (Or.inr rfl)) (zf (zd (i := 7) sc_gate_ahead.nd rfl (Or.inl rfl) (Or.inr rfl)) zA))) (zc (zT (pv 7) (abT (pv 5) (pv 6) (adm (w := w) (K := K) rfl rfl hr.units))) (zj (zT (pv 6) (abT (pv 5) (pv 7) (adm (w := w) (K := K) rfl rfl hr.units)))))) (zj (zv (z6 (ajx (w := w) (K := K) rfl rfl hr.units) (pv 5) (pv 2) (fun _ _ => rfl)))))))), ?_⟩
 rintro f xs ⟨rows, wd, cut, g⟩ hl ⟨rfl, gd, o⟩
 try dsimp only [zM, zk]
 dsimp only at *
 refine zH (zF (zp (rows, wd, cut, g) ?_))
 repeat walk_at "dl"
 rintro _ rfl
 dsimp only
 refine yp rfl (zm (zi (zm (zi (zN ?_)))))
 refine zH (v9 (acX (qg (zp (rows, wd, (ahC rows cut g).1, (ahC rows cut g).2) ?_))))
 repeat walk_at "dl"
 rintro _ rfl
 refine ⟨_, rfl, ?_⟩
 dsimp only
 refine yV (fun h => ?_) fun h => ?_
 ·have hc : zP rows wd (ahC rows cut g).1 (ahC rows cut g).2 = false := by simpa using h
  repeat walk_at "dl"
  unfold yc
  rw [hc, if_neg amQ]
  rfl
 ·have hc : zP rows wd (ahC rows cut g).1 (ahC rows cut g).2 = true := by simpa using h
  obtain ⟨n, hn, _⟩ := qG o hc
  have hp : prt (jN rows cut (ahC rows cut g).1 (ahC rows cut g).2) g = some n := by
   unfold yc at hn
   rw [if_pos hc] at hn
   exact hn
  have tl : (jN rows cut (ahC rows cut g).1 (ahC rows cut g).2).length <= 2 := by
   unfold jN t4
   rw [amT]
   rcases adI (hiB rows cut (ahC rows cut g).1 (ahC rows cut g).2) (hiB rows cut ((ahC rows cut g).1 + 1) (ahC rows cut g).2) (hiB rows cut ((ahC rows cut g).1 + 1) ((ahC rows cut g).2 + 1)) (hiB rows cut (ahC rows cut g).1 ((ahC rows cut g).2 + 1)) (abg rows cut (ahC rows cut g).1 (ahC rows cut g).2) with e | ⟨a, b, n1, e⟩ | ⟨a, b, c, d, n1, n2, n3, n4, n5, n6, e⟩ <;> rw [e] <;> simp
  refine qh (ahM (w := w) (akv (alx ⟨show 5 < 8 by decide, fun D => ?_⟩)))
  refine aaP (ahO (yN (PEdO.ped (ab7 (rows, wd, cut, (ahC rows cut g).1, (ahC rows cut g).2) ?_))))
  repeat walk_at "dl"
  rintro _ rfl
  dsimp only
  rw [aiq hc]
  refine ⟨_, rfl, fun i ρ cs => (∃ u v, ρ = [some (.dat (tab rows)), some (.dat (.int cut)), some (.dat (gD3 g)), some (.dat (.int (ahC rows cut g).1)), some (.dat (.int (ahC rows cut g).2)), some (.own (f.M.length + 0)), u, v]) /\ cs = [.dic (qQ ((jN rows cut (ahC rows cut g).1 (ahC rows cut g).2).take i) [])], ⟨⟨_, _, rfl⟩, rfl⟩, ?_, ?_⟩
  ·rintro i d _ _ hd ⟨⟨u, v, rfl⟩, rfl⟩
   rw [am1] at hd
   cases hq : (jN rows cut (ahC rows cut g).1 (ahC rows cut g).2)[i]? with
   | none => rw [hq] at hd; cases hd
   | some q =>
    rw [hq] at hd
    cases hd
    have tk : (jN rows cut (ahC rows cut g).1 (ahC rows cut g).2).take (i + 1) = (jN rows cut (ahC rows cut g).1 (ahC rows cut g).2).take i ++ [q] := by
     rw [apr, hq]
     rfl
    have hl := agM ((jN rows cut (ahC rows cut g).1 (ahC rows cut g).2).take i) []
    rw [anu] at hl
    simp only [aoE] at hl
    refine yp rfl (zm (zi (zm (zi (zN ?_)))))
    refine aaP (akw (i := 5) (j := 0) rfl rfl (by omega) ?_)
    repeat walk_at "dl"
    refine ⟨qw _, ?_⟩
    have hl2 := aa1 (gD3 q.1) (gD3 q.2) (qQ ((jN rows cut (ahC rows cut g).1 (ahC rows cut g).2).take i) [])
    refine akw (i := 5) (j := 0) rfl rfl (by omega) ?_
    repeat walk_at "dl"
    refine ⟨qw _, ⟨_, _, rfl⟩, ?_⟩
    rw [tk, aez]
    rfl
  ·rintro _ _ ⟨⟨u, v, rfl⟩, rfl⟩
   rw [amT, anS]
   refine ams (amr (i := 5) (j := 0) rfl rfl (ahN (zo rfl ⟨qw _, _, air hp, ?_⟩)))
   show gD3 n = acH (yc rows wd cut g)
   rw [hn]
   rfl
end
open PySem PySem.Spec PyProof.Rows L2
theorem afN {α : Type} [DecidableEq α] : ∀ (l m : List α), l.Nodup -> (∀ x ∈ l, x ∈ m) -> m.length <= l.length -> ∀ x ∈ m, x ∈ l
 | [], m, _, _, hl, x, hx => by
  have : m = [] := aqf.mp (Nat.le_zero.mp hl)
  rw [this] at hx
  exact hx
 | a :: l, m, nd, sub, hl, x, hx => by
  have ha := sub a (am6 ..)
  have hn := anY.mp nd
  have le := ap7 ha
  rw [anb] at hl
  by_cases e : x = a
  ·rw [e]; exact am6 ..
  ·refine amY _ (afN l (m.erase a) hn.2 (fun y hy => ?_) (by omega) x ((apE e).mpr hx))
   exact (apE (fun (z : y = a) => hn.1 (z ▸ hy))).mpr (sub y (amY _ hy))
theorem len_sub {α : Type} [DecidableEq α] : ∀ (l m : List α), l.Nodup -> (∀ x ∈ l, x ∈ m) -> l.length <= m.length
 | [], m, _, _ => anA _
 | a :: l, m, nd, sub => by
  have ha := sub a (am6 ..)
  have hn := anY.mp nd
  have le := ap7 ha
  have hp : 0 < m.length := aqn ha
  have := len_sub l (m.erase a) hn.2 (fun y hy => (apE (fun (z : y = a) => hn.1 (z ▸ hy))).mpr (sub y (amY _ hy)))
  rw [anb]
  omega
theorem vp {α β : Type} {f : α -> β} {l1 l2 : List β} (h : l1.Perm l2) : ∀ ts : List α, l2 = ts.map f -> ∃ us : List α, us.Perm ts /\ l1 = us.map f := by
 induction h with
 | nil => intro ts e; exact ⟨ts, .refl _, e⟩
 | cons x _ ih =>
  intro ts e
  cases ts with
  | nil => cases e
  | cons t ts =>
   rw [anh] at e
   injection e with e1 e2
   obtain ⟨us, p, q⟩ := ih ts e2
   exact ⟨t :: us, .cons t p, by rw [anh, <- q, e1]⟩
 | swap x y l =>
  intro ts e
  match ts, e with
  | [], e => cases e
  | [_], e => cases e
  | a :: b :: ts, e =>
   simp only [anh] at e
   injection e with e1 e2
   injection e2 with e2 e3
   exact ⟨b :: a :: ts, .swap a b ts, by rw [anh, anh, e1, e2, e3]⟩
 | trans _ _ ih1 ih2 =>
  intro ts e
  obtain ⟨us, p, q⟩ := ih2 ts e
  obtain ⟨vs, p2, q2⟩ := ih1 us q
  exact ⟨vs, p2.trans p, q2⟩
section
variable (rows : List (List Int)) (wd : Nat) (cut : Int)
structure LineOk (ring : Bool) (l : List Gt) : Prop where
 op : ∀ g ∈ l, opG rows wd cut g = true
 nd : l.Nodup
 ch : ∀ (i : Nat) a b, l[i]? = some a -> l[i + 1]? = some b -> yc rows wd cut a = some b
 ne : l ≠ []
 last : ∀ g, l.getLast? = some g -> yc rows wd cut g = if ring = true then l.head? else none
structure WalkOk (s : Gt) (l : List Gt) : Prop where
 op : ∀ g ∈ l, opG rows wd cut g = true
 nd : l.Nodup
 ch : ∀ (i : Nat) a b, l[i]? = some a -> l[i + 1]? = some b -> yc rows wd cut a = some b
 hd : l.head? = some s
end
section
variable {rows : List (List Int)} {wd : Nat} {cut : Int}
theorem agN {t n : Nat} {x y w : Int} (hx : 0 <= x /\ x < n) (hy : 0 <= y /\ y < t) (hw : w = 0 \/ w = 1) : (x, y, w) ∈ yB t n := by
 obtain ⟨a, rfl⟩ := aqg hx.1
 obtain ⟨b, rfl⟩ := aqg hy.1
 refine anM.mpr ⟨a, ans.mpr (by omega), anM.mpr ⟨b, ans.mpr (by omega), ?_⟩⟩
 rcases hw with rfl | rfl
 ·exact am6 ..
 ·exact amY _ (am6 ..)
theorem aj3 {g : Gt} (o : opG rows wd cut g = true) : yf rows wd g.1 g.2.1 = true := by
 unfold opG ye qK at o
 rw [amX, amX, amX] at o
 exact o.1.2.1
theorem mem_gates {g : Gt} : g ∈ z9 rows wd cut ↔ opG rows wd cut g = true := by
 rw [qv, aoD]
 refine ⟨fun h => h.2, fun o => ⟨?_, o⟩⟩
 obtain ⟨x, y, w⟩ := g
 have hw := vO o
 obtain ⟨a, b, c, d⟩ := qc (aj3 o)
 exact agN ⟨a, b⟩ ⟨c, d⟩ hw
theorem gates_nd : (z9 rows wd cut).Nodup := by
 rw [qv]
 refine ((adG _ _).filter _).imp fun {a b} h e => ?_
 subst e
 unfold gLt at h
 omega
theorem qx {l : List Gt} (gd : Good wd rows) (o : ∀ g ∈ l, opG rows wd cut g = true) (nd : l.Nodup) : l.length <= 98 :=
 ank (len_sub l (z9 rows wd cut) nd fun x hx => mem_gates.mpr (o x hx)) (abI gd)
theorem ait {s : Gt} (o : opG rows wd cut s = true) : WalkOk rows wd cut s [s] :=
 ⟨fun g hg => by rw [anp.mp hg]; exact o, anY.mpr ⟨anL, aoV⟩, fun i a b _ h => (nomatch h), rfl⟩
theorem agO {s n g : Gt} {l : List Gt} (W : WalkOk rows wd cut s l) (hl : l.getLast? = some g) (hn : yc rows wd cut g = some n) (ne : n ≠ s) : WalkOk rows wd cut s (l ++ [n]) := by
 have hg : g ∈ l := aqK hl
 have hli : l[l.length - 1]? = some g := by rw [<- apY]; exact hl
 have pos : 0 < l.length := aqn hg
 have hnew : n ∉ l := fun hm => by
  obtain ⟨i, hi⟩ := anJ hm
  match i, hi with
  | 0, hi =>
   have := W.hd
   rw [aps, hi] at this
   exact ne (Option.some.inj this)
  | i + 1, hi =>
   obtain ⟨hlt, _⟩ := amU.mp hi
   have hi' : l[i]? = some l[i] := amP (by omega)
   have hc := W.ch i _ _ hi' hi
   have e := aa0 (W.op _ (ana hi')) (W.op _ hg) hc hn
   rw [e, <- hli] at hi'
   have := (List.getElem?_inj (by omega) W.nd).mp hi'
   omega
 refine ⟨fun x hx => ?_, ?_, fun i a b ha hb => ?_, ?_⟩
 ·rcases anF.mp hx with h | h
  ·exact W.op x h
  ·rw [anp.mp h]; exact (vP (W.op g hg) hn).1
 ·refine aoQ.mpr ⟨W.nd, anY.mpr ⟨anL, aoV⟩, fun a ha b hb e => ?_⟩
  rw [anp.mp hb] at e
  exact hnew (e ▸ ha)
 ·by_cases h : i + 1 < l.length
  ·rw [am3 (by omega)] at ha
   rw [am3 h] at hb
   exact W.ch i a b ha hb
  ·obtain ⟨hlt, _⟩ := amU.mp hb
   rw [am9, anD] at hlt
   have e : i = l.length - 1 := by omega
   rw [am3 (by omega), e, hli] at ha
   rw [am7 (by omega), show i + 1 - l.length = 0 by omega] at hb
   cases ha
   cases hb
   exact hn
 ·cases l with
  | nil => cases pos
  | cons a l => exact W.hd
theorem abL {s g : Gt} {l : List Gt} (W : WalkOk rows wd cut s l) (hl : l.getLast? = some g) {ring : Bool} (h : yc rows wd cut g = if ring = true then some s else none) : LineOk rows wd cut ring l where
 op := W.op
 nd := W.nd
 ch := W.ch
 ne := fun z => by rw [z] at hl; cases hl
 last := fun g' hg' => by
  rw [hl] at hg'
  cases hg'
  rw [h, W.hd]
def acI (rows : List (List Int)) (wd : Nat) (cut : Int) (t : Bool × List Gt) : Prop := t.1 = false -> ∀ h, t.2.head? = some h -> yH rows wd cut h = none
theorem next_prev {g n : Gt} (o : opG rows wd cut g = true) (h : yc rows wd cut g = some n) : yH rows wd cut n = some g := by
 have c : zP rows wd (ahC rows cut g).1 (ahC rows cut g).2 = true := by
  unfold yc at h
  by_cases z : zP rows wd (ahC rows cut g).1 (ahC rows cut g).2 = true
  ·exact z
  ·rw [if_neg z] at h; cases h
 obtain ⟨m, a1, _, _, _, a2⟩ := qG o c
 rw [h] at a1
 cases a1
 exact a2
theorem prev_next {g n : Gt} (o : opG rows wd cut g = true) (h : yH rows wd cut g = some n) : opG rows wd cut n = true /\ yc rows wd cut n = some g := by
 have c : zP rows wd (bhC rows cut g).1 (bhC rows cut g).2 = true := by
  unfold yH at h
  by_cases z : zP rows wd (bhC rows cut g).1 (bhC rows cut g).2 = true
  ·exact z
  ·rw [if_neg z] at h; cases h
 obtain ⟨m, a1, _, a3, _, a2⟩ := acF o c
 rw [h] at a1
 cases a1
 exact ⟨a3, a2⟩
theorem acJ {t : Bool × List Gt} (ne : t.2 ≠ []) : ∃ z, t.2.getLast? = some z /\ z ∈ t.2 := ⟨t.2.getLast ne, List.getLast?_eq_some_getLast ne, List.getLast_mem ne⟩
theorem v3 {t : Bool × List Gt} (L : LineOk rows wd cut t.1 t.2) (st : acI rows wd cut t) {g n : Gt} (o : opG rows wd cut g = true) (hn : n ∈ t.2) (h : yc rows wd cut g = some n) : g ∈ t.2 := by
 obtain ⟨i, hi⟩ := anJ hn
 match i, hi with
 | 0, hi =>
  have hh : t.2.head? = some n := by rw [aps]; exact hi
  cases hr : t.1 with
  | false =>
   have := st hr n hh
   rw [next_prev o h] at this
   cases this
  | true =>
   obtain ⟨z, hz, hm⟩ := acJ L.ne
   have := L.last z hz
   rw [hr, if_pos rfl, hh] at this
   rw [aa0 o (L.op z hm) h this]
   exact hm
 | i + 1, hi =>
  obtain ⟨hlt, _⟩ := amU.mp hi
  have hi' : t.2[i]? = some t.2[i] := amP (by omega)
  have hc := L.ch i _ _ hi' hi
  have hm := ana hi'
  rw [aa0 o (L.op _ hm) h hc]
  exact hm
theorem v5 {t : Bool × List Gt} (L : LineOk rows wd cut t.1 t.2) {g n : Gt} (hg : g ∈ t.2) (h : yc rows wd cut g = some n) : n ∈ t.2 := by
 obtain ⟨i, hi⟩ := anJ hg
 obtain ⟨hlt, _⟩ := amU.mp hi
 by_cases hl : i + 1 < t.2.length
 ·have hi' : t.2[i + 1]? = some t.2[i + 1] := amP hl
  have hc := L.ch i _ _ hi hi'
  rw [h] at hc
  rw [Option.some.inj hc]
  exact ana hi'
 ·have e : i = t.2.length - 1 := by omega
  have hz : t.2.getLast? = some g := by rw [apY, <- e]; exact hi
  have := L.last g hz
  rw [h] at this
  by_cases hr : t.1 = true
  ·rw [if_pos hr] at this
   exact List.mem_of_head? this.symm
  ·rw [if_neg hr] at this
   cases this
theorem aj4 (gd : Good wd rows) {g : Gt} (o : opG rows wd cut g = true) : zP rows wd (ahC rows cut g).1 (ahC rows cut g).2 = true \/ zP rows wd (bhC rows cut g).1 (bhC rows cut g).2 = true := by
 have hw := vO o
 obtain ⟨x, y, w⟩ := g
 have o' : ye rows wd cut x y w = true := o
 unfold ye qK at o'
 rw [amX, amX, amX] at o'
 obtain ⟨a0, a1, a2, a3⟩ := qc o'.1.2.1
 obtain ⟨b0, b1, b2, b3⟩ := qc o'.1.2.2
 have h1 := gd.h1
 have w1 := gd.w1
 have cb : ∀ {u v : Int}, 0 <= u -> u + 1 < wd -> 0 <= v -> v + 1 < rows.length -> zP rows wd u v = true := fun p q r s => by
  unfold zP yf
  rw [decide_eq_true (by omega), decide_eq_true (by omega), decide_eq_true (by omega), decide_eq_true (by omega)]
  rfl
 unfold ahC bhC jj jk
 dsimp only at hw ⊢
 rcases hw with rfl | rfl
 ·have e1 : px x 0 = x + 1 := rfl
  rw [e1] at b1
  cases hiB rows cut x y
  ·by_cases h : y + 1 < rows.length
   ·left; exact cb (by simp; omega) (by simp; omega) (by simp; omega) (by simp; omega)
   ·right; exact cb (by simp; omega) (by simp; omega) (by simp; omega) (by simp; omega)
  ·by_cases h : y + 1 < rows.length
   ·right; exact cb (by simp; omega) (by simp; omega) (by simp; omega) (by simp; omega)
   ·left; exact cb (by simp; omega) (by simp; omega) (by simp; omega) (by simp; omega)
 ·have e1 : py y 1 = y + 1 := rfl
  rw [e1] at b3
  cases hiB rows cut x y
  ·by_cases h : x + 1 < wd
   ·right; exact cb (by simp; omega) (by simp; omega) (by simp; omega) (by simp; omega)
   ·left; exact cb (by simp; omega) (by simp; omega) (by simp; omega) (by simp; omega)
  ·by_cases h : x + 1 < wd
   ·left; exact cb (by simp; omega) (by simp; omega) (by simp; omega) (by simp; omega)
   ·right; exact cb (by simp; omega) (by simp; omega) (by simp; omega) (by simp; omega)
theorem alW (gd : Good wd rows) {t : Bool × List Gt} (L : LineOk rows wd cut t.1 t.2) (st : acI rows wd cut t) : 2 <= t.2.length := by
 obtain ⟨r, l⟩ := t
 match l, L, st with
 | [], L, _ => exact absurd rfl L.ne
 | [g], L, st =>
  have o := L.op g (am6 ..)
  have hl := L.last g rfl
  cases r with
  | true =>
   exact absurd rfl (vP o hl).2
  | false =>
   have hp : yH rows wd cut g = none := st rfl g rfl
   have hl : yc rows wd cut g = none := hl
   rcases aj4 gd o with c | c
   ·obtain ⟨n, h, _⟩ := qG o c
    rw [hl] at h; cases h
   ·obtain ⟨n, h, _⟩ := acF o c
    rw [hp] at h; cases h
 | _ :: _ :: _, _, _ => exact Nat.le_add_left 2 _
end
section
variable (rows : List (List Int)) (wd : Nat) (cut : Int)
def flat (ts : List (Bool × List Gt)) : List Gt := ts.flatMap (·.2)
structure Told (ts : List (Bool × List Gt)) : Prop where
 line : ∀ t ∈ ts, LineOk rows wd cut t.1 t.2
 st : ∀ t ∈ ts, acI rows wd cut t
 nd : (flat ts).Nodup
 least : ∀ t ∈ ts, t.1 = true -> ∀ h, t.2.head? = some h -> ∀ g ∈ t.2, g = h \/ gLt h g
end
section
variable {rows : List (List Int)} {wd : Nat} {cut : Int} {ts : List (Bool × List Gt)}
theorem Told.op (T : Told rows wd cut ts) {g : Gt} (h : g ∈ flat ts) : opG rows wd cut g = true := by
 obtain ⟨t, ht, hg⟩ := anM.mp h
 exact (T.line t ht).op g hg
theorem Told.len (T : Told rows wd cut ts) (gd : Good wd rows) : (flat ts).length <= 98 := qx gd (fun g hg => T.op hg) T.nd
theorem adK : ∀ (ts : List (Bool × List Gt)), (∀ t ∈ ts, 2 <= t.2.length) -> 2 * ts.length <= (flat ts).length
 | [], _ => amV _
 | t :: ts, h => by
  have h1 := h t (am6 ..)
  have h2 := adK ts fun u hu => h u (amY _ hu)
  show 2 * (ts.length + 1) <= (t.2 ++ flat ts).length
  rw [am9]
  omega
theorem Told.few (T : Told rows wd cut ts) (gd : Good wd rows) : ts.length <= 49 := by
 have h1 := adK ts fun t ht => alW gd (T.line t ht) (T.st t ht)
 have h2 := T.len gd
 omega
theorem qH (ts : List (Bool × List Gt)) (t : Bool × List Gt) : flat (ts ++ [t]) = flat ts ++ t.2 := by
 unfold flat
 rw [aor]
 simp
theorem Told.fresh (T : Told rows wd cut ts) {r : Bool} {l : List Gt} (L : LineOk rows wd cut r l) {s : Gt} (hs : l.head? = some s) (hn : s ∉ flat ts) : ∀ g ∈ l, g ∉ flat ts := by
 have key : ∀ (i : Nat) g, l[i]? = some g -> g ∉ flat ts := fun i => by
  induction i with
  | zero =>
   intro g hg
   rw [aps, hg] at hs
   rw [Option.some.inj hs]
   exact hn
  | succ i ih =>
   intro g hg hm
   obtain ⟨hlt, _⟩ := amU.mp hg
   have hi' : l[i]? = some l[i] := amP (by omega)
   have hc := L.ch i _ _ hi' hg
   obtain ⟨t, ht, hgt⟩ := anM.mp hm
   exact ih _ hi' (anM.mpr ⟨t, ht, v3 (T.line t ht) (T.st t ht) (L.op _ (ana hi')) hgt hc⟩)
 intro g hg
 obtain ⟨i, hi⟩ := anJ hg
 exact key i g hi
theorem Told.more (T : Told rows wd cut ts) {r : Bool} {l : List Gt} (L : LineOk rows wd cut r l) {s : Gt} (hs : l.head? = some s) (hn : s ∉ flat ts) (st : r = false -> yH rows wd cut s = none) (le : r = true -> ∀ g ∈ l, g = s \/ gLt s g) : Told rows wd cut (ts ++ [(r, l)]) where
 line := fun t ht => by
  rcases anF.mp ht with h | h
  ·exact T.line t h
  ·rw [anp.mp h]; exact L
 st := fun t ht => by
  rcases anF.mp ht with h | h
  ·exact T.st t h
  ·rw [anp.mp h]
   intro hr h hh
   rw [show (r, l).2.head? = some s from hs] at hh
   rw [<- Option.some.inj hh]
   exact st hr
 nd := by
  rw [qH]
  refine aoQ.mpr ⟨T.nd, L.nd, fun a ha b hb e => ?_⟩
  exact T.fresh L hs hn b hb (e ▸ ha)
 least := fun t ht => by
  rcases anF.mp ht with h | h
  ·exact T.least t h
  ·rw [anp.mp h]
   intro hr h hh
   rw [show (r, l).2.head? = some s from hs] at hh
   rw [<- Option.some.inj hh]
   exact le hr
theorem alX {r : Bool} {l : List Gt} (L : LineOk rows wd cut r l) {s : Gt} (hs : l.head? = some s) (hp : yH rows wd cut s = none) : r = false := by
 cases r with
 | false => rfl
 | true =>
  obtain ⟨z, hz, hm⟩ := acJ (t := (true, l)) L.ne
  have := L.last z hz
  rw [if_pos rfl, hs] at this
  have := next_prev (L.op z hm) this
  rw [hp] at this
  cases this
theorem aj5 (T : Told rows wd cut ts) (all : ∀ g, opG rows wd cut g = true -> yH rows wd cut g = none -> g ∈ flat ts) {r : Bool} {l : List Gt} (L : LineOk rows wd cut r l) {s : Gt} (hs : l.head? = some s) (hn : s ∉ flat ts) : r = true := by
 cases r with
 | true => rfl
 | false =>
  obtain ⟨z, hz, hm⟩ := acJ (t := (false, l)) L.ne
  have hnone : yc rows wd cut z = none := L.last z hz
  let U := (z9 rows wd cut).filter fun g => decide (g ∉ flat ts)
  have memU : ∀ g, g ∈ U ↔ opG rows wd cut g = true /\ g ∉ flat ts := fun g => by
   show g ∈ List.filter _ _ ↔ _
   rw [aoD, mem_gates, decide_eq_true_eq]
  let pr : Gt -> Gt := fun g => (yH rows wd cut g).getD g
  have prU : ∀ g ∈ U, yH rows wd cut g = some (pr g) /\ yc rows wd cut (pr g) = some g /\ pr g ∈ U := fun g hg => by
   obtain ⟨o, nf⟩ := (memU g).mp hg
   cases hp : yH rows wd cut g with
   | none => exact absurd (all g o hp) nf
   | some p =>
    have e : pr g = p := by show (yH rows wd cut g).getD g = p; rw [hp]; rfl
    obtain ⟨op, hnx⟩ := prev_next o hp
    rw [e]
    refine ⟨rfl, hnx, (memU p).mpr ⟨op, fun hm => ?_⟩⟩
    obtain ⟨t, ht, hpt⟩ := anM.mp hm
    exact nf (anM.mpr ⟨t, ht, v5 (T.line t ht) hpt hnx⟩)
  have ndU : U.Nodup := gates_nd.filter _
  have ndP : (U.map pr).Nodup := by
   refine aoG.mpr (ndU.imp_of_mem fun {a b} ha hb ne e => ne ?_)
   have h1 := (prU a ha).2.1
   have h2 := (prU b hb).2.1
   rw [e, h2] at h1
   exact (Option.some.inj h1).symm
  have zU : z ∈ U := (memU z).mpr ⟨L.op z hm, T.fresh L hs hn z hm⟩
  have := afN (U.map pr) U ndP (fun x hx => by obtain ⟨g, hg, rfl⟩ := ant.mp hx; exact (prU g hg).2.2) (by rw [amT]; exact amV _) z zU
  obtain ⟨g, hg, rfl⟩ := ant.mp this
  rw [(prU g hg).2.1] at hnone
  cases hnone
def yW (t : Bool × List Gt) : PyData := .tuple [.str (if t.1 = true then "ring" else "run"), .tuple (t.2.map gD3)]
theorem adL (l : List Gt) : zC (l.map gD3) = true := by
 induction l with
 | nil => rfl
 | cons g l ih => show (zw (gD3 g) && zC (l.map gD3)) = true; rw [ih]; rfl
theorem aeA (t : Bool × List Gt) : zw (yW t) = true := by
 show (zw (.str _) && (zw (.tuple (t.2.map gD3)) && true)) = true
 rw [show zw (.tuple (t.2.map gD3)) = zC (t.2.map gD3) from rfl, adL]
 cases t.1 <;> decide +kernel
theorem abM : ∀ l m : List Gt, vh (l.map gD3) (m.map gD3) = true
 | [], m => by rw [apO, vh]
 | g :: l, [] => rfl
 | (x, y, w) :: l, (x', y', w') :: m => by
  rw [anh, anh, vh]
  split
  ·exact abM l m
  ·show aaa (.tuple [.int x, .int y, .int w]) (.tuple [.int x', .int y', .int w']) = true
   simp only [aaa, vh]
   split
   ·split
    ·split <;> rfl
    ·rfl
   ·rfl
theorem aiu (t u : Bool × List Gt) : aaa (yW t) (yW u) = true := by
 unfold yW
 generalize (if t.1 = true then ("ring" : Str) else "run") = a
 generalize (if u.1 = true then ("ring" : Str) else "run") = b
 rw [aaa, vh]
 split
 ·rw [vh]
  split
  ·rfl
  ·rw [aaa]; exact abM _ _
 ·rfl
theorem adM (l : List Gt) : am0 (l.map gD3) <= 1 := by
 induction l with
 | nil => exact anA _
 | cons g l ih => exact Nat.max_le.mpr ⟨amV 1, ih⟩
theorem aeB (t : Bool × List Gt) : (yW t).depth <= 3 := by
 show max 0 (max (am0 (t.2.map gD3) + 1) 0) + 1 <= 3
 have := adM t.2
 omega
theorem aiv {a b : Gt} (h : gD3 a = gD3 b) : a = b := by
 obtain ⟨x, y, w⟩ := a
 obtain ⟨x', y', w'⟩ := b
 unfold gD3 jB at h
 simp at h
 simp [h]
theorem aiw (T : Told rows wd cut ts) : SortOk "str" (ts.map yW) where
 plain := fun d hd => by obtain ⟨t, _, rfl⟩ := ant.mp hd; exact aeA t
 head := fun d hd => by obtain ⟨t, _, rfl⟩ := ant.mp hd; rfl
 cmp := fun d hd e he => by
  obtain ⟨t, _, rfl⟩ := ant.mp hd
  obtain ⟨u, _, rfl⟩ := ant.mp he
  exact aiu t u
 depth := fun d hd => by obtain ⟨t, _, rfl⟩ := ant.mp hd; exact ank (aeB t) (by decide)
 nd := by
  have h := (List.pairwise_flatMap.mp T.nd).2
  refine aoG.mpr (h.imp_of_mem fun {a b} ha hb hd e => ?_)
  unfold yW at e
  have e2 : a.2.map gD3 = b.2.map gD3 := by
   injection e with e
   injection e with _ e
   injection e with e _
   injection e
  cases ha2 : a.2 with
  | nil => exact (T.line a ha).ne ha2
  | cons g l =>
   cases hb2 : b.2 with
   | nil => exact (T.line b hb).ne hb2
   | cons g' l' =>
    rw [ha2, hb2, anh, anh] at e2
    injection e2 with e2 _
    exact hd g (by rw [ha2]; exact am6 ..) g' (by rw [hb2]; exact am6 ..) (aiv e2)
theorem Told.perm {us : List (Bool × List Gt)} (T : Told rows wd cut ts) (p : us.Perm ts) : Told rows wd cut us where
 line := fun t ht => T.line t (p.mem_iff.mp ht)
 st := fun t ht => T.st t (p.mem_iff.mp ht)
 nd := (p.flatMap_right _).nodup_iff.mpr T.nd
 least := fun t ht => T.least t (p.mem_iff.mp ht)
end
open PySem PySem.Spec PyProof.Rows L2
section
variable {K : amR} {f : Fx} {ρ : zr} {ta : TE} {P : PyData -> Prop}
def aa2 : PyData -> Bool
 | .none => true
 | _ => false
theorem abN {H : Hp} {d : PyData} {v : V} (r : Rep K H d v) (h : d = .none \/ ∃ ds, d = .tuple ds) : decide (v = .non) = aa2 d := by
 rcases h with rfl | ⟨ds, rfl⟩
 ·rw [show v = .non from r]; rfl
 ·obtain ⟨a, xs, rfl, _⟩ := rep_tuple.mp r
  rfl
theorem alY (h : PEd K f ta ρ fun d => (d = .none \/ ∃ ds, d = .tuple ds) /\ P (.bool (!aa2 d))) : PEd K f (tOp (fun x y H Q => y = .non /\ Q (.bl (!decide (x = .non))) H) ta (tC .non)) ρ P := fun σ H Q e q =>
 h σ H _ e fun d v H1 g1 r1 ⟨hd, p⟩ => ⟨rfl, q _ _ H1 g1 (by show Rep K _ (.bool _) (.bl _); rw [abN r1 hd]; rfl) p⟩
theorem akE (h : PEd K f ta ρ fun d => (d = .none \/ ∃ ds, d = .tuple ds) /\ P (.bool (aa2 d))) : PEd K f (tOp (fun x y H Q => y = .non /\ Q (.bl (decide (x = .non))) H) ta (tC .non)) ρ P := fun σ H Q e q =>
 h σ H _ e fun d v H1 g1 r1 ⟨hd, p⟩ => ⟨rfl, q _ _ H1 g1 (by show Rep K _ (.bool _) (.bl _); rw [abN r1 hd]; rfl) p⟩
end
section
variable {P : Program} {w : World} {K : amR} {mg : Str -> Option Value} {base : Heap} {k : Nat}
abbrev aix (K : amR) : Sp := spD K 3 aey fun c r => ∃ ring l, r = yW (ring, l) /\ LineOk c.1 c.2.1 c.2.2.1 ring l /\ l.head? = some c.2.2.2
theorem alZ (a b : Gt) : anl (gD3 a) (gD3 b) = decide (a = b) := by
 obtain ⟨x, y, w⟩ := a
 obtain ⟨x', y', w'⟩ := b
 show (decide (x = x') && (decide (y = y') && (decide (w = w') && true))) = _
 by_cases h1 : x = x' <;> by_cases h2 : y = y' <;> by_cases h3 : w = w' <;> simp [h1, h2, h3]
theorem aeC (q : Option Gt) : acH q = .none \/ ∃ ds, acH q = .tuple ds := by
 cases q with
 | none => exact .inl rfl
 | some g => exact .inr ⟨_, rfl⟩
theorem aj6 (F : Def K mg "line_from" jx ["rows", "cut", "start"]) (m_tuple : mg "tuple" = none) (G_gate_ahead : FnIn P w K mg base k "gate_ahead" ["rows", "cut", "gate"] (ais K)) :
  FnIn P w K mg base (k + 1) "line_from" ["rows", "cut", "start"] (aix K) := by
 refine F.ok sc_line_from rfl fun fa cdv A outer s H E hr => ⟨_, (zc (zE (i := 3) sc_line_from.nd rfl (Or.inl rfl) (yz (za (pv 2) zb))) (zc (zE (i := 4) sc_line_from.nd rfl (Or.inl rfl) (ze G_gate_ahead hr rfl (za (pv 0) (za (pv 1) (za (pv 2) zb))))) (zc (aat anK (PW.pt (akO (zW aiZ (pv 4) adQ (z7 _)) (aiT (zW (qU (K := K) rfl hr.units) (pv 4) (pv 2) (z7 _))))) (zc (jl (akm aqh ap8 ap9 abt (pv 3) (za (pv 4) zb))) (zj (zE (i := 4) sc_line_from.nd rfl (Or.inl rfl) (ze G_gate_ahead hr rfl (za (pv 0) (za (pv 1) (za (pv 4) zb)))))))) (zj (zv (zI (za (qZ (zW akX (pv 4) adQ (z7 _)) yR yR) (za (abr (ac1 (K := K) rfl) rfl m_tuple PyProof.Rows.boot_tuple (za (pv 3) zb)) zb)))))))), ?_⟩
 rintro f xs ⟨rows, wd, cut, g⟩ hl ⟨rfl, gd, o⟩
 try dsimp only [zM, zk]
 dsimp only at *
 refine ahM (w := w) (akv (afl (ac5 ?_)))
 repeat walk_at "dl"
 refine ⟨show 3 < 5 by decide, fun D => ?_⟩
 refine aaP (aeb (zF (zp (rows, wd, cut, g) ?_)))
 repeat walk_at "dl"
 rintro _ rfl
 refine zi ?_
 refine aaP (ajq (fun ρ cs => ∃ l z, ρ = [some (.dat (tab rows)), some (.dat (.int cut)), some (.dat (gD3 g)), some (.own (f.M.length + 0)), some (.dat (acH (yc rows wd cut z)))] /\ cs = [.lst (l.map gD3)] /\ WalkOk rows wd cut g l /\ l.getLast? = some z) (fun _ cs => match cs with | [.lst es] => 200 - es.length | _ => 0) ⟨[g], g, rfl, rfl, ait o, rfl⟩ ?_)
 rintro _ _ ⟨l, z, rfl, rfl, W, hz⟩
 have oz := W.op z (aqK hz)
 have wl := qx gd W.op W.nd
 have ml : (l.map gD3).length = l.length := amT ..
 refine amM (ag8 (yA (alY (zo rfl ⟨aeC _, ?_⟩))))
 refine ⟨_, rfl, ?_⟩
 have fr : ∀ x : PyData, aqe (freed f.M.length [OC.lst (l.map gD3)]) [some (DV.dat (tab rows)), some (.dat (.int cut)), some (.dat (gD3 g)), some (.own (f.M.length + 0)), some (.dat x)] = [some (.dat (tab rows)), some (.dat (.int cut)), some (.dat (gD3 g)), some (.dat (.list (l.map gD3))), some (.dat x)] := fun x => by simp [freed]
 cases hn : yc rows wd cut z with
 | none =>
  rw [show (!aa2 (acH none)) = false from rfl, if_neg amQ, if_neg amQ]
  refine ahP ?_
  rw [fr]
  refine yE (jI (zx (ai6 (yA (akE (zo rfl ⟨.inl rfl, _, rfl, ?_⟩))))))
  rw [show aa2 (acH none) = true from rfl, if_pos rfl]
  repeat walk_at "dl"
  exact ⟨false, l, rfl, abL W hz (by rw [hn]; rfl), W.hd⟩
 | some n =>
  rw [show (!aa2 (acH (some n))) = true from rfl, if_pos rfl]
  rw [show acH (some n) = gD3 n from rfl]
  refine yA (jH (zo rfl (zo rfl ⟨rfl, rfl, aqw rfl, _, rfl, ?_⟩)))
  rw [if_pos rfl, alZ]
  by_cases ng : n = g
  ·rw [decide_eq_true ng, show (!true) = false from rfl, if_neg amQ]
   refine ahP ?_
   rw [fr]
   refine yE (jI (zx (ai6 (yA (akE (zo rfl ⟨.inr ⟨_, rfl⟩, _, rfl, ?_⟩))))))
   rw [show aa2 (gD3 n) = false from rfl, if_neg amQ]
   repeat walk_at "dl"
   exact ⟨true, l, rfl, abL W hz (by rw [hn, ng]; rfl), W.hd⟩
  ·rw [decide_eq_false ng, show (!false) = true from rfl, if_pos rfl]
   have W2 := agO W hz hn ng
   have wl2 := qx gd W2.op W2.nd
   rw [am9, anD] at wl2
   refine aaP (aku (i := 3) (j := 0) rfl rfl (by omega) (ahN (zo rfl ?_)))
   refine aeb (zF (zp (rows, wd, cut, n) ?_))
   have on := (vP oz hn).1
   repeat walk_at "dl"
   rintro _ rfl
   refine zi ⟨⟨l ++ [n], n, rfl, ?_, W2, by simp⟩, ?_⟩
   ·show [OC.lst (l.map gD3 ++ [gD3 n])] = [OC.lst ((l ++ [n]).map gD3)]
    rw [anx]
    rfl
   ·show 200 - (l.map gD3 ++ [gD3 n]).length < 200 - (l.map gD3).length
    rw [am9, anD]
    omega
abbrev afO (K : amR) : Sp := spN K 2 (fun (c : List (List Int) × Nat × Int) xs => xs = [.dat (tab c.1), .dat (.int c.2.2)] /\ Good c.2.1 c.1) fun c es => ∃ ts, es = ts.map yW /\ Told c.1 c.2.1 c.2.2 ts /\ (∀ g, opG c.1 c.2.1 c.2.2 g = true -> g ∈ flat ts) /\ es.Pairwise fun d e => ltD d e = true
def inB (rows : List (List Int)) (wd : Nat) (cut : Int) (g : Gt) : Bool := !zP rows wd (bhC rows cut g).1 (bhC rows cut g).2
theorem aiy {rows : List (List Int)} {wd : Nat} {cut : Int} {g : Gt} (o : opG rows wd cut g = true) : inB rows wd cut g = true ↔ yH rows wd cut g = none := by
 unfold inB
 by_cases h : zP rows wd (bhC rows cut g).1 (bhC rows cut g).2 = true
 ·obtain ⟨n, hn, _⟩ := acF o h
  rw [h, hn]
  simp
 ·rw [Bool.not_eq_true] at h
  unfold yH
  rw [h]
  simp
theorem aiz (F : Def K mg "lines" aan ["rows", "cut"]) (m_set : mg "set" = none) (m_sorted : mg "sorted" = none) (G_ask_table : FnIn P w K mg base k "ask_table" ["rows"] (adA K)) (G_gates : FnIn P w K mg base k "gates" ["rows", "cut"] (afD K)) (G_comes_in : FnIn P w K mg base k "comes_in" ["rows", "cut", "gate"] (afM K)) (G_line_from : FnIn P w K mg base k "line_from" ["rows", "cut", "start"] (aix K)) : FnIn P w K mg base (k + 1) "lines" ["rows", "cut"] (afO K) := by
 refine F.okN sc_lines rfl fun fa cdv A outer s H E hr => ⟨_, (zc (jl (ze G_ask_table hr rfl (za (pv 0) zb))) (zc (zE (i := 2) sc_lines.nd rfl (Or.inl rfl) (ze G_gates hr rfl (za (pv 0) (za (pv 1) zb)))) (zc (zE (i := 3) sc_lines.nd rfl (Or.inl rfl) (zq (vg (K := K) rfl) (yD (N := ["gate", "rows", "cut"]) (own := 1) (fr := [0, 1]) ⟨rfl, by decide +kernel, of_decide_eq_true (by kernel_rfl), of_decide_eq_true (by kernel_rfl), of_decide_eq_true (by kernel_rfl), rfl⟩ rfl (yj (K := K) rfl (pv 2)) (fun _ _ _ _ => (zd (i := 0) (show (["gate", "rows", "cut"] : List Str).Nodup by decide +kernel) rfl (Or.inl rfl) (Or.inr rfl))) (fun _ _ _ _ => (ab0 (yu (K := K) rfl (ze G_comes_in hr rfl (za (pv 1) (za (pv 2) (za (pv 0) zb)))) (fun _ => rfl)))) (fun _ _ _ _ => (pv 0)) rfl rfl (fun _ => rfl)) (pv 2))) (zc (zE (i := 4) sc_lines.nd rfl (Or.inl rfl) (yz zb)) (zc (zE (i := 5) sc_lines.nd rfl (Or.inl rfl) (adW (ack (w := w) rfl) rfl m_set PyProof.Rows.boot_set)) (zc (jS anK rfl (yj (K := K) rfl (pv 3)) (zd (i := 6) sc_lines.nd rfl (Or.inl rfl) (Or.inr rfl)) (zj (yC (zW (aec (w := w) (K := K) rfl rfl hr.units) (pv 6) (pv 5) rfl) (zc (zE (i := 7) sc_lines.nd rfl (Or.inl rfl) (ze G_line_from hr rfl (za (pv 0) (za (pv 1) (za (pv 6) zb))))) (zc (jl (akm aqh ap8 ap9 abt (pv 4) (za (pv 7) zb))) (zj (jS anK rfl (aac (K := K) rfl (z6 (jn (K := K) rfl) (pv 7) zg (fun _ _ => rfl))) (zd (i := 8) sc_lines.nd rfl (Or.inl rfl) (Or.inr rfl)) (zj (jl (alu (w := w) rfl aqF PySem.F.type_set_add (ahS (w := w) (K := K) rfl rfl hr.units) (pv 5) (za (pv 8) zb)))))))) zR))) (zj (zv (zu (acd (K := K) rfl hr.units) rfl m_sorted PyProof.Rows.boot_sorted (za (pv 4) zb)))))))))), ?_⟩
 rintro f xs ⟨rows, wd, cut⟩ hl ⟨rfl, gd⟩
 try dsimp only [zM, zk]
 dsimp only at *
 have gl := abI (cut := cut) gd
 refine aaJ (qT (zp (rows, wd) ?_))
 repeat walk_at "dl"
 rintro _ rfl
 refine aaJ (zF (PEdO.ped (ab7 (rows, wd, cut) ?_)))
 repeat walk_at "dl"
 rintro _ rfl
 dsimp only
 rw [<- qv]
 refine zi ?_
 refine aaJ (zF (ab6 (PEdO.ped (vF (yN (zo rfl ⟨_, rfl, fun n ρ es => (∃ u, ρ = [u, some (.dat (tab rows)), some (.dat (.int cut))]) /\ es = (((z9 rows wd cut).take n).filter (inB rows wd cut)).map gD3, ⟨⟨_, rfl⟩, rfl⟩, ?_, ?_⟩))))))
 ·rintro D n d ρ' es hd ⟨⟨u, rfl⟩, rfl⟩
  rw [am1] at hd
  cases hq : (z9 rows wd cut)[n]? with
  | none => rw [hq] at hd; cases hd
  | some q =>
   rw [hq] at hd
   cases hd
   have oq := mem_gates.mp (ana hq)
   have tk : (z9 rows wd cut).take (n + 1) = (z9 rows wd cut).take n ++ [q] := by
    rw [apr, hq]
    rfl
   have len : ((((z9 rows wd cut).take n).filter (inB rows wd cut)).map gD3).length < 1000 := by
    rw [amT]
    have a1 := aoA (inB rows wd cut) ((z9 rows wd cut).take n)
    rw [anu] at a1
    omega
   refine zi (qg (zp (rows, wd, cut, q) ?_))
   repeat walk_at "dl"
   rintro _ rfl
   dsimp only
   refine ⟨_, rfl, ?_⟩
   refine yV (fun h => ?_) fun h => ?_
   ·refine yJ len ?_
    repeat walk_at "dl"
    rw [tk, aoy, anx, an0, show inB rows wd cut q = true from h, if_pos rfl]
    rfl
   ·refine ⟨⟨_, rfl⟩, ?_⟩
    rw [tk, aoy, anx, an0, show inB rows wd cut q = false from h, if_neg amQ]
    simp
 ·rintro ρ' es ⟨_, rfl⟩
  rw [amT, anS]
  have il : ((z9 rows wd cut).filter (inB rows wd cut)).length <= 98 := ank (aoA _ _) gl
  refine ⟨_, rfl, zo rfl ⟨_, rfl, by rw [amT, amT]; omega, ?_⟩⟩
  refine zi ?_
  dsimp only
  rw [<- anx]
  refine ajr (w := w) (ahQ (afl (ac5 ?_)))
  repeat walk_at "dl"
  refine ⟨show 4 < 9 by decide, fun D1 => ?_⟩
  refine ahQ (alv ⟨show 5 < 9 by decide, fun D2 => ?_⟩)
  refine alr (ahO (yN (zo rfl ?_)))
  generalize hS : (z9 rows wd cut).filter (inB rows wd cut) ++ z9 rows wd cut = S
  generalize hG : PyData.list (aqe gD3 (z9 rows wd cut)) = G
  refine ⟨_, rfl, fun i ρ cs => ∃ ts u v x, ρ = [some (.dat (tab rows)), some (.dat (.int cut)), some (.dat G), some (.dat (.list (S.map gD3))), some (.own (f.M.length + 0)), some (.own (f.M.length + 1)), u, v, x] /\ cs = [.lst (ts.map yW), .set ((flat ts).map gD3).reverse] /\ Told rows wd cut ts /\ ∀ j g, j < i -> S[j]? = some g -> g ∈ flat ts, ?_, ?_, ?_⟩
  ·exact ⟨[], _, _, _, rfl, rfl, ⟨(fun _ h => nomatch h), (fun _ h => nomatch h), aoV, (fun _ h => nomatch h)⟩, fun j g h => absurd h (aop _)⟩
  ·rintro i d _ _ hd ⟨ts, u, v, x, rfl, rfl, T, past⟩
   rw [am1] at hd
   cases hq : S[i]? with
   | none => rw [hq] at hd; cases hd
   | some q =>
    rw [hq] at hd
    cases hd
    have oq : opG rows wd cut q = true := by
     have hm := ana hq
     rw [<- hS] at hm
     rcases anF.mp hm with h | h
     ·exact mem_gates.mp (aoD.mp h).1
     ·exact mem_gates.mp h
    have memk : (gD3 q ∈ ((flat ts).map gD3).reverse) ↔ q ∈ flat ts := by
     rw [aoZ, ant]
     exact ⟨fun ⟨a, ha, e⟩ => acG e ▸ ha, fun h => ⟨q, h, rfl⟩⟩
    refine zi (amN (amo (i := 5) (j := 1) rfl rfl (ahN (zo rfl ⟨qw _, ?_⟩))))
    rw [if_pos rfl]
    by_cases hin : q ∈ flat ts
    ·rw [decide_eq_true (memk.mpr hin), show (!true) = false from rfl, if_neg amQ]
     refine alq ⟨ts, _, _, _, rfl, rfl, T, fun j g hj hg => ?_⟩
     rcases aqa.mp hj with h | h
     ·exact past j g h hg
     ·rw [h, hq] at hg
      cases hg
      exact hin
    ·rw [decide_eq_false (fun z => hin (memk.mp z)), show (!false) = true from rfl, if_pos rfl]
     refine aaP (aeb (zF (zp (rows, wd, cut, q) ?_)))
     repeat walk_at "dl"
     rintro _ ⟨ring, l, rfl, L, hh⟩
     dsimp only at L hh
     have T2 : Told rows wd cut (ts ++ [(ring, l)]) := by
      by_cases hi : i < ((z9 rows wd cut).filter (inB rows wd cut)).length
      ·have hp : yH rows wd cut q = none := by
        rw [<- hS, am3 hi] at hq
        exact (aiy oq).mp (aoD.mp (ana hq)).2
       have r0 := alX L hh hp
       exact T.more L hh hin (fun _ => hp) fun z => by rw [r0] at z; cases z
      ·have all : ∀ g, opG rows wd cut g = true -> yH rows wd cut g = none -> g ∈ flat ts := fun g og hp => by
        have hm : g ∈ (z9 rows wd cut).filter (inB rows wd cut) := aoD.mpr ⟨mem_gates.mpr og, (aiy og).mpr hp⟩
        obtain ⟨j, hj⟩ := anJ hm
        obtain ⟨hlt, _⟩ := amU.mp hj
        refine past j g (by omega) ?_
        rw [<- hS, am3 hlt]
        exact hj
       have r1 := aj5 T all L hh hin
       refine T.more L hh hin (fun z => by rw [r1] at z; cases z) fun _ g hg => ?_
       have fr := T.fresh L hh hin g hg
       obtain ⟨j, hj⟩ := anJ (mem_gates.mpr (L.op g hg))
       have hq' := hq
       rw [<- hS, am7 (by omega)] at hq'
       have pw : (z9 rows wd cut).Pairwise gLt := by rw [qv]; exact (adG _ _).filter _
       obtain ⟨l1, e1⟩ := amU.mp hj
       obtain ⟨l2, e2⟩ := amU.mp hq'
       rcases Nat.lt_trichotomy j (i - ((z9 rows wd cut).filter (inB rows wd cut)).length) with h | h | h
       ·refine absurd (past (j + ((z9 rows wd cut).filter (inB rows wd cut)).length) g (by omega) ?_) fr
        rw [<- hS, am7 (by omega), Nat.add_sub_cancel]
        exact hj
       ·left
        rw [<- e1, <- e2]
        congr 1
       ·right
        rw [<- e1, <- e2]
        exact aoB.mp pw _ _ l2 l1 h
     have hf := T2.len gd
     have nd2 := T2.nd
     rw [qH] at nd2 hf
     have few := T.few gd
     refine zi ?_
     refine aaP (aku (i := 4) (j := 0) rfl rfl (by rw [amT]; omega) (ahN (zo rfl ?_)))
     refine ahO (ae0 (abv (zo rfl ?_)))
     repeat walk_at "dl"
     refine ⟨fun m ρ cs => ∃ x, ρ = [some (.dat (tab rows)), some (.dat (.int cut)), some (.dat G), some (.dat (.list (S.map gD3))), some (.own (f.M.length + 0)), some (.own (f.M.length + 1)), some (.dat (gD3 q)), some (.dat (yW (ring, l))), x] /\ cs = [.lst ((ts ++ [(ring, l)]).map yW), .set ((flat ts ++ l.take m).map gD3).reverse], ?_, ?_, ?_⟩
     ·refine ⟨_, rfl, ?_⟩
      rw [List.take_zero, anG, anx]
      rfl
     ·rintro m d _ _ hd ⟨x, rfl, rfl⟩
      rw [am1] at hd
      cases hg : l[m]? with
      | none => rw [show (ring, l).2[m]? = none from hg] at hd; cases hd
      | some g =>
       rw [show (ring, l).2[m]? = some g from hg] at hd
       cases hd
       have tk : l.take (m + 1) = l.take m ++ [g] := by
        rw [apr, hg]
        rfl
       have sp : l = l.take m ++ g :: l.drop (m + 1) := by
        obtain ⟨hlt, e⟩ := amU.mp hg
        rw [<- e, <- List.drop_eq_getElem_cons hlt, apv]
       have hnew : g ∉ flat ts ++ l.take m := fun z => by
        have nd3 : (flat ts ++ l).Nodup := nd2
        rw [sp, <- apm] at nd3
        exact (aoQ.mp nd3).2.2 g z g (am6 ..) rfl
       have len : (((flat ts ++ l.take m).map gD3).reverse).length < 300 := by
        rw [aqN, amT, am9, anu]
        have : (flat ts ++ l).length <= 98 := hf
        rw [am9] at this
        omega
       refine zi (amq (i := 5) (j := 1) rfl rfl len (ahN (zo rfl ⟨qw _, fun z => ?_, fun _ => ?_⟩)))
       ·rw [aoZ, ant] at z
        obtain ⟨a, ha, e⟩ := z
        exact absurd (acG e ▸ ha) hnew
       ·refine ⟨_, rfl, ?_⟩
        show [OC.lst _, OC.set (gD3 g :: ((flat ts ++ l.take m).map gD3).reverse)] = _
        rw [tk, <- apm, anx (l₁ := flat ts ++ l.take m), ao4]
        rfl
     ·rintro _ _ ⟨x, rfl, rfl⟩
      refine ⟨ts ++ [(ring, l)], _, _, _, rfl, ?_, T2, fun j g hj hg => ?_⟩
      ·rw [amT, show (ring, l).2.length = l.length from rfl, anS, qH]
      ·rw [qH]
       rcases aqa.mp hj with h | h
       ·exact anQ _ (past j g h hg)
       ·rw [h, hq] at hg
        cases hg
        exact anc _ (List.mem_of_head? hh)
  ·rintro _ _ ⟨ts, u, v, x, rfl, rfl, T, past⟩
   have few := T.few gd
   refine ajs (ac6 (ahx "str" (zo (i := 4) (d := .list (ts.map yW)) ?_ ⟨_, rfl, aiw T, by rw [amT]; omega, .inl (by rw [amT]; omega), fun es pm up => ?_⟩)))
   ·show some (freed _ _ _) = _
    simp [freed]
   ·obtain ⟨us, p, rfl⟩ := vp pm ts rfl
    refine ⟨us, rfl, T.perm p, fun g og => ?_, up⟩
    have hm : g ∈ S := by rw [<- hS]; exact anc _ (mem_gates.mpr og)
    obtain ⟨j, hj⟩ := anJ hm
    obtain ⟨hlt, _⟩ := amU.mp hj
    exact (p.flatMap_right _).mem_iff.mpr (past j g (by rw [amT]; exact hlt) hj)
end
open PySem PySem.Spec PyProof.Rows L2
open PySem PySem.Spec PyProof.Rows L2
section
variable {rows : List (List Int)} {wd : Nat} {cut : Int}
theorem ahD {q : Bool} {l : List Gt} (L : LineOk rows wd cut q l) {t : Bool × List Gt} (T : LineOk rows wd cut t.1 t.2) (st : acI rows wd cut t) {h : Gt} (hl : h ∈ l) (ht : h ∈ t.2) : ∀ g ∈ l, g ∈ t.2 := by
 obtain ⟨j, hj⟩ := anJ hl
 obtain ⟨hlt, _⟩ := amU.mp hj
 have up : ∀ n i, i = j + n -> ∀ g, l[i]? = some g -> g ∈ t.2 := fun n => by
  induction n with
  | zero =>
   intro i hi g hg
   rw [hi, Nat.add_zero, hj] at hg
   cases hg
   exact ht
  | succ n ih =>
   intro i hi g hg
   obtain ⟨hl2, _⟩ := amU.mp hg
   have a1 : l[j + n]? = some l[j + n] := amP (by omega)
   rw [show i = j + n + 1 by omega] at hg
   exact v5 T (ih _ rfl _ a1) (L.ch _ _ _ a1 hg)
 have dn : ∀ n i, i + n = j -> ∀ g, l[i]? = some g -> g ∈ t.2 := fun n => by
  induction n with
  | zero =>
   intro i hi g hg
   rw [show i = j by omega, hj] at hg
   cases hg
   exact ht
  | succ n ih =>
   intro i hi g hg
   have a1 : l[i + 1]? = some l[i + 1] := amP (by omega)
   exact v3 T st (L.op g (ana hg)) (ih (i + 1) (by omega) _ a1) (L.ch i _ _ hg a1)
 intro g hg
 obtain ⟨i, hi⟩ := anJ hg
 by_cases h' : j <= i
 ·exact up (i - j) i (by omega) g hi
 ·exact dn (j - i) i (by omega) g hi
end
open PySem PySem.Spec PyProof.Rows L2
abbrev scr (ns : List Int) : PyData := .list (ns.map .int)
theorem afP {K : amR} {H : Hp} {a : Addr} {ns : List Int} (h : SqL K H a (ns.map V.int)) : Rep K (hide H L2.f0) (scr ns) (.ref a) := by
 rw [yG]
 exact rep_list.mpr ⟨a, _, rfl, h, Reps.ints' ns⟩
theorem aj7 {K : amR} {H : Hp} {v : V} {ns : List Int} (h : Rep K (hide H L2.f0) (scr ns) v) : ∃ a, v = .ref a /\ SqL K H a (ns.map V.int) := by
 rw [yG] at h
 obtain ⟨a, xs, rfl, h1, h2⟩ := rep_list.mp h
 rw [h2.ints] at h1
 exact ⟨a, rfl, h1⟩
def aeD (K : amR) : Sp := fun vs H Q _ => ∃ (a : Addr) (ns : List Int) (i : Int), vs = [.ref a, .int i] /\ SqL K H a (ns.map V.int) /\ ns.length <= 63 /\ 0 <= i /\ i <= 63 /\
 ∀ (p : Addr) (x y : Int) (H' : Hp), Same H H' -> H p = none -> H' p = some (.lst [.int x, .int y]) -> 0 <= x -> 0 <= y -> y < 2147483647 -> Q (.ref p) H'
def afQ (K : amR) : Sp := fun vs H Q _ => ∃ (a : Addr) (ns : List Int), vs = [.ref a] /\ SqL K H a (ns.map V.int) /\ ns.length <= 63 /\ ∀ H', Q (.bl true) H'
theorem aj8 {K : amR} {f : Fx} {t : TA} {ρ : zr} {R R' : List DV -> Prop} (h : PAd K f t ρ R) (i : ∀ xs, R xs -> R' xs) : PAd K f t ρ R' := fun σ H Q e q => h σ H Q e fun xs vs H' g r p => q xs vs H' g r (i xs p)
theorem al0 {K : amR} {ρ : zr} {ns : List Int} {i : Int} {E2 : XK} (h0 : ρ[0]? = some (some (.dat (scr ns)))) (h1 : ρ[1]? = some (some (.dat (.int i)))) (hl : ns.length <= 63) (i0 : 0 <= i) (i1 : i <= 63) :
  ∀ (σ : L2.St) (H : Hp) (Q : VK), EnvOk K L2.f0 ρ σ H -> (∀ (p : Addr) (x y : Int) (H' : Hp), Same H H' -> H p = none -> H' p = some (.lst [.int x, .int y]) -> 0 <= x -> 0 <= y -> y < 2147483647 -> Q (.ref p) H') -> abl (aeD K) [] E2 (yo (yn 0) (yo (yn 1) qj)) σ H Q := by
 intro σ H Q e q
 obtain ⟨v0, hv0, r0⟩ := e.get 0 _ h0
 obtain ⟨v1, hv1, r1⟩ := e.get 1 _ h1
 obtain ⟨a, rfl, hS⟩ := aj7 r0
 have e1 : v1 = .int i := rep_int.mp (show Rep K (hide H L2.f0) (.int i) v1 from r1)
 subst e1
 exact ⟨_, hv0, _, hv1, a, ns, i, rfl, hS, hl, i0, i1, q⟩
theorem al1 {K : amR} {f : Fx} {ρ : zr} {P : PyData -> Prop} {i : Nat} {rows : List (List Int)} (hi : ρ[i]? = some (some (.dat (tab rows)))) (hl : rows.length <= 1000) (p : P (tab rows)) :
  PEd K f (qe (aeI K (yn i)) 1 [] (jf 0) ai4 fun D => qN D (tCB (fun xs H Q => ∃ p ys, xs = [V.ref p] /\ (SqL K H p ys \/ SqT K H p ys) /\ ∀ l, H l = none -> Q (V.ref l) (upd H l (HO.lst ys))) (yo (yn 0) qj))) ρ P := by
 refine PEdO.ped (vT (A := fun r : List Int => PyData.list (r.map .int)) (B := fun r : List Int => PyData.list (r.map .int)) rows (yN (zo hi ⟨_, rfl, rfl, hl, ?_, p⟩)))
 rintro D r ρ' es hr ho hes
 obtain ⟨u, rfl⟩ := ho.one
 refine zi (jo ?_)
 rw [if_pos rfl]
 exact yJ hes (ahd (zx (zo rfl (yh (.inl ⟨_, rfl, .mk1, rfl⟩)))))
section
variable {P : Program} {w : World} {K : amR} {mg : Str -> Option Value} {base : Heap} {k : Nat}
theorem aj9 (F : Def K mg "_law_feed" j9 ["_law_script", "_law_k"]) (m_len : mg "len" = none) (m_abs : mg "abs" = none) : FnIn P w K mg base (k + 1) "_law_feed" ["_law_script", "_law_k"] (aeD K) := by
 refine F.raw sc_law_feed (fun vs H Q E h => ?_) fun fa cdv A outer s H vs Q E hr hs => ⟨_, (zc (zE (i := 2) sc_law_feed.nd rfl (Or.inl rfl) zg) (zc (yC (zW aeK (zu (yi (K := K) rfl) rfl m_len anW (za (pv 0) zb)) zg (z7 _)) (zj (zE (i := 2) sc_law_feed.nd rfl (Or.inl rfl) (z6 (zG (K := K) rfl) (pv 0) (zq qk (pv 1) (zu (yi (K := K) rfl) rfl m_len anW (za (pv 0) zb))) (fun _ _ => rfl)))) zR) (zj (zv (yz (za (zu (jg) rfl m_abs anV (za (pv 2) zb)) (za (zq zQ (zq aav zg (pv 1)) zg) zb))))))), ?_⟩
 ·obtain ⟨a, ns, i, rfl, _⟩ := h
  rfl
 obtain ⟨a, ns, i, rfl, hS, h63, i0, i1, q⟩ := hs
 have e0 : EnvOk K L2.f0 (jE qY [.dat (scr ns), .dat (.int i)]) (start qY [.ref a, .int i]) H := jc (.cons (afP hS) (.cons (show RepV K L2.f0 H (.dat (.int i)) (.int i) from (rep_int (K := K) (H := hide H L2.f0)).mpr rfl) .nil)) (L2.fok0 H)
 refine ahf (D := { nx := fun ρ => ρ = [some (.dat (scr ns)), some (.dat (.int i)), some (.dat (.int 0))], rt := fun _ => False }) ?_ e0 ?_ (fun _ _ _ _ _ z => z.elim) (fun _ z => z) (fun _ z => z)
 ·repeat walk_at "dl"
  rfl
 rintro _ σ1 H1 g1 e1 rfl
 refine ahf (D := { nx := fun ρ => ∃ c : Int, ρ = [some (.dat (scr ns)), some (.dat (.int i)), some (.dat (.int c))], rt := fun _ => False }) ?_ e1 ?_ (fun _ _ _ _ _ z => z.elim) (fun _ z => z) (fun _ z => z)
 ·repeat walk_at "dl"
  rw [amT]
  by_cases h : 0 < ns.length
  ·rw [if_pos (by simpa using h)]
   repeat walk_at "dl"
   rw [amT]
   have z0 := apJ i (b := (ns.length : Int)) (by omega)
   have z1 := aow i (b := (ns.length : Int)) (by omega)
   refine ⟨by omega, _, rfl, _, yQ (j := (i % (ns.length : Int)).toNat) (by omega) (by omega), ?_⟩
   repeat walk_at "dl"
   exact ⟨_, rfl⟩
  ·rw [if_neg (by simpa using h)]
   repeat walk_at "dl"
   exact ⟨_, rfl⟩
 rintro _ σ2 H2 g2 e2 ⟨c, rfl⟩
 unfold adR
 have ss : Same H H2 := (L2.same0 g1).trans (L2.same0 g2)
 refine ahg (R := fun ds => ∃ x y : Int, ds = [.int x, .int y] /\ 0 <= x /\ 0 <= y /\ y < 2147483647) ?_ e2 ?_
 ·repeat walk_at "dl"
  omega
 ·rintro p ds vs H3 g3 hn rs ⟨x, y, rfl, hx, hy, hy'⟩
  have sf : Same H H3 := ss.trans (L2.same0 g3)
  have ev : vs = [.int x, .int y] := Reps.ints (ns := [x, y]) rs
  subst ev
  exact q p x y _ (sf.trans (zY hn _)) (sf.free hn) zz hx hy hy'
end
open PySem PySem.Spec PyProof.Rows L2
section
variable {P : Program} {w : World} {K : amR} {mg : Str -> Option Value} {base : Heap} {k : Nat}
abbrev adN (K : amR) : Sp := spD K 2 (fun (c : Int × Int) xs => xs = [.dat (.int c.1), .dat (.int c.2)]) fun c r => r = .int (aoa c.1 c.2 : Int)
def amE : zr -> Nat
 | [_, some (.dat (.int b))] => b.toNat
 | _ => 0
theorem adO (a b : Nat) : ao0 b (a % b) = ao0 a b := by rw [Nat.gcd_comm b, <- Nat.gcd_rec, Nat.gcd_comm]
theorem agP (F : Def K mg "common" vt ["one", "other"]) (m_abs : mg "abs" = none) : FnIn P w K mg base (k + 1) "common" ["one", "other"] (adN K) := by
 refine F.ok sc_common rfl fun fa cdv A outer s H E hr => ⟨_, (zc (abU (i := 0) (j := 1) rfl sc_common.nd rfl rfl (by decide) rfl rfl (za (zu (jg) rfl m_abs anV (za (pv 0) zb)) (za (zu (jg) rfl m_abs anV (za (pv 1) zb)) zb)) rfl) (zc (aat anK (yu (K := K) rfl (pv 1) (fun _ => rfl)) (zj (abU (i := 0) (j := 1) rfl sc_common.nd rfl rfl (by decide) rfl rfl (za (pv 1) (za (zq qk (pv 0) (pv 1)) zb)) rfl))) (zj (zv (pv 0))))), ?_⟩
 rintro f xs ⟨a, b⟩ hl rfl
 try dsimp only [zM, zk]
 dsimp only at *
 refine zH (ae1 ?_)
 repeat walk_at "dl"
 have ha : (if a < 0 then -a else a) = (a.natAbs : Int) := by split <;> omega
 have hb : (if b < 0 then -b else b) = (b.natAbs : Int) := by split <;> omega
 refine (ae2 (fun ρ => ∃ p q : Nat, ρ = [some (.dat (.int p)), some (.dat (.int q))] /\ ao0 p q = aoa a b) amE ⟨a.natAbs, b.natAbs, ?_, rfl⟩ ?_)
 ·rw [ha, hb]
  rfl
 rintro _ ⟨p, q, rfl, h⟩
 repeat walk_at "dl"
 refine yV (fun h2 => ?_) fun h2 => ?_
 ·have hq : 0 < q := by
   have : (q : Int) ≠ 0 := by simpa using h2
   omega
  refine ae1 ?_
  repeat walk_at "dl"
  refine ⟨⟨q, p % q, ?_, ?_⟩, ?_⟩
  ·rfl
  ·rw [adO]; exact h
  ·show ((p : Int) % (q : Int)).toNat < ((q : Int)).toNat
   have := aqZ p hq
   omega
 ·have hq : q = 0 := by
   have : (q : Int) = 0 := by simpa using h2
   omega
  subst hq
  repeat walk_at "dl"
  rw [Nat.gcd_zero_right] at h
  rw [h]
abbrev abO (K : amR) : Sp := spD K 2 (fun (c : Nat × Nat) xs => xs = [.dat (.int c.1), .dat (.int c.2)]) fun c r => r = .int (ao0 c.1 c.2 : Nat)
theorem aeE (F : Def K mg "_law_common" jb ["_law_one", "_law_other"]) : FnIn P w K mg base (k + 1) "_law_common" ["_law_one", "_law_other"] (abO K) := by
 refine F.ok sc_law_common rfl fun fa cdv A outer s H E hr => ⟨_, (zc (aat anK (zW aeK (pv 1) zg (z7 _)) (zj (abU (i := 0) (j := 1) rfl sc_law_common.nd rfl rfl (by decide) rfl rfl (za (pv 1) (za (zq qk (pv 0) (pv 1)) zb)) rfl))) (zj (zv (pv 0)))), ?_⟩
 rintro f xs ⟨a, b⟩ hl rfl
 try dsimp only [zM, zk]
 dsimp only at *
 refine zH (ae2 (fun ρ => ∃ p q : Nat, ρ = [some (.dat (.int p)), some (.dat (.int q))] /\ ao0 p q = ao0 a b) amE ⟨a, b, rfl, rfl⟩ ?_)
 rintro _ ⟨p, q, rfl, h⟩
 repeat walk_at "dl"
 refine yV (fun h2 => ?_) fun h2 => ?_
 ·have hq : 0 < q := by
   have := of_decide_eq_true h2
   omega
  refine ae1 ?_
  repeat walk_at "dl"
  refine ⟨⟨q, p % q, ?_, ?_⟩, ?_⟩
  ·rfl
  ·rw [adO]; exact h
  ·show ((p : Int) % (q : Int)).toNat < ((q : Int)).toNat
   have := aqZ p hq
   omega
 ·have hq : q = 0 := by
   have := of_decide_eq_false h2
   omega
  subst hq
  repeat walk_at "dl"
  rw [Nat.gcd_zero_right] at h
  rw [h]
end
open PySem PySem.Spec PyProof.Rows L2
abbrev Fr2 := Int × Int
def frD (p : Fr2) : PyData := .tuple [.int p.1, .int p.2]
def zJ (l : List Fr2) : Rat := l.foldl (fun q p => q + anC p.1 p.2) 0
theorem qI (l : List Fr2) (p : Fr2) : zJ (l ++ [p]) = zJ l + anC p.1 p.2 := by unfold zJ; rw [List.foldl_append]; rfl
theorem aa3 {q : Rat} {m p : Int} (hp : p ≠ 0) : anC (q.num * p + m * (q.den : Int)) ((q.den : Int) * p) = q + anC m p := by
 have hd : ((q.den : Nat) : Int) ≠ 0 := by have := q.den_nz; omega
 conv => rhs; rw [<- Rat.num_divInt_den q]
 rw [Rat.divInt_add_divInt _ _ hd hp]
theorem acK {A : Nat} : ∀ (l : List Fr2), (∀ p ∈ l, p.1.natAbs < 2 ^ A /\ 0 < p.2 /\ p.2.natAbs < 2 ^ A) -> (zJ l).num.natAbs < 2 ^ ((A + 2) * l.length + 1) /\ (zJ l).den < 2 ^ ((A + 2) * l.length + 1) := by
 intro l
 have key : ∀ n (l : List Fr2), l.length = n -> (∀ p ∈ l, p.1.natAbs < 2 ^ A /\ 0 < p.2 /\ p.2.natAbs < 2 ^ A) -> (zJ l).num.natAbs < 2 ^ ((A + 2) * n + 1) /\ (zJ l).den < 2 ^ ((A + 2) * n + 1) := fun n => by
  induction n with
  | zero =>
   intro l hl h
   rw [aqf.mp hl]
   exact ⟨by show (0 : Int).natAbs < _; exact aqq _, by show 1 < 2 ^ ((A + 2) * 0 + 1); rw [Nat.mul_zero]; decide⟩
  | succ n ih =>
   intro l hl h
   obtain ⟨l', p, rfl⟩ : ∃ l' p, l = l' ++ [p] := ⟨l.dropLast, l.getLast (fun z => by rw [z] at hl; cases hl), (List.dropLast_concat_getLast _).symm⟩
   rw [am9, anD] at hl
   obtain ⟨b1, b2⟩ := ih l' (by omega) fun q hq => h q (anQ _ hq)
   obtain ⟨p1, p2, p3⟩ := h p (anc _ (anp.mpr rfl))
   rw [qI, <- aa3 (q := zJ l') (m := p.1) (p := p.2) (by omega)]
   have e : 2 ^ ((A + 2) * (n + 1) + 1) = 2 ^ ((A + 2) * n + 1) * 2 ^ A * 4 := by
    rw [show (A + 2) * (n + 1) + 1 = ((A + 2) * n + 1) + A + 2 by rw [Nat.mul_add]; omega, apF, apF]
   generalize hX : 2 ^ ((A + 2) * n + 1) = X at *
   generalize hY : 2 ^ A = Y at *
   have m1 : (zJ l').num.natAbs * p.2.natAbs <= X * Y := aox (anE b1) (anE p3)
   have m2 : p.1.natAbs * (zJ l').den <= Y * X := aox (anE p1) (anE b2)
   have m3 : (zJ l').den * p.2.natAbs <= X * Y := aox (anE b2) (anE p3)
   have pX : 0 < X * Y := by rw [<- hX, <- hY]; exact aq5 (aqq _) (aqq _)
   rw [Nat.mul_comm Y X] at m2
   rw [e]
   have nz : ((zJ l').den : Int) * p.2 ≠ 0 := apN (by have := (zJ l').den_nz; omega) (by omega)
   refine ⟨apb (aaT _ _) ?_, apb (aaU nz) ?_⟩
   ·refine apb (Int.natAbs_add_le _ _) ?_
    rw [anR, anR, anm]
    omega
   ·rw [anR, anm]
    omega
 exact key _ l rfl
section
variable {P : Program} {w : World} {K : amR} {mg : Str -> Option Value} {base : Heap} {k : Nat}
abbrev aao (K : amR) : Sp := spD K 2 (fun (c : Fr2) xs => xs = [.dat (.int c.1), .dat (.int c.2)] /\ c.2 ≠ 0 /\ c.2.natAbs < jF) fun c r => r = aaR (anC c.1 c.2)
theorem aiA (F : Def K mg "shortened" ju ["top", "bottom"]) (G_common : FnIn P w K mg base k "common" ["one", "other"] (adN K)) : FnIn P w K mg base (k + 1) "shortened" ["top", "bottom"] (aao K) := by
 refine F.ok sc_shortened rfl fun fa cdv A outer s H E hr => ⟨_, (zc (zE (i := 2) sc_shortened.nd rfl (Or.inl rfl) (ze G_common hr rfl (za (pv 0) (za (pv 1) zb)))) (zc (yC (zW agX (pv 1) zg (z7 _)) (zj (zE (i := 2) sc_shortened.nd rfl (Or.inl rfl) (al9 akW (pv 2)))) zR) (zj (zv (zI (za (zq jM (pv 0) (pv 2)) (za (zq jM (pv 1) (pv 2)) zb))))))), ?_⟩
 rintro f xs ⟨t, b⟩ hl ⟨rfl, b0, bh⟩
 try dsimp only [zM, zk]
 dsimp only at *
 obtain ⟨s1, s2⟩ := abF (t := t) b0
 have gp : 0 < aoa t b := apM t b0
 have gl : aoa t b <= b.natAbs := aqX (by omega) (Int.ofNat_dvd_left.mp (Int.gcd_dvd_right t b))
 refine zH (zF (zp (t, b) (ajG rfl rfl ⟨rfl, rfl, ?_⟩)))
 rintro _ rfl
 refine zi (afq (fun ρ => ρ = [some (.dat (.int t)), some (.dat (.int b)), some (.dat (.int (b.sign * (aoa t b : Int))))]) ?_ ?_)
 ·refine akA (b < 0) (t_b (aeW (zo rfl ⟨_, rfl, yt ⟨_, rfl, _, rfl, rfl⟩⟩))) (fun h => ?_) fun h => qh ?_
  ·refine zF (amk (zo rfl ⟨_, rfl, zi ?_⟩))
   rw [aod h, Int.neg_one_mul]
   rfl
  ·have : 0 < b := by omega
   rw [aoe this, aqI]
   rfl
 rintro _ rfl
 have nz : b.sign * ((aoa t b : Nat) : Int) ≠ 0 := apN (fun z => b0 (Int.sign_eq_zero_iff_zero.mp z)) (by omega)
 have nh : (b.sign * ((aoa t b : Nat) : Int)).natAbs < jF := by
  rw [anR, anm]
  have : b.sign.natAbs = 1 := by
   rcases apq b 0 with h | h | h
   ·rw [aod h]; rfl
   ·exact absurd h b0
   ·rw [aoe h]; rfl
  rw [this, Nat.one_mul]
  omega
 refine yE (jI (zx (zX (zo rfl ⟨_, rfl, zo rfl ⟨_, rfl, ⟨nz, nh⟩, zx (zX (zo rfl ⟨_, rfl, zo rfl ⟨_, rfl, ⟨nz, nh⟩, yh ⟨_, rfl, by show 2 <= 1000; decide, ?_⟩⟩⟩))⟩⟩))))
 show PyData.tuple [.int _, .int _] = aaR _
 rw [s1, s2]
 rfl
abbrev TTo := List Fr2 × Nat
abbrev afR (K : amR) : Sp := spD K 1 (fun (c : TTo) xs => xs = [.dat (.list (c.1.map frD))] /\ (∀ p ∈ c.1, p.1.natAbs < 2 ^ c.2 /\ 0 < p.2 /\ p.2.natAbs < 2 ^ c.2) /\ (c.1.length + 1) * (c.2 + 2) <= 8900) fun c r => r = aaR (zJ c.1)
theorem aiB (F : Def K mg "total" aaj ["some"]) (G_shortened : FnIn P w K mg base k "shortened" ["top", "bottom"] (aao K)) : FnIn P w K mg base (k + 1) "total" ["some"] (afR K) := by
 refine F.ok sc_total rfl fun fa cdv A outer s H E hr => ⟨_, (zc (zT (zI (za zg (za zg zb))) (zD (K := K) (n := 2) rfl rfl (zf (zd (i := 1) sc_total.nd rfl (Or.inl rfl) (Or.inr rfl)) (zf (zd (i := 2) sc_total.nd rfl (Or.inl rfl) (Or.inr rfl)) zA)))) (zc (jS anK rfl (yj (K := K) rfl (pv 0)) (zD (K := K) (n := 2) rfl rfl (zf (zd (i := 3) sc_total.nd rfl (Or.inl rfl) (Or.inr rfl)) (zf (zd (i := 4) sc_total.nd rfl (Or.inl rfl) (Or.inr rfl)) zA))) (zj (zT (ze G_shortened hr rfl (za (zq zQ (zq zL (pv 1) (pv 4)) (zq zL (pv 3) (pv 2))) (za (zq zL (pv 2) (pv 4)) zb))) (zD (K := K) (n := 2) rfl rfl (zf (zd (i := 1) sc_total.nd rfl (Or.inl rfl) (Or.inr rfl)) (zf (zd (i := 2) sc_total.nd rfl (Or.inl rfl) (Or.inr rfl)) zA)))))) (zj (zv (zI (za (pv 1) (za (pv 2) zb))))))), ?_⟩
 rintro f xs ⟨l, A⟩ hl ⟨rfl, bd, few⟩
 try dsimp only [zM, zk]
 dsimp only at *
 refine zH (zF (jI (zx (yt (zx (yt (yh ⟨_, rfl, by show 2 <= 1000; decide, yp rfl (zm (zi (zm (zi (zN ?_)))))⟩)))))))
 refine zH (ac2 (yN (zo rfl ⟨_, rfl, fun n ρ => ∃ u v, ρ = [some (.dat (.list (l.map frD))), some (.dat (.int (zJ (l.take n)).num)), some (.dat (.int ((zJ (l.take n)).den : Nat))), u, v], ⟨_, _, rfl⟩, ?_, ?_⟩)))
 ·rintro n d _ hd ⟨u, v, rfl⟩
  rw [am1] at hd
  cases et : l[n]? with
  | none => rw [et] at hd; cases hd
  | some p =>
   rw [et] at hd
   cases hd
   have hp := ana et
   obtain ⟨b1, b2, b3⟩ := bd p hp
   have tk : l.take (n + 1) = l.take n ++ [p] := by rw [api, et]; rfl
   have hn := (amU.mp et).1
   have lt : (l.take n).length = n := by rw [anu]; omega
   obtain ⟨n1, n2⟩ := acK (A := A) (l.take n) fun q hq => bd q (apG hq)
   rw [lt] at n1 n2
   have ex : (A + 2) * n + 1 + A <= 8900 := by
    have : (n + 2) * (A + 2) <= (l.length + 1) * (A + 2) := aqJ _ (by omega)
    rw [Nat.add_mul] at this
    rw [Nat.mul_comm (A + 2) n]
    omega
   have h1 := zZ n1 (by omega)
   have h2 := zZ n2 (by omega)
   have h3 := zZ b1 (by omega)
   have h4 := zZ b3 (by omega)
   have nz : ((zJ (l.take n)).den : Int) * p.2 ≠ 0 := apN (by have := (zJ (l.take n)).den_nz; omega) (by omega)
   have nh : (((zJ (l.take n)).den : Int) * p.2).natAbs < jF := by
    rw [anR, anm]
    refine zZ (m := (A + 2) * n + 1 + A) ?_ (by omega)
    rw [apF]
    exact apz n2 b3
   refine yp rfl (zm (zi (zm (zi (zN (zF (zp ((zJ (l.take n)).num * p.2 + p.1 * ((zJ (l.take n)).den : Int), ((zJ (l.take n)).den : Int) * p.2) ?_)))))))
   refine zx (qf (zX (zo rfl ⟨_, rfl, zo rfl ⟨_, rfl, ⟨h1, h4⟩, _, rfl, zX (zo rfl ⟨_, rfl, zo rfl ⟨_, rfl, ⟨h3, by rw [anm]; exact h2⟩, _, rfl, ?_⟩⟩)⟩⟩)))
   refine zx (zX (zo rfl ⟨_, rfl, zo rfl ⟨_, rfl, ⟨by rw [anm]; exact h2, h4⟩, yh ⟨rfl, ⟨rfl, nz, nh⟩, ?_⟩⟩⟩))
   rintro _ rfl
   dsimp only
   rw [aa3 (by omega), <- qI, <- tk]
   exact yp rfl (zm (zi (zm (zi (zN ⟨_, _, rfl⟩)))))
 ·rintro _ ⟨u, v, rfl⟩
  rw [amT, anS]
  exact yE (jI (zx (zo rfl (zx (zo rfl (yh ⟨_, rfl, by show 2 <= 1000; decide, rfl⟩))))))
end
open PySem PySem.Spec PyProof.Rows L2
theorem vz {rows : List (List Int)} {wd : Nat} {cut x y w : Int} (h : ye rows wd cut x y w = true) : qK rows wd x y w = true := by
 unfold ye at h
 rw [amX] at h
 exact h.1
theorem aap {rows : List (List Int)} {wd : Nat} {x y : Int} (g : Good wd rows) (h : yf rows wd x y = true) : -1000000000 <= zO rows x y /\ zO rows x y <= 1000000000 := by
 obtain ⟨x0, x1, y0, y1⟩ := qc h
 have hy : y.toNat < rows.length := by omega
 have hr := g.row _ (ani hy)
 have hx : x.toNat < rows[y.toNat].length := by omega
 have := g.hgt _ (ani hy) _ (ani hx)
 unfold zO
 rw [amS, amS, amP hy, Option.getD_some, amP hx]
 exact this
def TT (rows : List (List Int)) (cut x y : Int) : Int := 2 * cut + 1 - 2 * zO rows x y
def BB (rows : List (List Int)) (x y w : Int) : Int := 2 * (zO rows (px x w) (py y w) - zO rows x y)
theorem aa4 {rows : List (List Int)} {wd : Nat} {cut x y w : Int} (h : ye rows wd cut x y w = true) : (0 < TT rows cut x y /\ TT rows cut x y < BB rows x y w) \/ (TT rows cut x y < 0 /\ BB rows x y w < TT rows cut x y) := by
 unfold ye at h
 rw [amX] at h
 have h2 := h.2
 unfold TT BB
 generalize zO rows x y = a at *
 generalize zO rows (px x w) (py y w) = b at *
 by_cases ha : cut < a
 ·by_cases hb : cut < b
  ·rw [decide_eq_true ha, decide_eq_true hb] at h2
   cases h2
  ·omega
 ·by_cases hb : cut < b
  ·omega
  ·rw [decide_eq_false ha, decide_eq_false hb] at h2
   cases h2
theorem akF {rows : List (List Int)} {wd : Nat} {cut x y w : Int} (h : ye rows wd cut x y w = true) : BB rows x y w ≠ 0 := by
 have := aa4 h
 omega
theorem akG {rows : List (List Int)} {wd : Nat} {cut x y w : Int} (g : Good wd rows) (h : ye rows wd cut x y w = true) : (BB rows x y w).natAbs <= 4000000000 := by
 obtain ⟨i1, i2⟩ := qr (vz h)
 have b1 := aap g i1
 have b2 := aap g i2
 unfold BB
 omega
def shQ (rows : List (List Int)) (cut : Int) (g : Gt) : Rat := anC (TT rows cut g.1 g.2.1) (BB rows g.1 g.2.1 g.2.2)
def plT (rows : List (List Int)) (cut : Int) (g : Gt) : Gt := if g.2.2 = 0 then (g.1 * ((shQ rows cut g).den : Int) + (shQ rows cut g).num, g.2.1 * ((shQ rows cut g).den : Int), ((shQ rows cut g).den : Int)) else (g.1 * ((shQ rows cut g).den : Int), g.2.1 * ((shQ rows cut g).den : Int) + (shQ rows cut g).num, ((shQ rows cut g).den : Int))
theorem akH {rows : List (List Int)} {wd : Nat} {cut : Int} {g : Gt} (gd : Good wd rows) (o : opG rows wd cut g = true) : (shQ rows cut g).num.natAbs <= 4000000000 /\ (shQ rows cut g).den <= 4000000000 /\ 0 < (shQ rows cut g).den := by
 have h1 := akG gd o
 have h2 := aa4 o
 refine ⟨ank (aaT _ _) (by omega), ank (aaU (akF o)) h1, (shQ rows cut g).den_pos⟩
def PlB (p : Gt) : Prop := p.1.natAbs <= 32000000000 /\ p.2.1.natAbs <= 32000000000 /\ 0 < p.2.2 /\ p.2.2 <= 4000000000
theorem akI {rows : List (List Int)} {wd : Nat} {cut : Int} {g : Gt} (gd : Good wd rows) (o : opG rows wd cut g = true) : PlB (plT rows cut g) := by
 obtain ⟨b1, b2, b3⟩ := akH gd o
 obtain ⟨i1, i2⟩ := qr (vz o)
 obtain ⟨x0, x1, y0, y1⟩ := qc i1
 have w2 := gd.w2
 have h2 := gd.h2
 have mx : ∀ a : Int, 0 <= a -> a < 7 -> (a * ((shQ rows cut g).den : Int)).natAbs <= 28000000000 := fun a a0 a1 => by
  have : a = 0 \/ a = 1 \/ a = 2 \/ a = 3 \/ a = 4 \/ a = 5 \/ a = 6 := by omega
  rcases this with rfl | rfl | rfl | rfl | rfl | rfl | rfl <;> omega
 have m1 := mx g.1 x0 (by omega)
 have m2 := mx g.2.1 y0 (by omega)
 unfold PlB plT
 split
 ·dsimp only
  omega
 ·dsimp only
  omega
section
variable {P : Program} {w : World} {K : amR} {mg : Str -> Option Value} {base : Heap} {k : Nat}
abbrev afS (K : amR) : Sp := spD K 3 aey fun c r => r = aaR (shQ c.1 c.2.2.1 c.2.2.2)
theorem aiC (F : Def K mg "share" aam ["rows", "cut", "gate"]) (G_gate_points : FnIn P w K mg base k "gate_points" ["gate"] (afA K)) (G_shortened : FnIn P w K mg base k "shortened" ["top", "bottom"] (aao K)) : FnIn P w K mg base (k + 1) "share" ["rows", "cut", "gate"] (afS K) := by
 refine F.ok sc_share rfl fun fa cdv A outer s H E hr => ⟨_, (zc (zT (yD (N := ["x", "y", "rows"]) (own := 2) (fr := [0]) ⟨rfl, by decide +kernel, of_decide_eq_true (by kernel_rfl), of_decide_eq_true (by kernel_rfl), of_decide_eq_true (by kernel_rfl), rfl⟩ rfl (yj (K := K) rfl (ze G_gate_points hr rfl (za (pv 2) zb))) (fun _ _ _ _ => (zD (K := K) (n := 2) rfl rfl (zf (zd (i := 0) (show (["x", "y", "rows"] : List Str).Nodup by decide +kernel) rfl (Or.inl rfl) (Or.inr rfl)) (zf (zd (i := 1) (show (["x", "y", "rows"] : List Str).Nodup by decide +kernel) rfl (Or.inl rfl) (Or.inr rfl)) zA)))) (fun _ _ _ _ => yr) (fun _ _ _ _ => (z6 (zG (K := K) rfl) (z6 (zG (K := K) rfl) (pv 2) (pv 1) (fun _ _ => rfl)) (pv 0) (fun _ _ => rfl))) rfl rfl (fun _ => rfl)) (ab5 (K := K) (n := 2) rfl rfl (zf (zd (i := 3) sc_share.nd rfl (Or.inl rfl) (Or.inr rfl)) (zf (zd (i := 4) sc_share.nd rfl (Or.inl rfl) (Or.inr rfl)) zA)))) (zj (zv (ze G_shortened hr rfl (za (zq jC (zq zQ (zq zL zg (pv 1)) zg) (zq zL zg (pv 3))) (za (zq zL zg (zq jC (pv 4) (pv 3))) zb)))))), ?_⟩
 rintro f xs ⟨rows, wd, cut, x, y, w⟩ hl ⟨rfl, g, ho⟩
 try dsimp only [zM, zk]
 dsimp only at *
 obtain ⟨i1, i2⟩ := qr (vz ho)
 have n0 : BB rows x y w ≠ 0 := akF ho
 have n1 : (BB rows x y w).natAbs <= 4000000000 := akG g ho
 refine zH (zF (PEdO.ped (vT (A := fun p : Int × Int => PyData.tuple [.int p.1, .int p.2]) (B := fun p : Int × Int => PyData.int (zO rows p.1 p.2)) [(x, y), (px x w, py y w)] (yN (zp (x, y, w) (acq rfl ⟨rfl, rfl, ?_⟩))))))
 rintro _ rfl
 refine ⟨_, rfl, rfl, show 2 <= 1000 by decide, ?_, ?_⟩
 ·rintro D p ρ' es hp ho hes
  obtain ⟨u, v, rfl⟩ := ho.two
  have hi : yf rows wd p.1 p.2 = true := by
   simp only [am2, anL, or_false] at hp
   rcases hp with rfl | rfl
   ·exact i1
   ·exact i2
  obtain ⟨r, h1, h2⟩ := aaW g hi
  refine yp rfl (zm (zi (zm (zi (zN (jo ?_))))))
  rw [if_pos rfl]
  refine yJ hes ?_
  unfold tab
  repeat walk_at "dl"
  refine ⟨_, h1, ?_⟩
  repeat walk_at "dl"
  refine ⟨_, h2, ?_⟩
  exact ⟨.mk2, rfl⟩
 ·refine ahp rfl (zm (zi (zm (zi (zN ?_)))))
  have sm : ∀ {i : Int}, i.natAbs < 2 ^ 60 -> i.natAbs < jF := fun h => zZ h (by decide)
  have b1 : -1000000000 <= zO rows x y /\ zO rows x y <= 1000000000 := aap g i1
  have b2 : -1000000000 <= zO rows (px x w) (py y w) /\ zO rows (px x w) (py y w) <= 1000000000 := aap g i2
  have cb : (cut : Int).natAbs < 2 ^ 60 := by
   have : (0 < TT rows cut x y /\ TT rows cut x y < BB rows x y w) \/ (TT rows cut x y < 0 /\ BB rows x y w < TT rows cut x y) := aa4 ho
   unfold TT BB at this
   omega
  refine yE (zp (TT rows cut x y, BB rows x y w) ?_)
  refine zx (qf (qf (zX (yt ⟨_, rfl, zo rfl ⟨_, rfl, ⟨sm (by decide), sm cb⟩, _, rfl, yt ⟨_, rfl, _, rfl, zX (yt ⟨_, rfl, zo rfl ⟨_, rfl, ⟨sm (by decide), sm (show (zO rows x y).natAbs < _ by omega)⟩, _, rfl, ?_⟩⟩)⟩⟩⟩))))
  refine zx (zX (yt ⟨_, rfl, qf (zo rfl ⟨_, rfl, zo rfl ⟨_, rfl, _, rfl, ⟨sm (by decide), sm (show (zO rows (px x w) (py y w) - zO rows x y).natAbs < _ by omega)⟩, yh ⟨rfl, ⟨rfl, n0, sm (by omega)⟩, ?_⟩⟩⟩)⟩))
  rintro _ rfl
  rfl
abbrev jO (K : amR) : Sp := spD K 3 aey fun c r => r = gD3 (plT c.1 c.2.2.1 c.2.2.2)
theorem adP (F : Def K mg "place_of" j8 ["rows", "cut", "gate"]) (G_share : FnIn P w K mg base k "share" ["rows", "cut", "gate"] (afS K)) : FnIn P w K mg base (k + 1) "place_of" ["rows", "cut", "gate"] (jO K) := by
 refine F.ok sc_place_of rfl fun fa cdv A outer s H E hr => ⟨_, (zc (zT (pv 2) (zD (K := K) (n := 3) rfl rfl (zf (zd (i := 3) sc_place_of.nd rfl (Or.inl rfl) (Or.inr rfl)) (zf (zd (i := 4) sc_place_of.nd rfl (Or.inl rfl) (Or.inr rfl)) (zf (zd (i := 5) sc_place_of.nd rfl (Or.inl rfl) (Or.inr rfl)) zA))))) (zc (zT (ze G_share hr rfl (za (pv 0) (za (pv 1) (za (pv 2) zb)))) (zD (K := K) (n := 2) rfl rfl (zf (zd (i := 6) sc_place_of.nd rfl (Or.inl rfl) (Or.inr rfl)) (zf (zd (i := 7) sc_place_of.nd rfl (Or.inl rfl) (Or.inr rfl)) zA)))) (zc (yC (zW (aaF (K := K) rfl hr.units) (pv 5) zg (z7 _)) (zj (zv (zI (za (zq zQ (zq zL (pv 3) (pv 7)) (pv 6)) (za (zq zL (pv 4) (pv 7)) (za (pv 7) zb)))))) zR) (zj (zv (zI (za (zq zL (pv 3) (pv 7)) (za (zq zQ (zq zL (pv 4) (pv 7)) (pv 6)) (za (pv 7) zb))))))))), ?_⟩
 rintro f xs ⟨rows, wd, cut, x, y, w⟩ hl ⟨rfl, g, ho⟩
 try dsimp only [zM, zk]
 dsimp only at *
 obtain ⟨b1, b2, b3⟩ := akH g ho
 obtain ⟨i1, i2⟩ := qr (vz ho)
 obtain ⟨x0, x1, y0, y1⟩ := qc i1
 have w2 := g.w2
 have h2 := g.h2
 have sm : ∀ {i : Int}, i.natAbs < 2 ^ 60 -> i.natAbs < jF := fun h => zZ h (by decide)
 refine zH (zF (zo rfl (yp rfl (zm (zi (zm (zi (zm (zi (zN ?_))))))))))
 refine zH (zF (zp (rows, wd, cut, x, y, w) (abb rfl rfl rfl ⟨rfl, ⟨rfl, g, ho⟩, ?_⟩)))
 rintro _ rfl
 dsimp only
 have cx : CMulH x ((shQ rows cut (x, y, w)).den : Int) := ⟨sm (by dsimp only at x0 x1; omega), sm (by rw [anm]; omega)⟩
 have cy : CMulH y ((shQ rows cut (x, y, w)).den : Int) := ⟨sm (by dsimp only at y0 y1; omega), sm (by rw [anm]; omega)⟩
 refine yp rfl (zm (zi (zm (zi (zN ?_)))))
 refine zH (akA (w = 0) (amB rfl) (fun h => ?_) fun h => qh ?_)
 ·refine yE (jI (zx (qf (zX (zo rfl ⟨_, rfl, zo rfl ⟨_, rfl, cx, _, rfl, zo rfl ⟨_, rfl, zx (zX (zo rfl ⟨_, rfl, zo rfl ⟨_, rfl, cy, zx (zo rfl (yh ⟨_, rfl, by show 3 <= 1000; decide, ?_⟩))⟩⟩))⟩⟩⟩)))))
  unfold plT
  rw [if_pos h]
  rfl
 ·refine yE (jI (zx (zX (zo rfl ⟨_, rfl, zo rfl ⟨_, rfl, cx, zx (qf (zX (zo rfl ⟨_, rfl, zo rfl ⟨_, rfl, cy, _, rfl, zo rfl ⟨_, rfl, zx (zo rfl (yh ⟨_, rfl, by show 3 <= 1000; decide, ?_⟩))⟩⟩⟩)))⟩⟩))))
  unfold plT
  rw [if_neg h]
  rfl
end
open PySem PySem.Spec PyProof.Rows L2
def crs (p q : Gt) : Fr2 := (p.1 * q.2.1 - p.2.1 * q.1, p.2.2 * q.2.2)
def nxL (ps : List Gt) : List Gt := ps.drop 1 ++ ps.take 1
def prs (ps : List Gt) : List Fr2 := (ps.zip (nxL ps)).map fun p => crs p.1 p.2
def aiD (ps : List Gt) : Rat := anC ((zJ (prs ps)).num.natAbs : Int) (2 * ((zJ (prs ps)).den : Int))
theorem aeF {p q : Gt} (hp : PlB p) (hq : PlB q) : (crs p q).1.natAbs < 2 ^ 74 /\ 0 < (crs p q).2 /\ (crs p q).2.natAbs < 2 ^ 74 := by
 obtain ⟨a1, a2, a3, a4⟩ := hp
 obtain ⟨b1, b2, b3, b4⟩ := hq
 have m1 : p.1.natAbs * q.2.1.natAbs <= 32000000000 * 32000000000 := aox a1 b2
 have m2 : p.2.1.natAbs * q.1.natAbs <= 32000000000 * 32000000000 := aox a2 b1
 have m3 : p.2.2.natAbs * q.2.2.natAbs <= 4000000000 * 4000000000 := aox (by omega) (by omega)
 refine ⟨?_, Int.mul_pos a3 b3, ?_⟩
 ·show (p.1 * q.2.1 - p.2.1 * q.1).natAbs < _
  have e1 : (p.1 * q.2.1).natAbs = p.1.natAbs * q.2.1.natAbs := anR ..
  have e2 : (p.2.1 * q.1).natAbs = p.2.1.natAbs * q.1.natAbs := anR ..
  omega
 ·show (p.2.2 * q.2.2).natAbs < _
  rw [anR]
  omega
theorem aiE {ps : List Gt} {q : Gt} (h : q ∈ nxL ps) : q ∈ ps := by
 rcases anF.mp h with z | z
 ·exact List.mem_of_mem_drop z
 ·exact apG z
theorem aiF {ps : List Gt} (h : ps ≠ []) : (nxL ps).length = ps.length := by
 have := aof.mpr h
 unfold nxL
 rw [am9, anZ, anu]
 omega
theorem afT {ps : List Gt} (h : ps ≠ []) : (prs ps).length = ps.length := by
 unfold prs
 rw [amT, aqr, aiF h, Nat.min_self]
theorem aiG {ps : List Gt} (h : ∀ p ∈ ps, PlB p) : ∀ p ∈ prs ps, p.1.natAbs < 2 ^ 74 /\ 0 < p.2 /\ p.2.natAbs < 2 ^ 74 := fun p hp => by
 obtain ⟨z, hz, rfl⟩ := ant.mp hp
 obtain ⟨h1, h2⟩ := aoP hz
 exact aeF (h _ h1) (h _ (aiE h2))
section
variable {P : Program} {w : World} {K : amR} {mg : Str -> Option Value} {base : Heap} {k : Nat}
abbrev afU (K : amR) : Sp := spD K 1 (fun (c : List Gt) xs => xs = [.dat (.list (c.map gD3))] /\ (∀ p ∈ c, PlB p) /\ c ≠ [] /\ c.length <= 98) fun c r => r = aaR (aiD c)
theorem aiH (F : Def K mg "field_area" y4 ["around"]) (m_zip : mg "zip" = none) (m_abs : mg "abs" = none) (G_total : FnIn P w K mg base k "total" ["some"] (afR K)) (G_shortened : FnIn P w K mg base k "shortened" ["top", "bottom"] (aao K)) : FnIn P w K mg base (k + 1) "field_area" ["around"] (afU K) := by
 refine F.ok sc_field_area rfl fun fa cdv A outer s H E hr => ⟨_, (zc (zE (i := 1) sc_field_area.nd rfl (Or.inl rfl) (zq (vg (K := K) rfl) (acO (ac4 (K := K) rfl) (pv 0) (aeO zg) aeN) (acO (ac4 (K := K) rfl) (pv 0) aeN (aeO zg)))) (zc (zT (ze G_total hr rfl (za (yD (N := ["a", "b", "v", "c", "d", "w"]) (own := 6) (fr := []) ⟨rfl, by decide +kernel, of_decide_eq_true (by kernel_rfl), of_decide_eq_true (by kernel_rfl), of_decide_eq_true (by kernel_rfl), rfl⟩ rfl (ajA (K := K) rfl rfl m_zip (za (pv 0) (za (pv 1) zb))) (fun _ _ _ _ => (zD (K := K) (n := 2) rfl rfl (zf (zD (K := K) (n := 3) rfl rfl (zf (zd (i := 0) (show (["a", "b", "v", "c", "d", "w"] : List Str).Nodup by decide +kernel) rfl (Or.inl rfl) (Or.inr rfl)) (zf (zd (i := 1) (show (["a", "b", "v", "c", "d", "w"] : List Str).Nodup by decide +kernel) rfl (Or.inl rfl) (Or.inr rfl)) (zf (zd (i := 2) (show (["a", "b", "v", "c", "d", "w"] : List Str).Nodup by decide +kernel) rfl (Or.inl rfl) (Or.inr rfl)) zA)))) (zf (zD (K := K) (n := 3) rfl rfl (zf (zd (i := 3) (show (["a", "b", "v", "c", "d", "w"] : List Str).Nodup by decide +kernel) rfl (Or.inl rfl) (Or.inr rfl)) (zf (zd (i := 4) (show (["a", "b", "v", "c", "d", "w"] : List Str).Nodup by decide +kernel) rfl (Or.inl rfl) (Or.inr rfl)) (zf (zd (i := 5) (show (["a", "b", "v", "c", "d", "w"] : List Str).Nodup by decide +kernel) rfl (Or.inl rfl) (Or.inr rfl)) zA)))) zA)))) (fun _ _ _ _ => yr) (fun _ _ _ _ => (zI (za (zq jC (zq zL (pv 0) (pv 4)) (zq zL (pv 1) (pv 3))) (za (zq zL (pv 2) (pv 5)) zb)))) rfl rfl (fun _ => rfl)) zb)) (zD (K := K) (n := 2) rfl rfl (zf (zd (i := 2) sc_field_area.nd rfl (Or.inl rfl) (Or.inr rfl)) (zf (zd (i := 3) sc_field_area.nd rfl (Or.inl rfl) (Or.inr rfl)) zA)))) (zj (zv (ze G_shortened hr rfl (za (zu (jg) rfl m_abs anV (za (pv 2) zb)) (za (zq zL zg (pv 3)) zb))))))), ?_⟩
 rintro f xs ps hl ⟨rfl, bd, ne, few⟩
 try dsimp only [zM, zk]
 have pos := aof.mpr ne
 have ml : (ps.map gD3).length = ps.length := amT _
 have s1 : HT.sIx (ps.map gD3).length 0 (some 1) = 1 := by
  unfold HT.sIx
  simp only
  rw [if_neg (by decide)]
  show min 1 _ = 1
  omega
 have s2 : HT.sIx (ps.map gD3).length (ps.map gD3).length (some 1) = 1 := by
  unfold HT.sIx
  simp only
  rw [if_neg (by decide)]
  show min 1 _ = 1
  omega
 have c1 : L2.cutD (ps.map gD3) (some 1) none = (ps.drop 1).map gD3 := by
  unfold L2.cutD
  rw [s1, show HT.sIx (ps.map gD3).length (ps.map gD3).length none = (ps.map gD3).length from rfl, aql (by rw [anZ]; omega), aqV]
 have c2 : L2.cutD (ps.map gD3) none (some 1) = (ps.take 1).map gD3 := by
  unfold L2.cutD
  rw [s2, show HT.sIx (ps.map gD3).length 0 none = 0 from rfl, List.drop_zero, Nat.sub_zero, aqU]
 refine zH (zF (ab6 (ahl (zo rfl ⟨_, rfl, ahk (yt ⟨_, rfl, ahj ⟨_, rfl, ahl (zo rfl ⟨_, rfl, ahj (ahk (yt ⟨_, rfl, _, rfl, ?_⟩))⟩)⟩⟩)⟩))))
 rw [c1, c2]
 refine ⟨by rw [amT, amT, anZ, anu]; omega, zi ?_⟩
 rw [<- anx]
 show PSd K f _ [some (.dat (.list (ps.map gD3))), some (.dat (.list ((nxL ps).map gD3))), none, none] _
 obtain ⟨n1, n2⟩ := acK (A := 74) (prs ps) (aiG bd)
 rw [afT ne] at n1 n2
 have h1 := zZ n1 (by omega)
 refine zH (zF (zp (prs ps, 74) (zx (PEdO.ped (vT (A := fun p : Gt × Gt => .tuple [gD3 p.1, gD3 p.2]) (B := fun p => frD (crs p.1 p.2)) (ps.zip (nxL ps)) (amA (ajG rfl rfl ⟨_, _, rfl, ?_, ?_, ?_, ?_⟩)))))))
 ·unfold ah7
  rw [List.zipWith_map, List.zip, List.map_zipWith]
 ·rw [aqr]; omega
 ·rintro D ⟨p, q⟩ ρ' es hq ho hes
  obtain ⟨m1, m2⟩ := aoP hq
  obtain ⟨a1, a2, a3, a4⟩ := bd p m1
  obtain ⟨b1, b2, b3, b4⟩ := bd q (aiE m2)
  obtain ⟨us, hus, rfl⟩ := ho
  have sm : ∀ {i : Int}, i.natAbs < 2 ^ 60 -> i.natAbs < jF := fun h => zZ h (by decide)
  match us, hus with
  | [u1, u2, u3, u4, u5, u6], _ =>
   refine yp rfl (zm (yp rfl (zm (zi (zm (zi (zm (zi (zN ?_)))))))))
   refine zm (yp rfl (zm (zi (zm (zi (zm (zi (zN ?_))))))))
   refine zN (jo ?_)
   rw [if_pos rfl]
   refine yJ hes (jI (zx (qf (zX (zo rfl ⟨_, rfl, zo rfl ⟨_, rfl, ⟨sm (show p.1.natAbs < _ by omega), sm (show q.2.1.natAbs < _ by omega)⟩, _, rfl, ?_⟩⟩)))))
   refine zX (zo rfl ⟨_, rfl, zo rfl ⟨_, rfl, ⟨sm (show p.2.1.natAbs < _ by omega), sm (show q.1.natAbs < _ by omega)⟩, _, rfl, ?_⟩⟩)
   refine zx (zX (zo rfl ⟨_, rfl, zo rfl ⟨_, rfl, ⟨sm (show p.2.2.natAbs < _ by omega), sm (show q.2.2.natAbs < _ by omega)⟩, yh ⟨_, rfl, by show 2 <= 1000; decide, ⟨[_, _, _, _, _, _], rfl, rfl⟩, rfl⟩⟩⟩))
 refine yh ⟨rfl, ⟨by unfold prs; rw [aoO]; rfl, aiG bd, by rw [afT ne]; omega⟩, ?_⟩
 rintro _ rfl
 refine yp rfl (zm (zi (zm (zi (zN ?_)))))
 have ha : (if (zJ (prs ps)).num < 0 then -(zJ (prs ps)).num else (zJ (prs ps)).num) = ((zJ (prs ps)).num.natAbs : Int) := by split <;> omega
 have dp := (zJ (prs ps)).den_pos
 have hd : (2 * ((zJ (prs ps)).den : Int)).natAbs < jF := by
  rw [anR, anm]
  refine zZ (m := (74 + 2) * ps.length + 1 + 1) ?_ (by omega)
  rw [aq1]
  show 2 * _ < _
  omega
 refine yE (zp (((zJ (prs ps)).num.natAbs : Int), 2 * ((zJ (prs ps)).den : Int)) ?_)
 refine zx (vD (acq rfl ⟨_, rfl, ?_⟩))
 rw [ha]
 refine zx (zX (yt ⟨_, rfl, zo rfl ⟨_, rfl, ⟨zZ (m := 60) (by decide) (by decide), by rw [anm]; exact zZ n2 (by omega)⟩, yh ⟨rfl, ⟨rfl, by omega, hd⟩, ?_⟩⟩⟩))
 rintro _ rfl
 rfl
abbrev TRa := List (List Int) × Nat × Int × (Bool × List Gt)
abbrev aiI (c : TRa) (xs : List DV) : Prop := xs = [.dat (tab c.1), .dat (.int c.2.2.1), .dat (yW c.2.2.2)] /\ Good c.2.1 c.1 /\ LineOk c.1 c.2.1 c.2.2.1 c.2.2.2.1 c.2.2.2.2
def abP (rows : List (List Int)) (cut : Int) (l : List Gt) : Rat := aiD (l.map (plT rows cut))
abbrev aiJ (K : amR) (C_NoRing : Addr) : Sp := spF K 3 aiI (fun c r => c.2.2.2.1 = true /\ r = aaR (abP c.1 c.2.2.1 c.2.2.2.2)) fun c Cv x => c.2.2.2.1 = false /\ Cv = .ref C_NoRing /\ x = none
theorem aka {C_NoRing : Addr} (F : Def K mg "ring_area" jy ["rows", "cut", "line"]) (m_NoRing : mg "NoRing" = some (.ref C_NoRing)) (x_NoRing : apA K C_NoRing [.type "ValueError", .type "Exception", .type "BaseException", .type "object"] "ValueError.__new__" = true)
  (G_ask_table : FnIn P w K mg base k "ask_table" ["rows"] (adA K)) (G_place_of : FnIn P w K mg base k "place_of" ["rows", "cut", "gate"] (jO K)) (G_field_area : FnIn P w K mg base k "field_area" ["around"] (afU K)) : FnInF P w K mg base (k + 1) "ring_area" ["rows", "cut", "line"] (aiJ K C_NoRing) := by
 refine F.okF sc_ring_area rfl fun fa cdv A outer s H E hr => ⟨_, (zc (jl (ze G_ask_table hr rfl (za (pv 0) zb))) (zc (zT (pv 2) (zD (K := K) (n := 2) rfl rfl (zf (zd (i := 3) sc_ring_area.nd rfl (Or.inl rfl) (Or.inr rfl)) (zf (zd (i := 4) sc_ring_area.nd rfl (Or.inl rfl) (Or.inr rfl)) zA)))) (zc (yC (zW (qU (K := K) rfl hr.units) (pv 3) yR (z7 _)) (zj (aei ah3 rfl rfl rfl rfl rfl m_NoRing x_NoRing PySem.F.excBase_ValueError (za yR zb))) zR) (zj (zv (ze G_field_area hr rfl (za (yD (N := ["gate", "rows", "cut"]) (own := 1) (fr := [0, 1]) ⟨rfl, by decide +kernel, of_decide_eq_true (by kernel_rfl), of_decide_eq_true (by kernel_rfl), of_decide_eq_true (by kernel_rfl), rfl⟩ rfl (aac (K := K) rfl (pv 4)) (fun _ _ _ _ => (zd (i := 0) (show (["gate", "rows", "cut"] : List Str).Nodup by decide +kernel) rfl (Or.inl rfl) (Or.inr rfl))) (fun _ _ _ _ => yr) (fun _ _ _ _ => (ze G_place_of hr rfl (za (pv 1) (za (pv 2) (za (pv 0) zb))))) rfl rfl (fun _ => rfl)) zb))))))), ?_⟩
 rintro f xs ⟨rows, wd, cut, ring, l⟩ hl ⟨rfl, g, L⟩
 try dsimp only [zM, zk]
 dsimp only at *
 have few := qx g L.op L.nd
 refine afu (aee (qT (zp (rows, wd) (acq rfl ⟨rfl, ⟨rfl, g⟩, ?_⟩))))
 rintro _ rfl
 refine afu (aee (zF (zo rfl (yp rfl (zm (zi (zm (zi (zN ?_)))))))))
 cases ring with
 | false =>
  refine afu (amx (yA (jH (zo rfl (qO ⟨by show (PyData.str "run").canLay0 = true; decide +kernel, by decide +kernel, by show min 0 0 <= 60; decide, _, rfl, ?_⟩)))))
  rw [if_pos rfl, show anl (.str (if (false, l).1 = true then "ring" else "run")) (.str (aou "ring")) = false by show anl (.str "run") (.str "ring") = false; decide +kernel, apn, if_pos rfl]
  exact ah4 (zx (qO (yh ⟨by show 1 <= 1000; decide, rfl, rfl, rfl⟩)))
 | true =>
  refine afu (amx (yA (jH (zo rfl (qO ⟨by show (PyData.str "ring").canLay0 = true; decide +kernel, by decide +kernel, by show min 0 0 <= 60; decide, _, rfl, ?_⟩)))))
  rw [if_pos rfl, show anl (.str (if (true, l).1 = true then "ring" else "run")) (.str (aou "ring")) = true by show anl (.str "ring") (.str "ring") = true; decide +kernel, anB, if_neg amQ]
  refine aee (qh ?_)
  refine amy (alH (zp (l.map (plT rows cut)) (zx (PEdO.ped (vT (A := gD3) (B := fun q => gD3 (plT rows cut q)) l (ae0 (zo rfl ⟨_, rfl, rfl, by omega, ?_, ?_⟩)))))))
  ·rintro D q ρ' es hq ho hes
   obtain ⟨u, rfl⟩ := ho.one
   refine zi (jo ?_)
   rw [if_pos rfl]
   refine yJ hes (zp (rows, wd, cut, q) (abb rfl rfl rfl ⟨rfl, ⟨rfl, g, L.op q hq⟩, ?_⟩))
   rintro _ rfl
   exact ⟨.mk1, rfl⟩
  ·refine yh ⟨rfl, ⟨by rw [aoO]; rfl, fun p hp => ?_, fun z => L.ne (aqQ.mp z), by rw [amT]; omega⟩, ?_⟩
   ·obtain ⟨q, hq, rfl⟩ := ant.mp hp
    exact akI g (L.op q hq)
   ·rintro _ rfl
    exact ⟨rfl, rfl⟩
abbrev aiK (K : amR) : Sp := spD K 3 aey fun _ r => r = .none
theorem akb (F : Def K mg "ask_gate" jY ["rows", "cut", "gate"]) (G_is_open : FnIn P w K mg base k "is_open" ["rows", "cut", "gate"] (aaX K)) : FnIn P w K mg base (k + 1) "ask_gate" ["rows", "cut", "gate"] (aiK K) := by
 refine F.ok adt rfl fun fa cdv A outer s H E hr => ⟨_, (zj (yC (aar (yu (K := K) rfl (ze G_is_open hr rfl (za (pv 0) (za (pv 1) (za (pv 2) zb)))) (fun _ => rfl))) (zj aas) zR)), ?_⟩
 rintro f xs ⟨rows, wd, cut, x, y, w⟩ hl ⟨rfl, g, o⟩
 try dsimp only [zM, zk]
 dsimp only at *
 refine v9 (acX (qg (zp (rows, wd, cut, x, y, w) (abb rfl rfl rfl ⟨rfl, ⟨rfl, g⟩, ?_⟩))))
 rintro _ rfl
 refine ⟨true, ?_, ?_⟩
 ·show some _ = some true
  rw [show ye rows wd cut x y w = true from o]
 ·rw [anB, if_neg amQ]
  exact qh rfl
theorem aiL (F : Def K mg "place" aal ["rows", "cut", "gate"]) (G_ask_table : FnIn P w K mg base k "ask_table" ["rows"] (adA K)) (G_ask_gate : FnIn P w K mg base k "ask_gate" ["rows", "cut", "gate"] (aiK K)) (G_place_of : FnIn P w K mg base k "place_of" ["rows", "cut", "gate"] (jO K)) : FnIn P w K mg base (k + 1) "place" ["rows", "cut", "gate"] (jO K) := by
 refine F.ok aic rfl fun fa cdv A outer s H E hr => ⟨_, (zc (jl (ze G_ask_table hr rfl (za (pv 0) zb))) (zc (jl (ze G_ask_gate hr rfl (za (pv 0) (za (pv 1) (za (pv 2) zb))))) (zj (zv (ze G_place_of hr rfl (za (pv 0) (za (pv 1) (za (pv 2) zb)))))))), ?_⟩
 rintro f xs ⟨rows, wd, cut, q⟩ hl ⟨rfl, g, o⟩
 try dsimp only [zM, zk]
 dsimp only at *
 refine zH (qT (zp (rows, wd) (acq rfl ⟨rfl, ⟨rfl, g⟩, ?_⟩)))
 rintro _ rfl
 refine zH (qT (zp (rows, wd, cut, q) (abb rfl rfl rfl ⟨rfl, ⟨rfl, g, o⟩, ?_⟩)))
 rintro _ rfl
 refine yE (zp (rows, wd, cut, q) (abb rfl rfl rfl ⟨rfl, ⟨rfl, g, o⟩, ?_⟩))
 rintro _ rfl
 rfl
end
open PySem PySem.Spec PyProof.Rows L2
abbrev g0 : Gt := (0, 0, 0)
def at3 (ps : List Gt) (k : Nat) : Gt := ps.getD k g0
def lpr (ps : List Gt) (k : Nat) : Fr2 := crs (at3 ps (if k = 0 then ps.length - 1 else k - 1)) (at3 ps k)
def jP (ps : List Gt) : List Fr2 := (am8 ps.length).map (lpr ps)
theorem vQ : ∀ (l : List Fr2) (q : Rat), l.foldl (fun q p => q + anC p.1 p.2) q = q + zJ l
 | [], q => by show q = q + 0; rw [Rat.add_zero]
 | p :: l, q => by
  show l.foldl (fun q p => q + anC p.1 p.2) (q + anC p.1 p.2) = q + l.foldl (fun q p => q + anC p.1 p.2) (0 + anC p.1 p.2)
  rw [vQ l, vQ l, Rat.zero_add, Rat.add_assoc]
theorem agQ (p : Fr2) (l : List Fr2) : zJ (p :: l) = zJ (l ++ [p]) := by
 rw [qI]
 show l.foldl (fun q p => q + anC p.1 p.2) (0 + anC p.1 p.2) = _
 rw [vQ, Rat.zero_add, Rat.add_comm]
theorem al3 {ps : List Gt} (ne : ps ≠ []) : prs ps = (am8 ps.length).map fun k => crs (at3 ps k) (at3 ps (if k + 1 = ps.length then 0 else k + 1)) := by
 refine apk fun i => ?_
 have pos := aof.mpr ne
 unfold prs
 rw [am1, am1]
 by_cases hi : i < ps.length
 ·rw [aog hi, List.zip, aqt, amP hi]
  have : (nxL ps)[i]? = some (at3 ps (if i + 1 = ps.length then 0 else i + 1)) := by
   unfold nxL at3
   by_cases h : i + 1 = ps.length
   ·rw [if_pos h, am7 (by rw [anZ]; omega), anZ, show i - (ps.length - 1) = 0 by omega, aoH (by decide), amP pos, amS, amP pos]
    rfl
   ·rw [if_neg h, am3 (by rw [anZ]; omega), apS, Nat.add_comm 1 i, amS, amP (show i + 1 < ps.length by omega)]
    rfl
  rw [this]
  have e : at3 ps i = ps[i] := by unfold at3; rw [amS, amP hi]; rfl
  show some (crs ps[i] _) = some (crs (at3 ps i) _)
  rw [e]
 ·rw [anj (l := am8 ps.length) (by rw [anO]; omega), anj (by rw [aqr, aiF ne]; omega)]
  rfl
theorem akc {ps : List Gt} (ne : ps ≠ []) : zJ (jP ps) = zJ (prs ps) := by
 rw [al3 ne]
 unfold jP
 have pos := aof.mpr ne
 obtain ⟨m, hm⟩ : ∃ m, ps.length = m + 1 := ⟨ps.length - 1, by omega⟩
 have e1 : (am8 ps.length).map (lpr ps) = crs (at3 ps m) (at3 ps 0) :: (am8 m).map fun k => crs (at3 ps k) (at3 ps (k + 1)) := by
  rw [hm, List.range_succ_eq_map, anh, aoO]
  congr 1
  unfold lpr
  rw [if_pos rfl, hm]
  rfl
 have e2 : ((am8 ps.length).map fun k => crs (at3 ps k) (at3 ps (if k + 1 = ps.length then 0 else k + 1))) = ((am8 m).map fun k => crs (at3 ps k) (at3 ps (k + 1))) ++ [crs (at3 ps m) (at3 ps 0)] := by
  rw [hm, ao9, anx]
  congr 1
  ·refine ao3 fun k hk => ?_
   have := ans.mp hk
   rw [if_neg (by omega)]
  ·show [crs (at3 ps m) (at3 ps (if m + 1 = m + 1 then 0 else m + 1))] = _
   rw [if_pos rfl]
 rw [e1, e2, agQ]
section
variable {P : Program} {w : World} {K : amR} {mg : Str -> Option Value} {base : Heap} {k : Nat}
theorem vA {ps : List Gt} {k : Nat} (h : k < ps.length) : at3 ps k ∈ ps /\ atI (ps.map gD3) (k : Int) = some (gD3 (at3 ps k)) := by
 have e : at3 ps k = ps[k] := by unfold at3; rw [amS, amP h]; rfl
 rw [e]
 exact ⟨ani h, yQ rfl h⟩
abbrev aiM (K : amR) : Sp := spD K 3 (fun (c : TRa) xs => aiI c xs /\ c.2.2.2.1 = true) fun c r => r = aaR (abP c.1 c.2.2.1 c.2.2.2.2)
theorem akd (F : Def K mg "_law_due" qE ["_law_rows", "_law_cut_here", "_law_line"]) (m_len : mg "len" = none) (m_range : mg "range" = none) (m_abs : mg "abs" = none) (G_place : FnIn P w K mg base k "place" ["rows", "cut", "gate"] (jO K)) (G__law_common : FnIn P w K mg base k "_law_common" ["_law_one", "_law_other"] (abO K)) : FnIn P w K mg base (k + 1) "_law_due" ["_law_rows", "_law_cut_here", "_law_line"] (aiM K) := by
 refine F.ok sc_law_due rfl fun fa cdv A outer s H E hr => ⟨_, (zc (ql (i := 3) (N := ["_law_gate", "_law_rows", "_law_cut_here"]) (own := 1) (fr := [0, 1]) ⟨rfl, by decide +kernel, of_decide_eq_true (by kernel_rfl), of_decide_eq_true (by kernel_rfl), of_decide_eq_true (by kernel_rfl), rfl⟩ rfl sc_law_due.nd rfl (Or.inl rfl) (aac (K := K) rfl (z6 (jn (K := K) rfl) (pv 2) zg (fun _ _ => rfl))) (fun _ _ _ _ => (zd (i := 0) (show (["_law_gate", "_law_rows", "_law_cut_here"] : List Str).Nodup by decide +kernel) rfl (Or.inl rfl) (Or.inr rfl))) (fun _ _ _ _ => yr) (fun _ _ _ _ => (ze G_place hr rfl (za (pv 1) (za (pv 2) (za (pv 0) zb))))) rfl rfl (fun _ => rfl) (Or.inl rfl) rfl) (zc (zT (zI (za zg (za zg zb))) (zD (K := K) (n := 2) rfl rfl (zf (zd (i := 4) sc_law_due.nd rfl (Or.inl rfl) (Or.inr rfl)) (zf (zd (i := 5) sc_law_due.nd rfl (Or.inl rfl) (Or.inr rfl)) zA)))) (zc (jS anK rfl (yL rfl m_range (za (zu (yi (K := K) rfl) rfl m_len anW (za (pv 3) zb)) zb)) (zd (i := 6) sc_law_due.nd rfl (Or.inl rfl) (Or.inr rfl)) (zc (zT (z6 (zG (K := K) rfl) (pv 3) (zq jC (pv 6) zg) (fun _ _ => rfl)) (zD (K := K) (n := 3) rfl rfl (zf (zd (i := 7) sc_law_due.nd rfl (Or.inl rfl) (Or.inr rfl)) (zf (zd (i := 8) sc_law_due.nd rfl (Or.inl rfl) (Or.inr rfl)) (zf (zd (i := 9) sc_law_due.nd rfl (Or.inl rfl) (Or.inr rfl)) zA))))) (zc (zT (z6 (zG (K := K) rfl) (pv 3) (pv 6) (fun _ _ => rfl)) (zD (K := K) (n := 3) rfl rfl (zf (zd (i := 10) sc_law_due.nd rfl (Or.inl rfl) (Or.inr rfl)) (zf (zd (i := 11) sc_law_due.nd rfl (Or.inl rfl) (Or.inr rfl)) (zf (zd (i := 12) sc_law_due.nd rfl (Or.inl rfl) (Or.inr rfl)) zA))))) (zc (zE (i := 13) sc_law_due.nd rfl (Or.inl rfl) (zq jC (zq zL (pv 7) (pv 11)) (zq zL (pv 8) (pv 10)))) (zc (zE (i := 4) sc_law_due.nd rfl (Or.inl rfl) (zq zQ (zq zL (zq zL (pv 4) (pv 9)) (pv 12)) (zq zL (pv 13) (pv 5)))) (zc (zE (i := 5) sc_law_due.nd rfl (Or.inl rfl) (zq zL (zq zL (pv 5) (pv 9)) (pv 12))) (zc (zE (i := 14) sc_law_due.nd rfl (Or.inl rfl) (ze G__law_common hr rfl (za (zu (jg) rfl m_abs anV (za (pv 4) zb)) (za (pv 5) zb)))) (zj (abU (i := 4) (j := 5) rfl sc_law_due.nd rfl rfl (by decide) rfl rfl (za (zq jM (pv 4) (pv 14)) (za (zq jM (pv 5) (pv 14)) zb)) rfl))))))))) (zc (zE (i := 14) sc_law_due.nd rfl (Or.inl rfl) (ze G__law_common hr rfl (za (zu (jg) rfl m_abs anV (za (pv 4) zb)) (za (zq zL zg (pv 5)) zb)))) (zj (zv (zI (za (zq jM (zu (jg) rfl m_abs anV (za (pv 4) zb)) (pv 14)) (za (zq jM (zq zL zg (pv 5)) (pv 14)) zb))))))))), ?_⟩
 rintro f xs ⟨rows, wd, cut, ring, l⟩ hl ⟨⟨rfl, g, L⟩, hri⟩
 try dsimp only [zM, zk]
 dsimp only at *
 subst hri
 have few := qx g L.op L.nd
 refine zH (zF (PEdO.ped (vT (A := gD3) (B := fun q => gD3 (plT rows cut q)) l (ae0 (abv (zo rfl ⟨_, rfl, yt ⟨_, rfl, .tuple (l.map gD3), rfl, _, rfl, rfl, by omega, ?_, ?_⟩⟩))))))
 ·rintro D q ρ' es hq ho hes
  obtain ⟨u, rfl⟩ := ho.one
  refine zi (jo ?_)
  rw [if_pos rfl]
  refine yJ hes (zp (rows, wd, cut, q) (abb rfl rfl rfl ⟨rfl, ⟨rfl, g, L.op q hq⟩, ?_⟩))
  rintro _ rfl
  exact ⟨.mk1, rfl⟩
 have bd : ∀ p ∈ l.map (plT rows cut), PlB p := fun p hp => by
  obtain ⟨q, hq, rfl⟩ := ant.mp hp
  exact akI g (L.op q hq)
 have ne : l.map (plT rows cut) ≠ [] := fun z => L.ne (aqQ.mp z)
 have lp : (l.map (plT rows cut)).length <= 98 := by rw [amT]; omega
 have em : (l.map fun q => gD3 (plT rows cut q)) = (l.map (plT rows cut)).map gD3 := by rw [aoO]; rfl
 refine zi ?_
 rw [em]
 unfold abP
 generalize l.map (plT rows cut) = ps at *
 have pos := aof.mpr ne
 have mlp : (ps.map gD3).length = ps.length := amT _
 have ll : (jP ps).length = ps.length := by unfold jP; rw [amT, anO]
 have lbd : ∀ p ∈ jP ps, p.1.natAbs < 2 ^ 74 /\ 0 < p.2 /\ p.2.natAbs < 2 ^ 74 := fun p hp => by
  obtain ⟨i, hi, rfl⟩ := ant.mp hp
  have := ans.mp hi
  unfold lpr
  exact aeF (bd _ (vA (by split <;> omega)).1) (bd _ (vA this).1)
 have qs := akc ne
 have sm : ∀ {i : Int}, i.natAbs < 2 ^ 60 -> i.natAbs < jF := fun h => zZ h (by decide)
 have mulH : ∀ {a b : Nat} {m n : Nat}, a < 2 ^ m -> b < 2 ^ n -> m + n <= 9000 -> a * b < jF := fun h1 h2 h => zZ (by rw [apF]; exact apz h1 h2) h
 have short : ∀ (T : Int) (B : Nat), 0 < B -> T.fdiv ((ao0 T.natAbs B : Nat) : Int) = (anC T B).num /\ (B : Int).fdiv ((ao0 T.natAbs B : Nat) : Int) = ((anC T B).den : Int) := fun T B h => by
  have := abF (t := T) (b := (B : Int)) (by omega)
  rw [aoe (by omega), aqI] at this
  exact this
 refine zH (zF (jI (zx (yt (zx (yt (yh ⟨_, rfl, by show 2 <= 1000; decide, yp rfl (zm (zi (zm (zi (zN ?_)))))⟩)))))))
 refine zH (ac2 (ve (zx (ag9 (acq rfl (.inl ⟨_, rfl, yh ⟨_, rfl, by rw [mlp]; omega, by rw [mlp]; omega, fun n ρ => ∃ y6 y7 y8 y9 y10 y11 y12 y13 y14, ρ = [some (.dat (tab rows)), some (.dat (.int cut)), some (.dat (yW (true, l))), some (.dat (.list (ps.map gD3))), some (.dat (.int (zJ ((jP ps).take n)).num)), some (.dat (.int ((zJ ((jP ps).take n)).den : Nat))), y6, y7, y8, y9, y10, y11, y12, y13, y14], ⟨_, _, _, _, _, _, _, _, _, rfl⟩, ?_, ?_⟩⟩))))))
 ·rintro n d _ hd ⟨y6, y7, y8, y9, y10, y11, y12, y13, y14, rfl⟩
  obtain ⟨hn, rfl⟩ := qt hd
  rw [aoR, mlp] at hn
  have et : (jP ps)[n]? = some (lpr ps n) := by unfold jP; rw [am1, aog hn]; rfl
  have tk : (jP ps).take (n + 1) = (jP ps).take n ++ [lpr ps n] := by rw [api, et]; rfl
  have lt : ((jP ps).take n).length = n := by rw [anu]; omega
  obtain ⟨n1, n2⟩ := acK (A := 74) ((jP ps).take n) fun q hq => lbd q (apG hq)
  rw [lt] at n1 n2
  have dp := (zJ ((jP ps).take n)).den_pos
  have stp : zJ ((jP ps).take (n + 1)) = zJ ((jP ps).take n) + anC (lpr ps n).1 (lpr ps n).2 := by rw [tk, qI]
  generalize zJ ((jP ps).take n) = Q at *
  have hpv : (if n = 0 then ps.length - 1 else n - 1) < ps.length := by split <;> omega
  obtain ⟨mp, _⟩ := vA hpv
  obtain ⟨mq, hq⟩ := vA hn
  have hp : atI (ps.map gD3) ((n : Int) - 1) = some (gD3 (at3 ps (if n = 0 then ps.length - 1 else n - 1))) := by
   by_cases h0 : n = 0
   ·subst h0
    rw [if_pos rfl]
    have : ixN (ps.map gD3).length (((0 : Nat) : Int) - 1) = some (ps.length - 1) := by
     unfold ixN
     simp
     omega
    unfold atI
    rw [this]
    show (ps.map gD3)[ps.length - 1]? = _
    unfold at3
    rw [am1, amP (by omega), amS, amP (by omega)]
    rfl
   ·rw [if_neg h0, show (n : Int) - 1 = ((n - 1 : Nat) : Int) by omega]
    exact (vA (by omega)).2
  have hl3 : lpr ps n = crs (at3 ps (if n = 0 then ps.length - 1 else n - 1)) (at3 ps n) := rfl
  rw [hl3] at stp
  generalize at3 ps (if n = 0 then ps.length - 1 else n - 1) = p at *
  generalize at3 ps n = q at *
  obtain ⟨a, b, w⟩ := p
  obtain ⟨c, d, v⟩ := q
  obtain ⟨a1, a2, a3, a4⟩ := bd _ mp
  obtain ⟨b1, b2, b3, b4⟩ := bd _ mq
  obtain ⟨k1, k2, k3⟩ := aeF (bd _ mp) (bd _ mq)
  dsimp only [crs] at a1 a2 a3 a4 b1 b2 b3 b4 k1 k2 k3 stp
  refine zi (zH (zF (acW (zo rfl ⟨_, rfl, qf (zo rfl ⟨_, rfl, yt ⟨_, rfl, _, rfl, _, hp, amC ?_⟩⟩)⟩))))
  refine zH (zF (acW (zo rfl ⟨_, rfl, zo rfl ⟨_, rfl, _, hq, amC ?_⟩⟩)))
  refine zH (zF (qf (aej rfl rfl ⟨sm (show a.natAbs < _ by omega), sm (show d.natAbs < _ by omega)⟩ ⟨_, rfl, aej rfl rfl ⟨sm (show b.natAbs < _ by omega), sm (show c.natAbs < _ by omega)⟩ ⟨_, rfl, zi ?_⟩⟩)))
  have w32 : w.natAbs < 2 ^ 32 := by omega
  have v32 : v.natAbs < 2 ^ 32 := by omega
  have e1 : Q.num.natAbs < jF := zZ n1 (by omega)
  have e2 : Q.den < jF := zZ n2 (by omega)
  have e3 : (Q.num * w).natAbs < jF := by rw [anR]; exact mulH n1 w32 (by omega)
  have e4 : ((Q.den : Int) * w).natAbs < jF := by rw [anR, anm]; exact mulH n2 w32 (by omega)
  have e5 : (a * d - b * c).natAbs < jF := zZ k1 (by decide)
  refine zH (zF (qf (zX (aej rfl rfl ⟨e1, sm (show w.natAbs < _ by omega)⟩ ⟨_, rfl, zo rfl ⟨_, rfl, ⟨e3, sm (show v.natAbs < _ by omega)⟩, ?_⟩⟩))))
  refine ⟨_, rfl, aej rfl rfl ⟨e5, by rw [anm]; exact e2⟩ ⟨_, rfl, zi ?_⟩⟩
  refine zH (zF (zX (aej rfl rfl ⟨by rw [anm]; exact e2, sm (show w.natAbs < _ by omega)⟩ ⟨_, rfl, zo rfl ⟨_, rfl, ⟨e4, sm (show v.natAbs < _ by omega)⟩, zi ?_⟩⟩)))
  have np : (Q.den : Int) * w * v = ((Q.den * w.toNat * v.toNat : Nat) : Int) := by
   rw [Int.natCast_mul, Int.natCast_mul, aqR (by omega), aqR (by omega)]
  have bp : 0 < Q.den * w.toNat * v.toNat := aq5 (aq5 dp (by omega)) (by omega)
  have bh : Q.den * w.toNat * v.toNat < jF := by
   refine zZ (m := (74 + 2) * n + 1 + 32 + 32) ?_ (by omega)
   rw [apF, apF]
   exact apz (apz n2 (by omega)) (by omega)
  rw [np]
  have eT : anC (Q.num * w * v + (a * d - b * c) * (Q.den : Int)) ((Q.den * w.toNat * v.toNat : Nat) : Int) = zJ ((jP ps).take (n + 1)) := by
   rw [stp, <- np, Int.mul_assoc, Int.mul_assoc, aa3 (by omega)]
  generalize Q.num * w * v + (a * d - b * c) * (Q.den : Int) = T at *
  generalize Q.den * w.toNat * v.toNat = B at *
  obtain ⟨s1, s2⟩ := short T B bp
  rw [eT] at s1 s2
  have gp : 0 < ao0 T.natAbs B := aqb _ bp
  have gle : ao0 T.natAbs B <= B := aqX bp (Nat.gcd_dvd_right _ _)
  have ha : (if T < 0 then -T else T) = (T.natAbs : Int) := by split <;> omega
  refine zH (zF (zp (T.natAbs, B) (zx (vD (acq rfl ⟨_, rfl, ?_⟩)))))
  rw [ha]
  refine zx (zo rfl (yh ⟨rfl, rfl, ?_⟩))
  rintro _ rfl
  have cd : ah8 T ((ao0 T.natAbs B : Nat) : Int) := ⟨by omega, by rw [anm]; omega⟩
  refine zi (ae1 (zx (aej rfl rfl cd (zx (aej rfl rfl cd (yh ⟨_, _, rfl, ?_⟩))))))
  dsimp only
  rw [s1, s2]
  exact ⟨_, _, _, _, _, _, _, _, _, rfl⟩
 ·rintro _ ⟨y6, y7, y8, y9, y10, y11, y12, y13, y14, rfl⟩
  rw [vM, aoR, mlp, show ps.length = (jP ps).length from ll.symm, anS]
  obtain ⟨n1, n2⟩ := acK (A := 74) (jP ps) lbd
  rw [ll] at n1 n2
  rw [qs] at *
  have dp := (zJ (prs ps)).den_pos
  have out : aiD ps = anC (((zJ (prs ps)).num.natAbs : Nat) : Int) ((2 * (zJ (prs ps)).den : Nat) : Int) := rfl
  rw [out]
  have bh : 2 * (zJ (prs ps)).den < jF := by
   refine zZ (m := (74 + 2) * ps.length + 1 + 1) ?_ (by omega)
   rw [aq1]
   omega
  have ha : (if (zJ (prs ps)).num < 0 then -(zJ (prs ps)).num else (zJ (prs ps)).num) = ((zJ (prs ps)).num.natAbs : Int) := by split <;> omega
  have c2 : CMulH 2 ((zJ (prs ps)).den : Int) := ⟨sm (by decide), by rw [anm]; omega⟩
  have e2 : (2 : Int) * ((zJ (prs ps)).den : Int) = ((2 * (zJ (prs ps)).den : Nat) : Int) := by omega
  obtain ⟨s1, s2⟩ := short ((zJ (prs ps)).num.natAbs : Int) (2 * (zJ (prs ps)).den) (by omega)
  rw [anm] at s1 s2
  have gp : 0 < ao0 (zJ (prs ps)).num.natAbs (2 * (zJ (prs ps)).den) := aqb _ (by omega)
  have gle : ao0 (zJ (prs ps)).num.natAbs (2 * (zJ (prs ps)).den) <= 2 * (zJ (prs ps)).den := aqX (by omega) (Nat.gcd_dvd_right _ _)
  have cd : ∀ T, ah8 T ((ao0 (zJ (prs ps)).num.natAbs (2 * (zJ (prs ps)).den) : Nat) : Int) := fun T => ⟨by omega, by rw [anm]; omega⟩
  refine zH (zF (zp ((zJ (prs ps)).num.natAbs, 2 * (zJ (prs ps)).den) (zx (vD (acq rfl ⟨_, rfl, ?_⟩)))))
  rw [ha]
  refine zx (zX (yt ⟨_, rfl, zo rfl ⟨_, rfl, c2, ?_⟩⟩))
  rw [e2]
  refine yh ⟨rfl, rfl, ?_⟩
  rintro _ rfl
  refine zi (yE (jI (zx (zX (vD (acq rfl ⟨_, rfl, ?_⟩))))))
  rw [ha]
  refine ⟨_, rfl, zo rfl ⟨_, rfl, cd _, zx (zX (zX (yt ⟨_, rfl, zo rfl ⟨_, rfl, c2, _, rfl, zo rfl ⟨_, rfl, cd _, yh ⟨_, rfl, by show 2 <= 1000; decide, ?_⟩⟩⟩⟩)))⟩⟩
  rw [e2]
  show PyData.tuple [.int _, .int _] = _
  dsimp only
  rw [s1, s2]
  rfl
end
open PySem PySem.Spec PyProof.Rows L2
theorem vB : bootBuiltins "ValueError" = some (.type "ValueError") := by kernel_rfl
theorem aiN (q : Rat) : (aaR q).canLay0 = true /\ (aaR q).depth <= 1 := ⟨rfl, amV 1⟩
section
variable {P : Program} {w : World} {K : amR} {mg : Str -> Option Value} {base : Heap} {k : Nat}
abbrev afV (K : amR) (C_NoRing : Addr) : Addr -> Sp := spM K 1 (fun a (x : XD) xs => xs = [.mon (jW K a (.ref C_NoRing) x)]) fun _ r => r = .bool true
theorem aiO {C_NoTable C_NoPoint C_NoGate C_NoRing C_TooSteep C_NoWeb C_NoBack C_NoText C_NoRow C_NoDeed : Addr} (F : Def K mg "_law_alone" jA ["_law_caught"]) (m_isinstance : mg "isinstance" = none) (m_any : mg "any" = none) (m_ValueError : mg "ValueError" = none)
  (m_NoTable : mg "NoTable" = some (.ref C_NoTable)) (m_NoPoint : mg "NoPoint" = some (.ref C_NoPoint)) (m_NoGate : mg "NoGate" = some (.ref C_NoGate)) (m_NoRing : mg "NoRing" = some (.ref C_NoRing)) (m_TooSteep : mg "TooSteep" = some (.ref C_TooSteep)) (m_NoWeb : mg "NoWeb" = some (.ref C_NoWeb)) (m_NoBack : mg "NoBack" = some (.ref C_NoBack)) (m_NoText : mg "NoText" = some (.ref C_NoText)) (m_NoRow : mg "NoRow" = some (.ref C_NoRow)) (m_NoDeed : mg "NoDeed" = some (.ref C_NoDeed))
  (w_NoRing : aai K C_NoRing = true) (kt0 : ang K (.ref C_NoRing) (.ref C_NoRing) = some true) (ktv : ang K (.ref C_NoRing) (.type "ValueError") = some true) (kt1 : ang K (.ref C_NoRing) (.ref C_NoPoint) = some false) (kt2 : ang K (.ref C_NoRing) (.ref C_NoGate) = some false) (kt3 : ang K (.ref C_NoRing) (.ref C_NoTable) = some false) (kt4 : ang K (.ref C_NoRing) (.ref C_TooSteep) = some false) (kt5 : ang K (.ref C_NoRing) (.ref C_NoWeb) = some false) (kt6 : ang K (.ref C_NoRing) (.ref C_NoBack) = some false) (kt7 : ang K (.ref C_NoRing) (.ref C_NoText) = some false) (kt8 : ang K (.ref C_NoRing) (.ref C_NoRow) = some false) (kt9 : ang K (.ref C_NoRing) (.ref C_NoDeed) = some false) :
  FnInM P w K mg base (k + 1) "_law_alone" ["_law_caught"] (afV K C_NoRing) := by
 have W := ajF w_NoRing
 refine F.okM sc_law_alone rfl fun fa cdv A outer s H ea hM hr => ⟨_, (zc (zE (i := 1) sc_law_alone.nd rfl (Or.inl rfl) (yz (za (zu (yx (K := K) rfl) rfl m_isinstance boot_isinstance (za (pv 0) (za (yI (v := .ref C_NoPoint) rfl m_NoPoint rfl) zb))) (za (zu (yx (K := K) rfl) rfl m_isinstance boot_isinstance (za (pv 0) (za (yI (v := .ref C_NoGate) rfl m_NoGate rfl) zb))) (za (zu (yx (K := K) rfl) rfl m_isinstance boot_isinstance (za (pv 0) (za (yI (v := .ref C_NoTable) rfl m_NoTable rfl) zb))) zb))))) (zc (zE (i := 1) sc_law_alone.nd rfl (Or.inl rfl) (zq (vg (K := K) rfl) (pv 1) (yz (za (zu (yx (K := K) rfl) rfl m_isinstance boot_isinstance (za (pv 0) (za (yI (v := .ref C_TooSteep) rfl m_TooSteep rfl) zb))) (za (zu (yx (K := K) rfl) rfl m_isinstance boot_isinstance (za (pv 0) (za (yI (v := .ref C_NoWeb) rfl m_NoWeb rfl) zb))) (za (zu (yx (K := K) rfl) rfl m_isinstance boot_isinstance (za (pv 0) (za (yI (v := .ref C_NoBack) rfl m_NoBack rfl) zb))) zb)))))) (zc (zE (i := 1) sc_law_alone.nd rfl (Or.inl rfl) (zq (vg (K := K) rfl) (pv 1) (yz (za (zu (yx (K := K) rfl) rfl m_isinstance boot_isinstance (za (pv 0) (za (yI (v := .ref C_NoText) rfl m_NoText rfl) zb))) (za (zu (yx (K := K) rfl) rfl m_isinstance boot_isinstance (za (pv 0) (za (yI (v := .ref C_NoRow) rfl m_NoRow rfl) zb))) (za (zu (yx (K := K) rfl) rfl m_isinstance boot_isinstance (za (pv 0) (za (yI (v := .ref C_NoDeed) rfl m_NoDeed rfl) zb))) zb)))))) (zj (zv (vC (zu (yx (K := K) rfl) rfl m_isinstance boot_isinstance (za (pv 0) (za (yI (v := .ref C_NoRing) rfl m_NoRing rfl) zb))) (vC (zu (yx (K := K) rfl) rfl m_isinstance boot_isinstance (za (pv 0) (za (aiS (v := .ty "ValueError") rfl m_ValueError vB rfl) zb))) (abS (agT (zu (agx (K := K) rfl hM) rfl m_any PyProof.Rows.boot_any (za (pv 1) zb))))))))))), ?_⟩
 rintro f xs x hl rfl
 try dsimp only [cxM, zM, zk]
 refine afq (fun ρ => ρ = [some (.mon (jW K ea (.ref C_NoRing) x)), some (.dat (.list [.bool false, .bool false, .bool false]))]) ?_ ?_
 ·repeat (first | walk_at "dl" | refine aef rfl W (by assumption) ?_)
  rfl
 rintro _ rfl
 refine afq (fun ρ => ρ = [some (.mon (jW K ea (.ref C_NoRing) x)), some (.dat (.list [.bool false, .bool false, .bool false, .bool false, .bool false, .bool false]))]) (zF (ab6 (zo rfl ⟨_, rfl, ?_⟩))) ?_
 ·repeat (first | walk_at "dl" | refine aef rfl W (by assumption) ?_)
  rfl
 rintro _ rfl
 refine afq (fun ρ => ρ = [some (.mon (jW K ea (.ref C_NoRing) x)), some (.dat (.list [.bool false, .bool false, .bool false, .bool false, .bool false, .bool false, .bool false, .bool false, .bool false]))]) (zF (ab6 (zo rfl ⟨_, rfl, ?_⟩))) ?_
 ·repeat (first | walk_at "dl" | refine aef rfl W (by assumption) ?_)
  rfl
 rintro _ rfl
 refine yE (aaD (ah5 rfl W (.inr ⟨_, rfl, kt0⟩) ⟨true, rfl, ?_⟩))
 rw [if_pos rfl]
 refine aaD (ah5 rfl W (.inl ⟨_, rfl, ktv⟩) ⟨true, rfl, ?_⟩)
 rw [if_pos rfl]
 refine ad2 (alK (j := 0) rfl (zo rfl ⟨[false, false, false, false, false, false, false, false, false], rfl, ?_⟩))
 exact ⟨_, rfl, rfl⟩
abbrev aiP (K : amR) : Sp := spD K 3 aiI fun c r => r = if c.2.2.2.1 = true then aaR (abP c.1 c.2.2.1 c.2.2.2.2) else .str "no ring"
theorem ake {C_NoRing C_HeightError : Addr} (F : Def K mg "_law_told" qb ["_law_rows", "_law_cut_here", "_law_line"]) (m_HeightError : mg "HeightError" = some (.ref C_HeightError)) (eh : apo K (.ref C_NoRing) (.ref C_HeightError) = some true)
  (G : FnInF P w K mg base k "ring_area" ["rows", "cut", "line"] (aiJ K C_NoRing)) (G__law_alone : FnInM P w K mg base k "_law_alone" ["_law_caught"] (afV K C_NoRing)) : FnIn P w K mg base (k + 1) "_law_told" ["_law_rows", "_law_cut_here", "_law_line"] (aiP K) := by
 obtain ⟨fg, fgd, X1_ring_area, X2_ring_area, X3_ring_area, X4_ring_area⟩ := G.ex
 refine F.ok sc_law_told rfl fun fa cdv A outer s H E hr => ⟨_, (zc (ajE (j := 4) (alG (i := 3) X1_ring_area hr rfl X2_ring_area X3_ring_area X4_ring_area (za (pv 0) (za (pv 1) (za (pv 2) zb))) sc_law_told.nd rfl (Or.inl rfl) (Or.inl rfl) zR) sc_law_told.nd rfl rfl rfl rfl rfl m_HeightError (fun _ => (zc (zE (i := 3) sc_law_told.nd rfl (Or.inl rfl) yR) (zj (yC (yu (K := K) rfl (ah6 G__law_alone hr rfl (za (pv 4) zb)) (fun _ => rfl)) (zj (zE (i := 3) sc_law_told.nd rfl (Or.inl rfl) yR)) zR))))) (zj (zv (pv 3)))), ?_⟩
 rintro f xs ⟨rows, wd, cut, ring, l⟩ hl ⟨rfl, g, L⟩
 try dsimp only [zM, zk]
 dsimp only at *
 refine zH (alI (amz (rows, wd, cut, ring, l) (abb rfl rfl rfl ⟨rfl, ⟨rfl, g, L⟩, ?_, ?_⟩)))
 ·rintro _ ⟨hr1, rfl⟩
  dsimp only at hr1
  refine qh (yE (zo rfl ?_))
  dsimp only
  rw [if_pos hr1]
 ·rintro _ _ ⟨hr1, rfl, rfl⟩
  dsimp only at hr1
  refine ⟨eh, fun a => ?_⟩
  refine zH (zF (qO (zi ?_)))
  refine v9 (qg (zp none (amu (v_var rfl (yh ⟨rfl, rfl, ?_⟩)))))
  rintro _ rfl
  refine ⟨true, rfl, ?_⟩
  rw [if_pos rfl]
  refine zF (qO (zi (yE (zo rfl ?_))))
  rw [hr1]
  rfl
theorem al4 {f : Addr} {fd : FuncData} (F : Fun K "law" "law" vZ f fd) (m_len : mg "len" = none) (m_range : mg "range" = none) (m_max : mg "max" = none) (m_min : mg "min" = none) (m_list : mg "list" = none)
  (G__law_feed : FnIn P w K mg base k "_law_feed" ["_law_script", "_law_k"] (aeD K)) (G__law_table : FnIn P w K mg base k "_law_table" ["_law_feed_here"] (afw K)) (G__law_cut : FnIn P w K mg base k "_law_cut" ["_law_feed_here", "_law_rows"] (akC K)) (G_lines : FnIn P w K mg base k "lines" ["rows", "cut"] (afO K)) (G__law_due : FnIn P w K mg base k "_law_due" ["_law_rows", "_law_cut_here", "_law_line"] (aiM K)) (G__law_told : FnIn P w K mg base k "_law_told" ["_law_rows", "_law_cut_here", "_law_line"] (aiP K)) :
  FnOk P w K mg base CX0 (k + 1) f fd ["_law_script"] (afQ K) := by
 refine F.ok sc_law (fun vs H Q E h => ?_) fun cdv A outer s H vs Q E hr hs => ⟨_, (zc (jS anK rfl (yL rfl m_range (za (zu (af0 rfl) rfl m_max boot_max (za zg (za (zu (abk rfl) rfl m_min boot_min (za zg (za (zu (yi (K := K) rfl) rfl m_len anW (za (pv 0) zb)) zb))) zb))) zb)) (zd (i := 1) sc_law.nd rfl (Or.inl rfl) (Or.inr rfl)) (zc (zE (i := 2) sc_law.nd rfl (Or.inl rfl) (ze G__law_feed hr rfl (za (pv 0) (za (pv 1) zb)))) (zc (zE (i := 3) sc_law.nd rfl (Or.inl rfl) (ze G__law_table hr rfl (za (pv 2) zb))) (zc (zE (i := 4) sc_law.nd rfl (Or.inl rfl) (ze G__law_cut hr rfl (za (pv 2) (za (pv 3) zb)))) (zc (ql (i := 5) (N := ["_law_row"]) (own := 1) (fr := []) ⟨rfl, by decide +kernel, of_decide_eq_true (by kernel_rfl), of_decide_eq_true (by kernel_rfl), of_decide_eq_true (by kernel_rfl), rfl⟩ rfl sc_law.nd rfl (Or.inl rfl) (yj (K := K) rfl (pv 3)) (fun _ _ _ _ => (zd (i := 0) (show (["_law_row"] : List Str).Nodup by decide +kernel) rfl (Or.inl rfl) (Or.inr rfl))) (fun _ _ _ _ => yr) (fun _ _ _ _ => (abr (ad4 (K := K) rfl) rfl m_list PyProof.Rows.boot_list (za (pv 0) zb))) rfl rfl (fun _ => rfl) (Or.inl rfl) rfl) (zj (jS anK rfl (yj (K := K) rfl (ze G_lines hr rfl (za (pv 3) (za (pv 4) zb)))) (zd (i := 6) sc_law.nd rfl (Or.inl rfl) (Or.inr rfl)) (zj (yC (zW (aaF (K := K) rfl hr.units) (z6 (jn (K := K) rfl) (pv 6) zg (fun _ _ => rfl)) yR (z7 _)) (zc (zE (i := 7) sc_law.nd rfl (Or.inl rfl) (ze G__law_due hr rfl (za (pv 3) (za (pv 4) (za (pv 6) zb))))) (zj (jS anK rfl (yL rfl m_range (za zg zb)) (zd (i := 8) sc_law.nd rfl (Or.inl rfl) (Or.inr rfl)) (zj (yC (PW.pt (akg (zW (qU (K := K) rfl hr.units) (ze G__law_told hr rfl (za (pv 3) (za (pv 4) (za (pv 6) zb)))) (pv 7) (z7 _)) (agS (zW (qU (K := K) rfl hr.units) (pv 3) (pv 5) (z7 _))))) (zj (zv abi)) zR))))) (zj (yC (zW (qU (K := K) rfl hr.units) (ze G__law_told hr rfl (za (pv 3) (za (pv 4) (za (pv 6) zb)))) yR (z7 _)) (zj (zv abi)) zR))))))))))) (zj (zv abi))), ?_⟩
 ·obtain ⟨a, ns, rfl, _⟩ := h
  rfl
 obtain ⟨a, ns, rfl, hS, h63, q⟩ := hs
 have e0 : EnvOk K L2.f0 (jE afv [.dat (scr ns)]) (start afv [.ref a]) H := jc (.cons (afP hS) .nil) (L2.fok0 H)
 suffices h : PSd K L2.f0 _ (jE afv [.dat (scr ns)]) { nx := fun _ => False, rt := fun d => d = .bool true } from
  h _ H _ e0 (fun _ _ _ _ _ z => z.elim) (fun d v H' _ r z => by
   subst z
   rw [rep_bool.mp r]
   exact q H') (fun _ _ _ _ _ z => z) (fun _ _ _ _ _ z => z)
 refine zH (ac2 (ve (aj8 (R := fun xs => ∃ j : Int, xs = [.dat (.int j)] /\ 0 <= j /\ j <= 63) ?_ ?_)))
 ·repeat walk_at "dl"
  rw [amT]
  split <;> split <;> omega
 rintro _ ⟨j, rfl, j0, j1⟩
 refine ⟨j, rfl, by omega, by omega, fun i ρ => ∃ x1 x2 x3 x4 x5 x6 x7 x8, ρ = [some (.dat (scr ns)), x1, x2, x3, x4, x5, x6, x7, x8], ⟨_, _, _, _, _, _, _, _, rfl⟩, ?_, ?_⟩
 ·rintro i d _ hi ⟨x1, x2, x3, x4, x5, x6, x7, x8, rfl⟩
  obtain ⟨hi, rfl⟩ := qt hi
  refine zi (ale (al0 rfl rfl h63 (by omega) (by omega)) fun p => ?_)
  refine zH (zF (zp () ?_))
  repeat walk_at "dl"
  rintro _ ⟨wd, rows, rfl, g⟩
  have g1 := g.h1
  have g2 := g.h2
  obtain ⟨lt, dt⟩ := ajX rows
  refine zi (zH (zF (zp (rows, wd) ?_)))
  repeat walk_at "dl"
  rintro _ ⟨ct, rfl, _, _⟩
  refine zi (zH (zF (al1 rfl (by omega) (zi ?_))))
  refine ac2 (yN (PEdO.ped (ab7 (rows, wd, ct) (ajG rfl rfl ⟨rfl, ⟨rfl, g⟩, ?_⟩))))
  rintro _ ⟨ts, rfl, T, aT, pT⟩
  dsimp only at T
  refine ⟨_, rfl, fun n ρ => ∃ y6 y7 y8, ρ = [some (.dat (scr ns)), some (.dat (.int i)), some .feed, some (.dat (tab rows)), some (.dat (.int ct)), some (.dat (tab rows)), y6, y7, y8], ⟨_, _, _, rfl⟩, ?_, fun ρ ⟨y6, y7, y8, e⟩ => by subst e; exact ⟨_, _, _, _, _, _, _, _, rfl⟩⟩
  rintro n d _ hd ⟨y6, y7, y8, rfl⟩
  rw [am1] at hd
  cases et : ts[n]? with
  | none => rw [et] at hd; cases hd
  | some t =>
   rw [et] at hd
   cases hd
   have mt := ana et
   have L := T.line t mt
   obtain ⟨ring, l⟩ := t
   dsimp only at L
   cases ring with
   | true =>
    refine zi (v9 (yA (jH (abv (zo rfl ⟨_, rfl, yt ⟨_, rfl, .str "ring", rfl, qO ⟨by decide +kernel, by decide +kernel, by show min 0 0 <= 60; decide, _, rfl, ?_⟩⟩⟩)))))
    rw [if_neg amQ, show anl (.str "ring") (.str (aou "ring")) = true by decide +kernel, if_pos rfl]
    refine zH (zF (zp (rows, wd, ct, true, l) (abb rfl rfl rfl ⟨rfl, ⟨⟨rfl, g, L⟩, rfl⟩, ?_⟩)))
    rintro _ rfl
    refine zi (ac2 (ve (zx (yt (yh ⟨_, rfl, by decide, by decide, fun n ρ => ∃ y8, ρ = [some (.dat (scr ns)), some (.dat (.int i)), some .feed, some (.dat (tab rows)), some (.dat (.int ct)), some (.dat (tab rows)), some (.dat (yW (true, l))), some (.dat (aaR (abP rows ct l))), y8], ⟨_, rfl⟩, ?_, fun ρ ⟨y8, e⟩ => by subst e; exact ⟨_, _, _, rfl⟩⟩)))))
    rintro m d _ hd ⟨y8, rfl⟩
    obtain ⟨_, rfl⟩ := qt hd
    refine zi (v9 (ak8 (yA (jH (zp (rows, wd, ct, true, l) (abb rfl rfl rfl ⟨rfl, ⟨rfl, g, L⟩, ?_⟩))))))
    rintro _ rfl
    obtain ⟨l1, l2⟩ := aiN (abP rows ct l)
    refine zo rfl ⟨l1, l1, ank (Nat.min_le_left _ _) (ank l2 (by decide)), _, rfl, ?_⟩
    dsimp only
    rw [if_pos rfl, if_pos rfl, aqD _ l1, anB, if_neg amQ]
    refine yA (jH (zo rfl (zo rfl ⟨lt, lt, ank (Nat.min_le_left _ _) dt, _, rfl, ?_⟩)))
    rw [if_pos rfl, aqD _ lt, anB, if_neg amQ]
    exact qh ⟨_, rfl⟩
   | false =>
    refine zi (v9 (yA (jH (abv (zo rfl ⟨_, rfl, yt ⟨_, rfl, .str "run", rfl, qO ⟨by decide +kernel, by decide +kernel, by show min 0 0 <= 60; decide, _, rfl, ?_⟩⟩⟩)))))
    rw [if_neg amQ, show anl (.str "run") (.str (aou "ring")) = false by decide +kernel, if_neg amQ]
    refine v9 (yA (jH (zp (rows, wd, ct, false, l) (abb rfl rfl rfl ⟨rfl, ⟨rfl, g, L⟩, ?_⟩))))
    rintro _ rfl
    refine qO ⟨by show (PyData.str "no ring").canLay0 = true; decide +kernel, by decide +kernel, by show min 0 0 <= 60; decide, _, rfl, ?_⟩
    rw [if_pos rfl]
    dsimp only
    rw [if_neg amQ, show anl (.str "no ring") (.str (aou "no ring")) = true by decide +kernel, anB, if_neg amQ]
    exact qh ⟨_, _, _, rfl⟩
 ·rintro _ ⟨x1, x2, x3, x4, x5, x6, x7, x8, rfl⟩
  repeat walk_at "dl"
  rfl
end
open PySem PySem.Spec PyProof.Rows L2
theorem all_mk {l : PySem.W.OpenLaw} {w : World} {K : amR} {h : Heap} {mg : Str -> Option Value} {fa : Addr} (X : K.In h) (G : h.Ns mainGlobals mg) (hfa : mg "law" = some (.ref fa))
  {f1 : Addr} {od1 an1 : Option Addr} {sl1 : Array (Option Value)} {oc1 kV1 dc1 pm1 cd1 ct1 : Value} (a1 : FD K "size" acr f1 od1 an1 sl1 oc1 kV1 dc1 pm1 cd1 ct1)
  {f2 : Addr} {od2 an2 : Option Addr} {sl2 : Array (Option Value)} {oc2 kV2 dc2 pm2 cd2 ct2 : Value} (a2 : FD K "points" vq f2 od2 an2 sl2 oc2 kV2 dc2 pm2 cd2 ct2)
  {f3 : Addr} {od3 an3 : Option Addr} {sl3 : Array (Option Value)} {oc3 kV3 dc3 pm3 cd3 ct3 : Value} (a3 : FD K "has_point" jt f3 od3 an3 sl3 oc3 kV3 dc3 pm3 cd3 ct3)
  {f4 : Addr} {od4 an4 : Option Addr} {sl4 : Array (Option Value)} {oc4 kV4 dc4 pm4 cd4 ct4 : Value} (a4 : FD K "has_cell" jX f4 od4 an4 sl4 oc4 kV4 dc4 pm4 cd4 ct4)
  {f5 : Addr} {od5 an5 : Option Addr} {sl5 : Array (Option Value)} {oc5 kV5 dc5 pm5 cd5 ct5 : Value} (a5 : FD K "corners" qA f5 od5 an5 sl5 oc5 kV5 dc5 pm5 cd5 ct5)
  {f6 : Addr} {od6 an6 : Option Addr} {sl6 : Array (Option Value)} {oc6 kV6 dc6 pm6 cd6 ct6 : Value} (a6 : FD K "common" vt f6 od6 an6 sl6 oc6 kV6 dc6 pm6 cd6 ct6)
  {f7 : Addr} {od7 an7 : Option Addr} {sl7 : Array (Option Value)} {oc7 kV7 dc7 pm7 cd7 ct7 : Value} (a7 : FD K "shortened" ju f7 od7 an7 sl7 oc7 kV7 dc7 pm7 cd7 ct7)
  {f8 : Addr} {od8 an8 : Option Addr} {sl8 : Array (Option Value)} {oc8 kV8 dc8 pm8 cd8 ct8 : Value} (a8 : FD K "total" aaj f8 od8 an8 sl8 oc8 kV8 dc8 pm8 cd8 ct8)
  {f9 : Addr} {od9 an9 : Option Addr} {sl9 : Array (Option Value)} {oc9 kV9 dc9 pm9 cd9 ct9 : Value} (a9 : FD K "ask_table" jv f9 od9 an9 sl9 oc9 kV9 dc9 pm9 cd9 ct9)
  {f10 : Addr} {od10 an10 : Option Addr} {sl10 : Array (Option Value)} {oc10 kV10 dc10 pm10 cd10 ct10 : Value} (a10 : FD K "fits" acs f10 od10 an10 sl10 oc10 kV10 dc10 pm10 cd10 ct10)
  {f11 : Addr} {od11 an11 : Option Addr} {sl11 : Array (Option Value)} {oc11 kV11 dc11 pm11 cd11 ct11 : Value} (a11 : FD K "is_row" vw f11 od11 an11 sl11 oc11 kV11 dc11 pm11 cd11 ct11)
  {f12 : Addr} {od12 an12 : Option Addr} {sl12 : Array (Option Value)} {oc12 kV12 dc12 pm12 cd12 ct12 : Value} (a12 : FD K "gates" aak f12 od12 an12 sl12 oc12 kV12 dc12 pm12 cd12 ct12)
  {f13 : Addr} {od13 an13 : Option Addr} {sl13 : Array (Option Value)} {oc13 kV13 dc13 pm13 cd13 ct13 : Value} (a13 : FD K "ask_gate" jY f13 od13 an13 sl13 oc13 kV13 dc13 pm13 cd13 ct13)
  {f14 : Addr} {od14 an14 : Option Addr} {sl14 : Array (Option Value)} {oc14 kV14 dc14 pm14 cd14 ct14 : Value} (a14 : FD K "stands_high" yO f14 od14 an14 sl14 oc14 kV14 dc14 pm14 cd14 ct14)
  {f15 : Addr} {od15 an15 : Option Addr} {sl15 : Array (Option Value)} {oc15 kV15 dc15 pm15 cd15 ct15 : Value} (a15 : FD K "gate_points" yP f15 od15 an15 sl15 oc15 kV15 dc15 pm15 cd15 ct15)
  {f16 : Addr} {od16 an16 : Option Addr} {sl16 : Array (Option Value)} {oc16 kV16 dc16 pm16 cd16 ct16 : Value} (a16 : FD K "has_gate" jZ f16 od16 an16 sl16 oc16 kV16 dc16 pm16 cd16 ct16)
  {f17 : Addr} {od17 an17 : Option Addr} {sl17 : Array (Option Value)} {oc17 kV17 dc17 pm17 cd17 ct17 : Value} (a17 : FD K "is_open" qB f17 od17 an17 sl17 oc17 kV17 dc17 pm17 cd17 ct17)
  {f18 : Addr} {od18 an18 : Option Addr} {sl18 : Array (Option Value)} {oc18 kV18 dc18 pm18 cd18 ct18 : Value} (a18 : FD K "cell_gates" yX f18 od18 an18 sl18 oc18 kV18 dc18 pm18 cd18 ct18)
  {f19 : Addr} {od19 an19 : Option Addr} {sl19 : Array (Option Value)} {oc19 kV19 dc19 pm19 cd19 ct19 : Value} (a19 : FD K "is_crossed" yY f19 od19 an19 sl19 oc19 kV19 dc19 pm19 cd19 ct19)
  {f20 : Addr} {od20 an20 : Option Addr} {sl20 : Array (Option Value)} {oc20 kV20 dc20 pm20 cd20 ct20 : Value} (a20 : FD K "has_high_middle" yv f20 od20 an20 sl20 oc20 kV20 dc20 pm20 cd20 ct20)
  {f21 : Addr} {od21 an21 : Option Addr} {sl21 : Array (Option Value)} {oc21 kV21 dc21 pm21 cd21 ct21 : Value} (a21 : FD K "cell_ties" jw f21 od21 an21 sl21 oc21 kV21 dc21 pm21 cd21 ct21)
  {f22 : Addr} {od22 an22 : Option Addr} {sl22 : Array (Option Value)} {oc22 kV22 dc22 pm22 cd22 ct22 : Value} (a22 : FD K "crossed_ties" yK f22 od22 an22 sl22 oc22 kV22 dc22 pm22 cd22 ct22)
  {f23 : Addr} {od23 an23 : Option Addr} {sl23 : Array (Option Value)} {oc23 kV23 dc23 pm23 cd23 ct23 : Value} (a23 : FD K "heading" qC f23 od23 an23 sl23 oc23 kV23 dc23 pm23 cd23 ct23)
  {f24 : Addr} {od24 an24 : Option Addr} {sl24 : Array (Option Value)} {oc24 kV24 dc24 pm24 cd24 ct24 : Value} (a24 : FD K "cell_ahead" yZ f24 od24 an24 sl24 oc24 kV24 dc24 pm24 cd24 ct24)
  {f25 : Addr} {od25 an25 : Option Addr} {sl25 : Array (Option Value)} {oc25 kV25 dc25 pm25 cd25 ct25 : Value} (a25 : FD K "comes_in" j7 f25 od25 an25 sl25 oc25 kV25 dc25 pm25 cd25 ct25)
  {f26 : Addr} {od26 an26 : Option Addr} {sl26 : Array (Option Value)} {oc26 kV26 dc26 pm26 cd26 ct26 : Value} (a26 : FD K "gate_ahead" y3 f26 od26 an26 sl26 oc26 kV26 dc26 pm26 cd26 ct26)
  {f27 : Addr} {od27 an27 : Option Addr} {sl27 : Array (Option Value)} {oc27 kV27 dc27 pm27 cd27 ct27 : Value} (a27 : FD K "place" aal f27 od27 an27 sl27 oc27 kV27 dc27 pm27 cd27 ct27)
  {f28 : Addr} {od28 an28 : Option Addr} {sl28 : Array (Option Value)} {oc28 kV28 dc28 pm28 cd28 ct28 : Value} (a28 : FD K "place_of" j8 f28 od28 an28 sl28 oc28 kV28 dc28 pm28 cd28 ct28)
  {f29 : Addr} {od29 an29 : Option Addr} {sl29 : Array (Option Value)} {oc29 kV29 dc29 pm29 cd29 ct29 : Value} (a29 : FD K "share" aam f29 od29 an29 sl29 oc29 kV29 dc29 pm29 cd29 ct29)
  {f30 : Addr} {od30 an30 : Option Addr} {sl30 : Array (Option Value)} {oc30 kV30 dc30 pm30 cd30 ct30 : Value} (a30 : FD K "lines" aan f30 od30 an30 sl30 oc30 kV30 dc30 pm30 cd30 ct30)
  {f31 : Addr} {od31 an31 : Option Addr} {sl31 : Array (Option Value)} {oc31 kV31 dc31 pm31 cd31 ct31 : Value} (a31 : FD K "line_from" jx f31 od31 an31 sl31 oc31 kV31 dc31 pm31 cd31 ct31)
  {f32 : Addr} {od32 an32 : Option Addr} {sl32 : Array (Option Value)} {oc32 kV32 dc32 pm32 cd32 ct32 : Value} (a32 : FD K "ring_area" jy f32 od32 an32 sl32 oc32 kV32 dc32 pm32 cd32 ct32)
  {f33 : Addr} {od33 an33 : Option Addr} {sl33 : Array (Option Value)} {oc33 kV33 dc33 pm33 cd33 ct33 : Value} (a33 : FD K "field_area" y4 f33 od33 an33 sl33 oc33 kV33 dc33 pm33 cd33 ct33)
  {f34 : Addr} {od34 an34 : Option Addr} {sl34 : Array (Option Value)} {oc34 kV34 dc34 pm34 cd34 ct34 : Value} (a34 : FD K "_law_feed" j9 f34 od34 an34 sl34 oc34 kV34 dc34 pm34 cd34 ct34)
  {f35 : Addr} {od35 an35 : Option Addr} {sl35 : Array (Option Value)} {oc35 kV35 dc35 pm35 cd35 ct35 : Value} (a35 : FD K "_law_draw" qa f35 od35 an35 sl35 oc35 kV35 dc35 pm35 cd35 ct35)
  {f36 : Addr} {od36 an36 : Option Addr} {sl36 : Array (Option Value)} {oc36 kV36 dc36 pm36 cd36 ct36 : Value} (a36 : FD K "_law_height" ja f36 od36 an36 sl36 oc36 kV36 dc36 pm36 cd36 ct36)
  {f37 : Addr} {od37 an37 : Option Addr} {sl37 : Array (Option Value)} {oc37 kV37 dc37 pm37 cd37 ct37 : Value} (a37 : FD K "_law_table" jz f37 od37 an37 sl37 oc37 kV37 dc37 pm37 cd37 ct37)
  {f38 : Addr} {od38 an38 : Option Addr} {sl38 : Array (Option Value)} {oc38 kV38 dc38 pm38 cd38 ct38 : Value} (a38 : FD K "_law_cut" qD f38 od38 an38 sl38 oc38 kV38 dc38 pm38 cd38 ct38)
  {f39 : Addr} {od39 an39 : Option Addr} {sl39 : Array (Option Value)} {oc39 kV39 dc39 pm39 cd39 ct39 : Value} (a39 : FD K "_law_common" jb f39 od39 an39 sl39 oc39 kV39 dc39 pm39 cd39 ct39)
  {f40 : Addr} {od40 an40 : Option Addr} {sl40 : Array (Option Value)} {oc40 kV40 dc40 pm40 cd40 ct40 : Value} (a40 : FD K "_law_due" qE f40 od40 an40 sl40 oc40 kV40 dc40 pm40 cd40 ct40)
  {f41 : Addr} {od41 an41 : Option Addr} {sl41 : Array (Option Value)} {oc41 kV41 dc41 pm41 cd41 ct41 : Value} (a41 : FD K "_law_alone" jA f41 od41 an41 sl41 oc41 kV41 dc41 pm41 cd41 ct41)
  {f42 : Addr} {od42 an42 : Option Addr} {sl42 : Array (Option Value)} {oc42 kV42 dc42 pm42 cd42 ct42 : Value} (a42 : FD K "_law_told" qb f42 od42 an42 sl42 oc42 kV42 dc42 pm42 cd42 ct42)
  {f43 : Addr} {od43 an43 : Option Addr} {sl43 : Array (Option Value)} {oc43 kV43 dc43 pm43 cd43 ct43 : Value} (a43 : FD K "law" vZ f43 od43 an43 sl43 oc43 kV43 dc43 pm43 cd43 ct43)
  {tk_FEWEST : Tok} (g_FEWEST : anf K mainGlobals "FEWEST" = some (some (.int (2) tk_FEWEST)))
  {tk_MOST : Tok} (g_MOST : anf K mainGlobals "MOST" = some (some (.int (7) tk_MOST)))
  {tk_LEAST : Tok} (g_LEAST : anf K mainGlobals "LEAST" = some (some (.int (-1000000000) tk_LEAST)))
  {tk_GREATEST : Tok} (g_GREATEST : anf K mainGlobals "GREATEST" = some (some (.int (1000000000) tk_GREATEST)))
  (z_len : anf K mainGlobals "len" = some none)
  (z_min : anf K mainGlobals "min" = some none)
  (z_max : anf K mainGlobals "max" = some none)
  (z_enumerate : anf K mainGlobals "enumerate" = some none)
  (z_range : anf K mainGlobals "range" = some none)
  (z_all : anf K mainGlobals "all" = some none)
  (z_sum : anf K mainGlobals "sum" = some none)
  (z_tuple : anf K mainGlobals "tuple" = some none)
  (z_set : anf K mainGlobals "set" = some none)
  (z_sorted : anf K mainGlobals "sorted" = some none)
  (z_abs : anf K mainGlobals "abs" = some none)
  (z_zip : anf K mainGlobals "zip" = some none)
  (z_isinstance : anf K mainGlobals "isinstance" = some none)
  (z_any : anf K mainGlobals "any" = some none)
  (z_ValueError : anf K mainGlobals "ValueError" = some none)
  (z_list : anf K mainGlobals "list" = some none)
  {C_AHEAD : Addr} (cG_AHEAD : anf K mainGlobals "AHEAD" = some (some (.ref C_AHEAD)))
  {C_BEHIND : Addr} (cG_BEHIND : anf K mainGlobals "BEHIND" = some (some (.ref C_BEHIND)))
  {C_NoRing : Addr} (cG_NoRing : anf K mainGlobals "NoRing" = some (some (.ref C_NoRing)))
  {C_NoTable : Addr} (cG_NoTable : anf K mainGlobals "NoTable" = some (some (.ref C_NoTable)))
  {C_NoPoint : Addr} (cG_NoPoint : anf K mainGlobals "NoPoint" = some (some (.ref C_NoPoint)))
  {C_NoGate : Addr} (cG_NoGate : anf K mainGlobals "NoGate" = some (some (.ref C_NoGate)))
  {C_TooSteep : Addr} (cG_TooSteep : anf K mainGlobals "TooSteep" = some (some (.ref C_TooSteep)))
  {C_NoWeb : Addr} (cG_NoWeb : anf K mainGlobals "NoWeb" = some (some (.ref C_NoWeb)))
  {C_NoBack : Addr} (cG_NoBack : anf K mainGlobals "NoBack" = some (some (.ref C_NoBack)))
  {C_NoText : Addr} (cG_NoText : anf K mainGlobals "NoText" = some (some (.ref C_NoText)))
  {C_NoRow : Addr} (cG_NoRow : anf K mainGlobals "NoRow" = some (some (.ref C_NoRow)))
  {C_NoDeed : Addr} (cG_NoDeed : anf K mainGlobals "NoDeed" = some (some (.ref C_NoDeed)))
  {C_HeightError : Addr} (cG_HeightError : anf K mainGlobals "HeightError" = some (some (.ref C_HeightError)))
  (tab_AHEAD : agt K C_AHEAD alT = true)
  (tab_BEHIND : agt K C_BEHIND ain = true)
  (x_NoRing : apA K C_NoRing [.type "ValueError", .type "Exception", .type "BaseException", .type "object"] "ValueError.__new__" = true)
  (w_NoRing : aai K C_NoRing = true)
  (kt0 : ang K (.ref C_NoRing) (.ref C_NoRing) = some true)
  (ktv : ang K (.ref C_NoRing) (.type "ValueError") = some true)
  (kt1 : ang K (.ref C_NoRing) (.ref C_NoPoint) = some false)
  (kt2 : ang K (.ref C_NoRing) (.ref C_NoGate) = some false)
  (kt3 : ang K (.ref C_NoRing) (.ref C_NoTable) = some false)
  (kt4 : ang K (.ref C_NoRing) (.ref C_TooSteep) = some false)
  (kt5 : ang K (.ref C_NoRing) (.ref C_NoWeb) = some false)
  (kt6 : ang K (.ref C_NoRing) (.ref C_NoBack) = some false)
  (kt7 : ang K (.ref C_NoRing) (.ref C_NoText) = some false)
  (kt8 : ang K (.ref C_NoRing) (.ref C_NoRow) = some false)
  (kt9 : ang K (.ref C_NoRing) (.ref C_NoDeed) = some false)
  (eh : apo K (.ref C_NoRing) (.ref C_HeightError) = some true) :
  ∃ fd : FuncData, (∀ (s : Shared) (v : Value), BindsTo s fd ⟨[v], []⟩ [("_law_script", v)]) /\ ∀ base : Heap, K.In base -> base.Ns mainGlobals mg -> FnOk l.prog w K mg base CX0 10 fa fd ["_law_script"] (afQ K) := by
 have F_size : Def K mg "size" acr ["rows"] := yd X G a1 (fun _ _ _ _ _ _ us hl => match us, hl with | [_], _ => rfl)
 have F_points : Def K mg "points" vq ["rows"] := yd X G a2 (fun _ _ _ _ _ _ us hl => match us, hl with | [_], _ => rfl)
 have F_has_point : Def K mg "has_point" jt ["rows", "x", "y"] := yd X G a3 (fun _ _ _ _ _ _ us hl => match us, hl with | [_, _, _], _ => rfl)
 have F_has_cell : Def K mg "has_cell" jX ["rows", "x", "y"] := yd X G a4 (fun _ _ _ _ _ _ us hl => match us, hl with | [_, _, _], _ => rfl)
 have F_corners : Def K mg "corners" qA ["x", "y"] := yd X G a5 (fun _ _ _ _ _ _ us hl => match us, hl with | [_, _], _ => rfl)
 have F_common : Def K mg "common" vt ["one", "other"] := yd X G a6 (fun _ _ _ _ _ _ us hl => match us, hl with | [_, _], _ => rfl)
 have F_shortened : Def K mg "shortened" ju ["top", "bottom"] := yd X G a7 (fun _ _ _ _ _ _ us hl => match us, hl with | [_, _], _ => rfl)
 have F_total : Def K mg "total" aaj ["some"] := yd X G a8 (fun _ _ _ _ _ _ us hl => match us, hl with | [_], _ => rfl)
 have F_ask_table : Def K mg "ask_table" jv ["rows"] := yd X G a9 (fun _ _ _ _ _ _ us hl => match us, hl with | [_], _ => rfl)
 have F_fits : Def K mg "fits" acs ["things"] := yd X G a10 (fun _ _ _ _ _ _ us hl => match us, hl with | [_], _ => rfl)
 have F_is_row : Def K mg "is_row" vw ["row"] := yd X G a11 (fun _ _ _ _ _ _ us hl => match us, hl with | [_], _ => rfl)
 have F_gates : Def K mg "gates" aak ["rows", "cut"] := yd X G a12 (fun _ _ _ _ _ _ us hl => match us, hl with | [_, _], _ => rfl)
 have F_ask_gate : Def K mg "ask_gate" jY ["rows", "cut", "gate"] := yd X G a13 (fun _ _ _ _ _ _ us hl => match us, hl with | [_, _, _], _ => rfl)
 have F_stands_high : Def K mg "stands_high" yO ["rows", "cut", "point"] := yd X G a14 (fun _ _ _ _ _ _ us hl => match us, hl with | [_, _, _], _ => rfl)
 have F_gate_points : Def K mg "gate_points" yP ["gate"] := yd X G a15 (fun _ _ _ _ _ _ us hl => match us, hl with | [_], _ => rfl)
 have F_has_gate : Def K mg "has_gate" jZ ["rows", "gate"] := yd X G a16 (fun _ _ _ _ _ _ us hl => match us, hl with | [_, _], _ => rfl)
 have F_is_open : Def K mg "is_open" qB ["rows", "cut", "gate"] := yd X G a17 (fun _ _ _ _ _ _ us hl => match us, hl with | [_, _, _], _ => rfl)
 have F_cell_gates : Def K mg "cell_gates" yX ["cell"] := yd X G a18 (fun _ _ _ _ _ _ us hl => match us, hl with | [_], _ => rfl)
 have F_is_crossed : Def K mg "is_crossed" yY ["rows", "cut", "cell"] := yd X G a19 (fun _ _ _ _ _ _ us hl => match us, hl with | [_, _, _], _ => rfl)
 have F_has_high_middle : Def K mg "has_high_middle" yv ["rows", "cut", "cell"] := yd X G a20 (fun _ _ _ _ _ _ us hl => match us, hl with | [_, _, _], _ => rfl)
 have F_cell_ties : Def K mg "cell_ties" jw ["rows", "cut", "cell"] := yd X G a21 (fun _ _ _ _ _ _ us hl => match us, hl with | [_, _, _], _ => rfl)
 have F_crossed_ties : Def K mg "crossed_ties" yK ["rows", "cut", "cell"] := yd X G a22 (fun _ _ _ _ _ _ us hl => match us, hl with | [_, _, _], _ => rfl)
 have F_heading : Def K mg "heading" qC ["rows", "cut", "gate"] := yd X G a23 (fun _ _ _ _ _ _ us hl => match us, hl with | [_, _, _], _ => rfl)
 have F_cell_ahead : Def K mg "cell_ahead" yZ ["rows", "cut", "gate"] := yd X G a24 (fun _ _ _ _ _ _ us hl => match us, hl with | [_, _, _], _ => rfl)
 have F_comes_in : Def K mg "comes_in" j7 ["rows", "cut", "gate"] := yd X G a25 (fun _ _ _ _ _ _ us hl => match us, hl with | [_, _, _], _ => rfl)
 have F_gate_ahead : Def K mg "gate_ahead" y3 ["rows", "cut", "gate"] := yd X G a26 (fun _ _ _ _ _ _ us hl => match us, hl with | [_, _, _], _ => rfl)
 have F_place : Def K mg "place" aal ["rows", "cut", "gate"] := yd X G a27 (fun _ _ _ _ _ _ us hl => match us, hl with | [_, _, _], _ => rfl)
 have F_place_of : Def K mg "place_of" j8 ["rows", "cut", "gate"] := yd X G a28 (fun _ _ _ _ _ _ us hl => match us, hl with | [_, _, _], _ => rfl)
 have F_share : Def K mg "share" aam ["rows", "cut", "gate"] := yd X G a29 (fun _ _ _ _ _ _ us hl => match us, hl with | [_, _, _], _ => rfl)
 have F_lines : Def K mg "lines" aan ["rows", "cut"] := yd X G a30 (fun _ _ _ _ _ _ us hl => match us, hl with | [_, _], _ => rfl)
 have F_line_from : Def K mg "line_from" jx ["rows", "cut", "start"] := yd X G a31 (fun _ _ _ _ _ _ us hl => match us, hl with | [_, _, _], _ => rfl)
 have F_ring_area : Def K mg "ring_area" jy ["rows", "cut", "line"] := yd X G a32 (fun _ _ _ _ _ _ us hl => match us, hl with | [_, _, _], _ => rfl)
 have F_field_area : Def K mg "field_area" y4 ["around"] := yd X G a33 (fun _ _ _ _ _ _ us hl => match us, hl with | [_], _ => rfl)
 have F_law_feed : Def K mg "_law_feed" j9 ["_law_script", "_law_k"] := yd X G a34 (fun _ _ _ _ _ _ us hl => match us, hl with | [_, _], _ => rfl)
 have F_law_draw : Def K mg "_law_draw" qa ["_law_feed_here", "_law_many"] := yd X G a35 (fun _ _ _ _ _ _ us hl => match us, hl with | [_, _], _ => rfl)
 have F_law_height : Def K mg "_law_height" ja ["_law_feed_here", "_law_far", "_law_base"] := yd X G a36 (fun _ _ _ _ _ _ us hl => match us, hl with | [_, _, _], _ => rfl)
 have F_law_table : Def K mg "_law_table" jz ["_law_feed_here"] := yd X G a37 (fun _ _ _ _ _ _ us hl => match us, hl with | [_], _ => rfl)
 have F_law_cut : Def K mg "_law_cut" qD ["_law_feed_here", "_law_rows"] := yd X G a38 (fun _ _ _ _ _ _ us hl => match us, hl with | [_, _], _ => rfl)
 have F_law_common : Def K mg "_law_common" jb ["_law_one", "_law_other"] := yd X G a39 (fun _ _ _ _ _ _ us hl => match us, hl with | [_, _], _ => rfl)
 have F_law_due : Def K mg "_law_due" qE ["_law_rows", "_law_cut_here", "_law_line"] := yd X G a40 (fun _ _ _ _ _ _ us hl => match us, hl with | [_, _, _], _ => rfl)
 have F_law_alone : Def K mg "_law_alone" jA ["_law_caught"] := yd X G a41 (fun _ _ _ _ _ _ us hl => match us, hl with | [_], _ => rfl)
 have F_law_told : Def K mg "_law_told" qb ["_law_rows", "_law_cut_here", "_law_line"] := yd X G a42 (fun _ _ _ _ _ _ us hl => match us, hl with | [_, _, _], _ => rfl)
 have F_law : Def K mg "law" vZ ["_law_script"] := yd X G a43 (fun _ _ _ _ _ _ us hl => match us, hl with | [_], _ => rfl)
 have m_FEWEST := anv X G g_FEWEST
 have m_MOST := anv X G g_MOST
 have m_LEAST := anv X G g_LEAST
 have m_GREATEST := anv X G g_GREATEST
 have m_len := anq X G z_len
 have m_min := anq X G z_min
 have m_max := anq X G z_max
 have m_enumerate := anq X G z_enumerate
 have m_range := anq X G z_range
 have m_all := anq X G z_all
 have m_sum := anq X G z_sum
 have m_tuple := anq X G z_tuple
 have m_set := anq X G z_set
 have m_sorted := anq X G z_sorted
 have m_abs := anq X G z_abs
 have m_zip := anq X G z_zip
 have m_isinstance := anq X G z_isinstance
 have m_any := anq X G z_any
 have m_ValueError := anq X G z_ValueError
 have m_list := anq X G z_list
 have m_AHEAD := anv X G cG_AHEAD
 have m_BEHIND := anv X G cG_BEHIND
 have m_NoRing := anv X G cG_NoRing
 have m_NoTable := anv X G cG_NoTable
 have m_NoPoint := anv X G cG_NoPoint
 have m_NoGate := anv X G cG_NoGate
 have m_TooSteep := anv X G cG_TooSteep
 have m_NoWeb := anv X G cG_NoWeb
 have m_NoBack := anv X G cG_NoBack
 have m_NoText := anv X G cG_NoText
 have m_NoRow := anv X G cG_NoRow
 have m_NoDeed := anv X G cG_NoDeed
 have m_HeightError := anv X G cG_HeightError
 have e := hfa.symm.trans (anv X G a43.1)
 cases e
 have F0 := adZ (st := vZ) a43.2.1 a43.2.2.1 a43.2.2.2
 refine ⟨aok "law" "law" (jT vZ) (yq vZ) (zh vZ) .none kV43 dc43 pm43 an43 cd43 ct43, fun s v => .of_eq rfl, fun base _ _ => ?_⟩
 have H0 := aj9 (P := l.prog) (w := w) (base := base) (k := 0) F_law_feed m_len m_abs
 have H1 := ajQ (P := l.prog) (w := w) (base := base) (k := 0) F_law_draw
 have H2 := ajP (P := l.prog) (w := w) (base := base) (k := 0) F_fits m_len ⟨_, m_FEWEST⟩ ⟨_, m_MOST⟩
 have H3 := ajO (P := l.prog) (w := w) (base := base) (k := 0) F_size m_len
 have H4 := alP (P := l.prog) (w := w) (base := base) (k := 0) F_gate_points
 have H5 := ajR (P := l.prog) (w := w) (base := base) (k := 0) F_stands_high
 have H6 := agI (P := l.prog) (w := w) (base := base) (k := 0) F_cell_gates
 have H7 := aeu (P := l.prog) (w := w) (base := base) (k := 0) F_corners
 have H8 := agP (P := l.prog) (w := w) (base := base) (k := 0) F_common m_abs
 have H9 := aeE (P := l.prog) (w := w) (base := base) (k := 0) F_law_common
 have H10 := aiO (P := l.prog) (w := w) (base := base) (k := 0) F_law_alone m_isinstance m_any m_ValueError m_NoTable m_NoPoint m_NoGate m_NoRing m_TooSteep m_NoWeb m_NoBack m_NoText m_NoRow m_NoDeed w_NoRing kt0 ktv kt1 kt2 kt3 kt4 kt5 kt6 kt7 kt8 kt9
 have H11 := agF (P := l.prog) (w := w) (base := base) (k := 1) F_law_height m_min (H1.mono (by decide))
 have H12 := alQ (P := l.prog) (w := w) (base := base) (k := 1) F_law_cut m_len (H1.mono (by decide))
 have H13 := agE (P := l.prog) (w := w) (base := base) (k := 1) F_is_row m_min m_max ⟨_, m_LEAST⟩ ⟨_, m_GREATEST⟩ (H2.mono (by decide))
 have H14 := agG (P := l.prog) (w := w) (base := base) (k := 1) F_points m_range (H3.mono (by decide))
 have H15 := alO (P := l.prog) (w := w) (base := base) (k := 1) F_has_point (H3.mono (by decide))
 have H16 := aex (P := l.prog) (w := w) (base := base) (k := 1) F_heading (H5.mono (by decide))
 have H17 := alS (P := l.prog) (w := w) (base := base) (k := 1) F_has_high_middle m_sum (H7.mono (by decide))
 have H18 := aiA (P := l.prog) (w := w) (base := base) (k := 1) F_shortened (H8.mono (by decide))
 have H19 := aid (P := l.prog) (w := w) (base := base) (k := 2) F_law_table m_range (H1.mono (by decide)) (H11.mono (by decide))
 have H20 := alN (P := l.prog) (w := w) (base := base) (k := 2) F_ask_table m_len m_enumerate (H2.mono (by decide)) (H13.mono (by decide))
 have H21 := ajS (P := l.prog) (w := w) (base := base) (k := 2) F_has_gate m_all (H15.mono (by decide)) (H4.mono (by decide))
 have H22 := ajY (P := l.prog) (w := w) (base := base) (k := 2) F_has_cell (H15.mono (by decide))
 have H23 := agL (P := l.prog) (w := w) (base := base) (k := 2) F_cell_ahead m_AHEAD tab_AHEAD (H16.mono (by decide))
 have H24 := agJ (P := l.prog) (w := w) (base := base) (k := 2) F_crossed_ties (H6.mono (by decide)) (H5.mono (by decide)) (H17.mono (by decide))
 have H25 := aiC (P := l.prog) (w := w) (base := base) (k := 2) F_share (H4.mono (by decide)) (H18.mono (by decide))
 have H26 := aiB (P := l.prog) (w := w) (base := base) (k := 2) F_total (H18.mono (by decide))
 have H27 := ajT (P := l.prog) (w := w) (base := base) (k := 3) F_is_open (H21.mono (by decide)) (H4.mono (by decide)) (H5.mono (by decide))
 have H28 := aip (P := l.prog) (w := w) (base := base) (k := 3) F_comes_in m_BEHIND tab_BEHIND (H16.mono (by decide)) (H22.mono (by decide))
 have H29 := adP (P := l.prog) (w := w) (base := base) (k := 3) F_place_of (H25.mono (by decide))
 have H30 := aiH (P := l.prog) (w := w) (base := base) (k := 3) F_field_area m_zip m_abs (H26.mono (by decide)) (H18.mono (by decide))
 have H31 := aii (P := l.prog) (w := w) (base := base) (k := 4) F_gates (H20.mono (by decide)) (H14.mono (by decide)) (H27.mono (by decide))
 have H32 := aev (P := l.prog) (w := w) (base := base) (k := 4) F_is_crossed m_all (H27.mono (by decide)) (H6.mono (by decide))
 have H33 := akb (P := l.prog) (w := w) (base := base) (k := 4) F_ask_gate (H27.mono (by decide))
 have H34 := aka (P := l.prog) (w := w) (base := base) (k := 4) F_ring_area m_NoRing x_NoRing (H20.mono (by decide)) (H29.mono (by decide)) (H30.mono (by decide))
 have H35 := ail (P := l.prog) (w := w) (base := base) (k := 5) F_cell_ties (H32.mono (by decide)) (H24.mono (by decide)) (H6.mono (by decide)) (H27.mono (by decide))
 have H36 := aiL (P := l.prog) (w := w) (base := base) (k := 5) F_place (H20.mono (by decide)) (H33.mono (by decide)) (H29.mono (by decide))
 have H37 := ake (P := l.prog) (w := w) (base := base) (k := 5) F_law_told m_HeightError eh (H34.mono (by decide)) (H10.mono (by decide))
 have H38 := aj2 (P := l.prog) (w := w) (base := base) (k := 6) F_gate_ahead (H23.mono (by decide)) (H22.mono (by decide)) (H35.mono (by decide))
 have H39 := akd (P := l.prog) (w := w) (base := base) (k := 6) F_law_due m_len m_range m_abs (H36.mono (by decide)) (H9.mono (by decide))
 have H40 := aj6 (P := l.prog) (w := w) (base := base) (k := 7) F_line_from m_tuple (H38.mono (by decide))
 have H41 := aiz (P := l.prog) (w := w) (base := base) (k := 8) F_lines m_set m_sorted (H20.mono (by decide)) (H31.mono (by decide)) (H28.mono (by decide)) (H40.mono (by decide))
 exact al4 (P := l.prog) (w := w) (base := base) (k := 9) F0 m_len m_range m_max m_min m_list (H0.mono (by decide)) (H19.mono (by decide)) (H12.mono (by decide)) (H41.mono (by decide)) (H39.mono (by decide)) (H37.mono (by decide))
theorem walk {l : PySem.W.OpenLaw} {q : Program} {loose : List Str} {XP : (Str -> Option Value) -> Heap -> Prop} {YP : World -> Heap -> Prop} {d : DefRec} {K : Params -> amR} (hn : l.most = some 63) (hdf : d.params.defaults = [])
  (hY : ∀ (w : World) (h : Heap), YP w h -> (K w.params).In h)
  (F : ∀ (w : World) (mg : Str -> Option Value) (fa : Addr) (h : Heap), (K w.params).In h -> h.Ns mainGlobals mg -> mg d.name = some (.ref fa) ->
   ∃ fd : FuncData, (∀ (s : Shared) (u : Value), BindsTo s fd ⟨[u], []⟩ [("_law_script", u)]) /\ ∀ base : Heap, (K w.params).In base -> base.Ns mainGlobals mg -> FnOk l.prog w (K w.params) mg base CX0 10 fa fd ["_law_script"] (afQ (K w.params))) :
  PySem.W.WalkO q loose XP YP l.row.toRowW d [] (fun f vs => PySem.call f vs) :=
 L2.walk_of (n := 63) (k := 10) (x := "_law_script") (CX := fun _ => CX0) (sp := fun w => afQ (K w.params)) hn (by decide) hdf ⟨rfl, by decide, by decide⟩ hY F (fun _ _ a ns hl _ hS => ⟨a, ns, rfl, hS, hl, fun _ => rfl⟩) fun _ _ _ _ _ z => z
end My
def PySem.W.Fast.tw2992130521846689758 : Nat := 0
def PySem.W.Fast.tw17240916957470793127 : Nat := 0
def PySem.W.Fast.tw8843303939266276078 : Nat := 0
def PySem.W.Fast.tw4105012725634536796 : Nat := 0
def PySem.W.Fast.tw777071071085439386 : Nat := 0
def PySem.W.Fast.tw2282352510136063059 : Nat := 0
def PySem.W.Fast.tw12567609251407370709 : Nat := 0
def PySem.W.Fast.tw8812033429821988308 : Nat := 0
def PySem.W.Fast.tw14356629399119684200 : Nat := 0
def PySem.W.Fast.tw3750869922617778312 : Nat := 0
def PySem.W.Fast.tw108111013704237791 : Nat := 0
def PySem.W.Fast.tw13018774466364114710 : Nat := 0
def PySem.W.Fast.tw773000896737536034 : Nat := 0
def PySem.W.Fast.tw4959868441616005288 : Nat := 0
def PySem.W.Fast.tw13049057176156983021 : Nat := 0
def PySem.W.Fast.tw7623962828535432516 : Nat := 0
def PySem.W.Fast.tw4956402280012117720 : Nat := 0
def PySem.W.Fast.tw1049781298807949528 : Nat := 0
def PySem.W.Fast.tw10440255912769783326 : Nat := 0
def PySem.W.Fast.tw10958722527464746182 : Nat := 0
def PySem.W.Fast.tw11196203581990195660 : Nat := 0
def PySem.W.Fast.tw7398614721353676526 : Nat := 0
def PySem.W.Fast.tw873005536335050459 : Nat := 0
def PySem.W.Fast.tw3617824650718444656 : Nat := 0
def PySem.W.Fast.tw4694275353423697851 : Nat := 0
def PySem.W.Fast.tw3847350095181146253 : Nat := 0
def PySem.W.Fast.tw7733828790505605793 : Nat := 0
def PySem.W.Fast.tw8633581916185374847 : Nat := 0
def PySem.W.Fast.tw12819287034491723788 : Nat := 0
def PySem.W.Fast.tw4811427141827135575 : Nat := 0
def PySem.W.Fast.tw10989151174083653704 : Nat := 0
def PySem.W.Fast.tw12210429449591896199 : Nat := 0
def PySem.W.Fast.tw16266513263414989875 : Nat := 0
def PySem.W.Fast.tw14365293903807050372 : Nat := 0
def PySem.W.Fast.tw8927956135322553177 : Nat := 0
def PySem.W.Fast.tw7792954948589617794 : Nat := 0
def PySem.W.Fast.tw17926047277130304529 : Nat := 0
def PySem.W.Fast.tw15615556394252041056 : Nat := 0
def PySem.W.Fast.tw15977695566195590033 : Nat := 0
def PySem.W.Fast.tw13220344156713795545 : Nat := 0
def PySem.W.Fast.tw14845790022491670187 : Nat := 0
def PySem.W.Fast.tw13121177660596132486 : Nat := 0
def PySem.W.Fast.tw16240967707985669336 : Nat := 0
def PySem.W.Fast.tw4630615295570993836 : Nat := 0
def PySem.W.Fast.tw17774466895973721177 : Nat := 0
open PySem PySem.W PyProof.Rows
set_option maxRecDepth 100000 in
set_option maxHeartbeats 0 in
theorem PySem.Challenge.cw_heightrings_k37_ring_areas_by_places_holds : PySem.Challenge.rw_heightrings_k37_ring_areas_by_places.Holds := by
 w_on; o_law; k_head; (case hw => w_witness2)
 k_fill
 refine My.walk (l := PySem.Challenge.rw_heightrings_k37_ring_areas_by_places) rfl rfl (fun w h Y => by first | exact PySem.W.kIn_of Y | exact PySem.W.km_in_of Y) ?F
 case F =>
  intro w mg fa h KX G hmg
  refine' My.all_mk KX G hmg ?a1 ?a2 ?a3 ?a4 ?a5 ?a6 ?a7 ?a8 ?a9 ?a10 ?a11 ?a12 ?a13 ?a14 ?a15 ?a16 ?a17 ?a18 ?a19 ?a20 ?a21 ?a22 ?a23 ?a24 ?a25 ?a26 ?a27 ?a28 ?a29 ?a30 ?a31 ?a32 ?a33 ?a34 ?a35 ?a36 ?a37 ?a38 ?a39 ?a40 ?a41 ?a42 ?a43 ?g_FEWEST ?g_MOST ?g_LEAST ?g_GREATEST ?z_len ?z_min ?z_max ?z_enumerate ?z_range ?z_all ?z_sum ?z_tuple ?z_set ?z_sorted ?z_abs ?z_zip ?z_isinstance ?z_any ?z_ValueError ?z_list ?cG_AHEAD ?cG_BEHIND ?cG_NoRing ?cG_NoTable ?cG_NoPoint ?cG_NoGate ?cG_TooSteep ?cG_NoWeb ?cG_NoBack ?cG_NoText ?cG_NoRow ?cG_NoDeed ?cG_HeightError ?tab_AHEAD ?tab_BEHIND ?x_NoRing ?w_NoRing ?kt0 ?ktv ?kt1 ?kt2 ?kt3 ?kt4 ?kt5 ?kt6 ?kt7 ?kt8 ?kt9 ?eh
  (case a1 => refine ⟨?_, ?_, ?_, ?_⟩ <;> k_is)
  (case a2 => refine ⟨?_, ?_, ?_, ?_⟩ <;> k_is)
  (case a3 => refine ⟨?_, ?_, ?_, ?_⟩ <;> k_is)
  (case a4 => refine ⟨?_, ?_, ?_, ?_⟩ <;> k_is)
  (case a5 => refine ⟨?_, ?_, ?_, ?_⟩ <;> k_is)
  (case a6 => refine ⟨?_, ?_, ?_, ?_⟩ <;> k_is)
  (case a7 => refine ⟨?_, ?_, ?_, ?_⟩ <;> k_is)
  (case a8 => refine ⟨?_, ?_, ?_, ?_⟩ <;> k_is)
  (case a9 => refine ⟨?_, ?_, ?_, ?_⟩ <;> k_is)
  (case a10 => refine ⟨?_, ?_, ?_, ?_⟩ <;> k_is)
  (case a11 => refine ⟨?_, ?_, ?_, ?_⟩ <;> k_is)
  (case a12 => refine ⟨?_, ?_, ?_, ?_⟩ <;> k_is)
  (case a13 => refine ⟨?_, ?_, ?_, ?_⟩ <;> k_is)
  (case a14 => refine ⟨?_, ?_, ?_, ?_⟩ <;> k_is)
  (case a15 => refine ⟨?_, ?_, ?_, ?_⟩ <;> k_is)
  (case a16 => refine ⟨?_, ?_, ?_, ?_⟩ <;> k_is)
  (case a17 => refine ⟨?_, ?_, ?_, ?_⟩ <;> k_is)
  (case a18 => refine ⟨?_, ?_, ?_, ?_⟩ <;> k_is)
  (case a19 => refine ⟨?_, ?_, ?_, ?_⟩ <;> k_is)
  (case a20 => refine ⟨?_, ?_, ?_, ?_⟩ <;> k_is)
  (case a21 => refine ⟨?_, ?_, ?_, ?_⟩ <;> k_is)
  (case a22 => refine ⟨?_, ?_, ?_, ?_⟩ <;> k_is)
  (case a23 => refine ⟨?_, ?_, ?_, ?_⟩ <;> k_is)
  (case a24 => refine ⟨?_, ?_, ?_, ?_⟩ <;> k_is)
  (case a25 => refine ⟨?_, ?_, ?_, ?_⟩ <;> k_is)
  (case a26 => refine ⟨?_, ?_, ?_, ?_⟩ <;> k_is)
  (case a27 => refine ⟨?_, ?_, ?_, ?_⟩ <;> k_is)
  (case a28 => refine ⟨?_, ?_, ?_, ?_⟩ <;> k_is)
  (case a29 => refine ⟨?_, ?_, ?_, ?_⟩ <;> k_is)
  (case a30 => refine ⟨?_, ?_, ?_, ?_⟩ <;> k_is)
  (case a31 => refine ⟨?_, ?_, ?_, ?_⟩ <;> k_is)
  (case a32 => refine ⟨?_, ?_, ?_, ?_⟩ <;> k_is)
  (case a33 => refine ⟨?_, ?_, ?_, ?_⟩ <;> k_is)
  (case a34 => refine ⟨?_, ?_, ?_, ?_⟩ <;> k_is)
  (case a35 => refine ⟨?_, ?_, ?_, ?_⟩ <;> k_is)
  (case a36 => refine ⟨?_, ?_, ?_, ?_⟩ <;> k_is)
  (case a37 => refine ⟨?_, ?_, ?_, ?_⟩ <;> k_is)
  (case a38 => refine ⟨?_, ?_, ?_, ?_⟩ <;> k_is)
  (case a39 => refine ⟨?_, ?_, ?_, ?_⟩ <;> k_is)
  (case a40 => refine ⟨?_, ?_, ?_, ?_⟩ <;> k_is)
  (case a41 => refine ⟨?_, ?_, ?_, ?_⟩ <;> k_is)
  (case a42 => refine ⟨?_, ?_, ?_, ?_⟩ <;> k_is)
  (case a43 => refine ⟨?_, ?_, ?_, ?_⟩ <;> k_is)
  (case g_FEWEST => k_is)
  (case g_MOST => k_is)
  (case g_LEAST => k_is)
  (case g_GREATEST => k_is)
  (case z_len => k_is)
  (case z_min => k_is)
  (case z_max => k_is)
  (case z_enumerate => k_is)
  (case z_range => k_is)
  (case z_all => k_is)
  (case z_sum => k_is)
  (case z_tuple => k_is)
  (case z_set => k_is)
  (case z_sorted => k_is)
  (case z_abs => k_is)
  (case z_zip => k_is)
  (case z_isinstance => k_is)
  (case z_any => k_is)
  (case z_ValueError => k_is)
  (case z_list => k_is)
  (case cG_AHEAD => k_is)
  (case cG_BEHIND => k_is)
  (case cG_NoRing => k_is)
  (case cG_NoTable => k_is)
  (case cG_NoPoint => k_is)
  (case cG_NoGate => k_is)
  (case cG_TooSteep => k_is)
  (case cG_NoWeb => k_is)
  (case cG_NoBack => k_is)
  (case cG_NoText => k_is)
  (case cG_NoRow => k_is)
  (case cG_NoDeed => k_is)
  (case cG_HeightError => k_is)
  (case tab_AHEAD => kernel_rfl)
  (case tab_BEHIND => kernel_rfl)
  (case x_NoRing => k_exc)
  (case w_NoRing => kernel_rfl)
  (case kt0 => kernel_rfl)
  (case ktv => kernel_rfl)
  (case kt1 => kernel_rfl)
  (case kt2 => kernel_rfl)
  (case kt3 => kernel_rfl)
  (case kt4 => kernel_rfl)
  (case kt5 => kernel_rfl)
  (case kt6 => kernel_rfl)
  (case kt7 => kernel_rfl)
  (case kt8 => kernel_rfl)
  (case kt9 => kernel_rfl)
  (case eh => kernel_rfl)
end
