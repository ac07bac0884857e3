import PyProof.Rows.All
import Wide.All
import OpenK.AllK
import Wide.FinOn
import Lean
import PyProof.EqAt
import PyProof.EqKinds
import PyProof.TupleCall
import KE.KTryMore
import PyProof.ExcArgs
import PyProof.ConsumeWalk
import PyProof.P3Eq
import KE.KRevIter
import PyProof.ListRange
import PyProof.Rows.SumAny
import KE.KSortTup
import PyProof.SetScanFacts
import PyProof.TupleKey
import PyProof.DictRoadsH
import PyProof.SetRoads
import KE.KTabLook
import PyProof.Rows.ListMul
import PyProof.InstStoreFacts
import PyProof.Rows.SetFrom
import PyProof.AutoListH
import PySem.Challenge.RW_heightrings_k53_webs_of_tables
open List renaming getElem?_eq_getElem → alB, length_map → alD, getD_eq_getElem?_getD → alF, getElem?_eq_some_iff → alG, mem_cons_of_mem → alH, getElem?_map → alJ, mem_cons_self → alL, mem_of_getElem? → alN, mem_cons → alO, getElem?_append_left → alP, length_append → alR, getElem?_append_right → alU, length_cons → alV, size_toArray → alW, mem_append_right → alX, range → alY, mem_map → al1, map_cons → al3, getElem?_eq_none → al5, map_append → al6, mem_singleton → al7, mem_range → al8, getElem_mem → al9, mem_flatMap → amb, getElem?_of_mem → amf, take_length → amg, mem_append → amh, length_take → amk, length_singleton → amn, append_nil → amq, lookup_cons → amr, mem_append_left → amt, head?_eq_getElem? → amu, filter_cons → amv, flatMap_append → amw, length_range → amx, toArray → amA, take_add_one → amB, length_filter_le → amD, mem_filter → amE, nodup_cons → amF, filter_append → amG, not_mem_nil → amL, append_assoc → amR, getElem?_set_self → amV, mem_reverse → am1, pairwise_iff_getElem → am4, getLast?_eq_getElem? → am6, length_nil → am7, pairwise_map → am9, getElem?_range → anb, getElem_of_mem → anc, replicate → anf, getElem?_replicate → ang, zip_cons_cons → anm, nodup_append → anq, getElem?_set_ne → anr, nodup_nil → anv, map_nil → anx, filterMap_cons → anC, reverse_append → anD, findSome?_cons → anF, getElem?_take_of_lt → anI, length_set → anL, forIn_cons → anM, pairwise_cons → anN, forIn_nil → anS, ext_getElem? → anT, map → anW, map_map → anY, flatMap_cons → an0, take_succ → aoa, mem_of_head? → aob, length_replicate → aod, take_append_drop → aof, getElem_inj → aoi, all_eq_true → aoj, mem_erase_of_ne → aol, find?_cons → aop, range_succ → aor, map_congr_left → aos, mem_filterMap → aow, reverse_cons → aoN, any_cons → aoO, length_erase_of_mem → aoU, nodup_range → aoX, map_flatMap → aoY, flatMap_nil → aoZ, length_pos_of_mem → ao5, of_mem_zip → ao8, filter_nil → ao9, reverse_reverse → apk, mem_of_getLast? → apo, take_zero → apq, length_pos_iff → aps, length_reverse → apu, filter_flatMap → apv, all_cons → apw
open Bool renaming false_ne_true → alC, and_eq_true → alM, false_eq_true → ami, not_true → amm, false_and → anQ, true_and → aok, and_false → aoA, not_false → aoB
open PySem.W renaming Frag → alE, mg_none_of → amc, nsIn → ame, kia_one → amo, keepIn → amz, kitOne → amH, mg_of → am0, fnOf → am8, findIn → ane, cellsFrom_some → ank, codeIn → aox, methodObj → aoK, specialIn → aoL, kitx_list → aoM, instObj → ao7, lookIn → ape
open Nat renaming le_refl → alI, le_trans → alZ, lt_of_lt_of_le → al0, zero_le → ama, ne_of_lt → amd, le_of_lt → amM, lt_succ_of_lt → amQ, not_lt_zero → amU, lt_irrefl → amZ, ne_of_gt → anw, le_of_eq → anz, sub_self → anA, le_of_succ_le → anR, lt_succ_of_le → anV, le_of_ble_eq_true → aoh, lt_succ_iff → aom, succ_pos → aot, lt_of_le_of_lt → aoy, mul_le_mul → aoG, add_assoc → aoR, lt_succ_iff_lt_or_eq → aoV, lt_succ_self → aoW, succ_le_succ → ao0, zero_add → ao2, max_le → ao4, min_le_left → apa, pow_le_pow_right → api, mul_le_mul_right → apn, lt_trans → apy, dvd_refl → apz, le_succ → apA, log2_lt → apB, gcd → apD, lcm → apE
open PySem.PyData renaming depthAll → alK, eqv → al4, canLayAll0 → ams, depth → aou, eqvAll → aoQ
open PySem.Heap renaming get?_push_of_some → alQ, lt_size → alT, get?_push_size → amj, get?_update_other → amW, SameBut → ani, get?_update_self → aoe, size_push → aoz
open Array renaming length_toList → alS, getD_eq_getD_getElem? → amX, getD → anl, mem_toList_iff → ans, forIn_toList → anO, replicate → aoo, getElem?_eq_getElem → aoH, getElem?_toList → apb, size_map → aph
open PySem.PassesOwn renaming never → aml
open Classical renaming propDecidable → amy, byContradiction → amK
open Int renaming gcd → amC, sign_eq_neg_one_of_neg → amI, sign_eq_one_of_pos → amY, emod_lt_of_pos → am2, natAbs_natCast → am3, eq_ofNat_of_zero_le → anh, fdiv_eq_ediv_of_nonneg → anu, toNat_of_nonneg → anG, mul_ediv_cancel_left → anK, lt_trichotomy → anZ, emod_nonneg → aon, gcd_pos_of_ne_zero_right → aoq, natAbs_mul → aoF, mul_fdiv_cancel_left → aoT, one_mul → apC
open PySem renaming boot_len → amJ, mem_of_lookup → ana
open Ne renaming symm → amN
open PySem.F renaming slot_list_append → amO, type_list_append → amP, slot_tuple_hash → amS, plainAttrs_list → amT, slot_set_contains → anB, slot_dict_getitem → aoI, args_list_append_2 → apg, slot_set_add → apj, entry_list_append → apr
open PySem.Builtin.Tuple renaming tupleHashOf → am5
open False renaming elim → anj
open PyProof.Rows renaming boot_abs → ano, callWith_type1 → anp, boot_tuple → anP, boot_list → aoc, boot_bool → ao6, boot_all → apd
open PySem.Obj renaming mapSeq → ant, putSet → ao3
open PySem.Builtin.Int renaming intBits → anE, intTooBig → apc
open Option renaming isSome_iff_exists → anH
open PySem.SetTable renaming toList_insertAt → anJ, sizeAbove → aoD, fill → apx
open PySem.SeqAt renaming eqv_refl → anU
open PySem.SeqAt.ReadsAll renaming length → aog
open PySem.Calls renaming Name_function_global → aov, callWith_builtin → ao1, evalArgs_plain → apf
open PySem.Builtin.Frozenset renaming oneOther → aoC, addrOf → aoS
open Rat renaming divInt → aoE, den_divInt → apm
open PySem.Builtin.SmallTypes renaming nextOf → aoJ
open PyProof renaming noPylong_of_log2 → aoP
open PyProof.Rows.KTD renaming datumAt → apl
open PySem.Heap.SameBut renaming update → apt
set_option Elab.async false
set_option linter.all false
set_option maxRecDepth 100000
set_option maxHeartbeats 4000000
section
namespace L2
open PySem PySem.Spec PyProof.Rows
abbrev Key := Sum Int Str
def ajk : Key -> Value -> Bool
 | .inl k, v => Value.isInt k v
 | .inr x, v => Value.isStrOf x v
def alr (w : World) : Key -> Int
 | .inl k => hashInt k
 | .inr x => hashStr w x
theorem z6 : ∀ {k : Key} {v : Value}, ajk k v = true -> (∃ i t, k = Sum.inl i /\ v = Value.int i t) \/ (∃ x t, k = Sum.inr x /\ v = Value.str x t)
 | .inl i, v, h => by
  obtain ⟨t, e⟩ := Value.isInt_shape (k := i) (v := v) h
  exact .inl ⟨i, t, rfl, e⟩
 | .inr x, v, h => by
  obtain ⟨t, e⟩ := Value.isStrOf_shape (x := x) (v := v) h
  exact .inr ⟨x, t, rfl, e⟩
theorem ajH (a b : Int) : decide ((Sum.inl a : Key) = Sum.inl b) = (a == b) := by
 by_cases e : a = b
 ·subst e; simp
 ·have h : ¬ (Sum.inl a : Key) = Sum.inl b := fun q => e (Sum.inl.inj q)
  rw [decide_eq_false h]
  exact (beq_eq_false_iff_ne.mpr e).symm
theorem ajI (a b : Str) : decide ((Sum.inr a : Key) = Sum.inr b) = decide (a = b) := by
 by_cases e : a = b
 ·subst e; simp
 ·have h : ¬ (Sum.inr a : Key) = Sum.inr b := fun q => e (Sum.inr.inj q)
  rw [decide_eq_false h, decide_eq_false e]
theorem ajJ (a : Int) (b : Str) : decide ((Sum.inl a : Key) = Sum.inr b) = false := decide_eq_false (fun q => nomatch q)
theorem ajK (a : Str) (b : Int) : decide ((Sum.inr a : Key) = Sum.inl b) = false := decide_eq_false (fun q => nomatch q)
def abv (prog : Program) (w : World) : PySem.KeyKind prog w Key where
 is := ajk
 hash := alr w
 inj := fun v a b ha hb => by
  rcases z6 ha with ⟨i, t, rfl, rfl⟩ | ⟨x, t, rfl, rfl⟩
  ·rcases z6 hb with ⟨j, u, rfl, e⟩ | ⟨y, u, rfl, e⟩
   ·injection e with e1 _; rw [e1]
   ·exact nomatch e
  ·rcases z6 hb with ⟨j, u, rfl, e⟩ | ⟨y, u, rfl, e⟩
   ·exact nomatch e
   ·injection e with e1 _; rw [e1]
 byValue := fun k v h => by
  rcases z6 h with ⟨i, t, rfl, rfl⟩ | ⟨x, t, rfl, rfl⟩ <;> rfl
 pyHash := fun hv h => by
  rcases z6 hv with ⟨i, t, rfl, rfl⟩ | ⟨x, t, rfl, rfl⟩
  ·exact wpAny_pyHash_int h
  ·exact wpAny_pyHash_str h
 eqBool := fun hu hv h => by
  rcases z6 hu with ⟨i, t, rfl, rfl⟩ | ⟨x, t, rfl, rfl⟩
  ·rcases z6 hv with ⟨j, u, rfl, rfl⟩ | ⟨y, u, rfl, rfl⟩
   ·rw [ajH] at h; exact wpAny_eqBool_int h
   ·rw [ajJ] at h; exact SeqAt.EqAt.int_str i t y u _ _ _ _ h
  ·rcases z6 hv with ⟨j, u, rfl, rfl⟩ | ⟨y, u, rfl, rfl⟩
   ·rw [ajK] at h; exact SeqAt.EqAt.str_int x t j u _ _ _ _ h
   ·rw [ajI] at h; exact wpAny_eqBool_str h
 «strs» := fun k x t v h => by
  rcases z6 h with ⟨i, u, rfl, e⟩ | ⟨y, u, rfl, e⟩
  ·exact nomatch e
  ·injection e with e1 _
   subst e1
   cases v <;> rfl
end L2
namespace L2
open PySem PySem.Spec PyProof.Rows
inductive V where
 | non | bl (b : Bool) | int (i : Int) | str (x : Str) | byt (b : Array UInt8) | flt (b : UInt64) | ref (a : Addr) | ty (n : String)
 deriving DecidableEq
def RelV : V -> Value -> Prop
 | .non, u => u = Value.none
 | .bl b, u => u = Value.bool b
 | .int i, u => ∃ t, u = Value.int i t
 | .str x, u => ∃ t, u = Value.str x t
 | .byt b, u => ∃ t, u = Value.bytes b t
 | .flt b, u => ∃ t, u = Value.float b t
 | .ref a, u => u = Value.ref a
 | .ty n, u => u = Value.type n
abbrev Vals : List V -> List Value -> Prop := Paired RelV
theorem Vals.length {xs : List V} {us : List Value} (r : Vals xs us) : xs.length = us.length := Paired.length r
theorem Vals.get : ∀ {xs : List V} {us : List Value} {i : Nat} {x : V}, Vals xs us -> xs[i]? = some x -> ∃ u, us[i]? = some u /\ RelV x u
 | _, _, _, _, .nil, e => by simp at e
 | _, _, 0, _, .cons r _, e => by simp at e; subst e; exact ⟨_, rfl, r⟩
 | _, _, i + 1, x, .cons _ t, e => by
  obtain ⟨u, h1, h2⟩ := Vals.get (i := i) (x := x) t (by simpa using e)
  exact ⟨u, by simpa using h1, h2⟩
theorem Vals.set {x : V} {u : Value} (r : RelV x u) : ∀ {xs : List V} {us : List Value} (i : Nat), Vals xs us -> Vals (xs.set i x) (us.set i u)
 | _, _, _, .nil => .nil
 | _, _, 0, .cons _ t => .cons r t
 | _, _, i + 1, .cons q t => .cons q (Vals.set r i t)
theorem Vals.append : ∀ {xs ys : List V} {us ws : List Value}, Vals xs us -> Vals ys ws -> Vals (xs ++ ys) (us ++ ws)
 | _, _, _, _, .nil, s => s
 | _, _, _, _, .cons r t, s => .cons r (Vals.append t s)
def ajL : Option V -> Option Value -> Prop
 | some v, some u => RelV v u
 | none, none => True
 | _, _ => False
def KV {κ : Type} : List (κ × V) -> List (κ × Value) -> Prop := Paired fun (p : κ × V) (q : κ × Value) => p.1 = q.1 /\ RelV p.2 q.2
def kV : Key -> V
 | .inl i => .int i
 | .inr x => .str x
inductive HO where
  | lst (xs : List V)
  | tup (xs : List V)
  | dK (kvs : List (Key × V)) | dT (kvs : List (List Key × V))
  | set (S : Int -> Bool) (n : Nat)
  | ins (C dx : Addr) (fs : List (Str × V))
  | own (x : Addr)
  | xd (fs : List (Str × V))
  | met (f x : Addr)
  | rng (lo hi : Int)
  | frz (o : Obj) (u : HO)
  | tbl (ps : Array Value)
  | ext (φ : Heap -> Prop)
abbrev Hp := Addr -> Option HO
def upd (H : Hp) (a : Addr) (o : HO) : Hp := fun b => if b = a then some o else H b
theorem zE {H : Hp} {a : Addr} {o : HO} : upd H a o a = some o := by unfold upd; rw [if_pos rfl]
theorem zz {H : Hp} {a b : Addr} {o : HO} (h : b ≠ a) : upd H a o b = H b := by unfold upd; rw [if_neg h]
theorem zK {H : Hp} {a b : Addr} {o : HO} (h : H a = some o) (h' : H b = none) : a ≠ b := by
 intro e; subst e; rw [h] at h'; cases h'
section
variable (P : Program) (w : World)
def ObjOk (H : Hp) (h : Heap) (a : Addr) : HO -> Prop
 | .lst xs => xs.length <= sizeLine /\ ∃ (its : List Value) (n : Nat), Vals xs its /\ h.get? a = some { cls := .type "list", data := .seq its.toArray n }
 | .tup xs => xs.length <= sizeLine /\ ∃ its : List Value, Vals xs its /\ IsTup h a its.toArray
 | .dK kvs => kvs.length <= sizeLine /\ (a == sysModules) = false /\ ∃ vs, KV kvs vs /\ h.DictOf (abv P w) a vs
 | .dT kvs => kvs.length <= sizeLine /\ (a == sysModules) = false /\ ∃ xs : List (List Key × Addr × Value),
   Paired (fun (p : List Key × V) (q : List Key × Addr × Value) => p.1 = q.1 /\ H q.2.1 = some (.tup (p.1.map kV)) /\ RelV p.2 q.2.2) kvs xs /\
   ∃ o es ep, h.get? a = some o /\ o.ExactDict /\ o.data = .dict es ep /\ es.toList = xs.map (entryOfKey (tupleKind (abv P w))) /\ (xs.map (·.1)).Nodup
 | .set S n => h.SetOf (intKind P w) a S n
 | .ins C dx fs => H dx = some (.own a) /\ fs.length <= 1000 /\ dx ≠ a /\ h.get? a = some (ao7 C dx) /\
   ∃ mA, h.Ns1 dx mA /\ (∀ f, ajL (fs.lookup f) (mA f)) /\ PySem.Within mA (fs.map (·.1))
 | .own _ => ∃ o, h.get? a = some o
 | .xd fs => ∃ mA, h.Ns1 a mA /\ ∀ f, ajL (fs.lookup f) (mA f)
 | .rng lo hi => ∃ t u v, h.get? a = some { cls := .type "range", data := .fields #[.int lo t, .int hi u, .int 1 v] }
 | .frz o u => h.get? a = some o /\ ObjOk H h a u
 | .tbl ps => h.get? a = some { cls := .none, data := .fields ps }
 | .met f x => h.get? a = some (aoK (.ref f) (.ref x))
 | .ext φ => φ h /\ (∃ o, h.get? a = some o) /\ ∀ h1 h2 : Heap, φ h1 -> (∀ o, h1.get? a = some o -> h2.get? a = some o) -> φ h2
def HOk (H : Hp) (h : Heap) : Prop := ∀ a o, H a = some o -> ObjOk P w H h a o
end
section
variable {P : Program} {w : World} {H H' : Hp} {h h' : Heap} {a : Addr} {o : HO}
theorem ObjOk.lt (x : ObjOk P w H h a o) : a < h.objs.size := by
 cases o with
 | lst xs => obtain ⟨_, _, _, _, e⟩ := x; exact alT e
 | tup xs => obtain ⟨_, _, _, p⟩ := x; exact p.lt
 | dK kvs => obtain ⟨_, _, _, _, o, _, _, e, _⟩ := x; exact alT e
 | dT kvs => obtain ⟨_, _, _, _, o, _, _, e, _⟩ := x; exact alT e
 | set S n => obtain ⟨o, _, _, _, e, _⟩ := x; exact alT e
 | ins C dx fs => obtain ⟨_, _, _, e, _⟩ := x; exact alT e
 | own y => obtain ⟨_, e⟩ := x; exact alT e
 | xd fs => obtain ⟨_, ⟨_, _, _, e, _⟩, _⟩ := x; exact alT e
 | rng lo hi => obtain ⟨_, _, _, e⟩ := x; exact alT e
 | frz ob u => obtain ⟨e, _⟩ := x; exact alT e
 | tbl ps => exact alT (show h.get? a = some _ from x)
 | met f y => exact alT (show h.get? a = some _ from x)
 | ext φ => obtain ⟨_, ⟨_, e⟩, _⟩ := x; exact alT e
theorem Paired.mapP {α β : Type} {F G : α -> β -> Prop} : ∀ {l₁ : List α} {l₂ : List β}, Paired F l₁ l₂ -> (∀ a b, F a b -> G a b) -> Paired G l₁ l₂
 | _, _, .nil, _ => .nil
 | _, _, .cons r t, f => .cons (f _ _ r) (Paired.mapP t f)
theorem ObjOk.stay (x : ObjOk P w H h a o) (k : ∀ b u, (b = a \/ H b = some (.own a)) -> h.get? b = some u -> h'.get? b = some u)
  (ho : ∀ b, H b = some (.own a) -> H' b = some (.own a)) (ht : ∀ b xs, H b = some (.tup xs) -> H' b = some (.tup xs)) : ObjOk P w H' h' a o := by
 induction o with
 | lst xs => obtain ⟨z, its, n, r, e⟩ := x; exact ⟨z, its, n, r, k _ _ (.inl rfl) e⟩
 | tup xs => obtain ⟨z, its, r, ob, e, c⟩ := x; exact ⟨z, its, r, ob, k _ _ (.inl rfl) e, c⟩
 | dK kvs => obtain ⟨z, y, vs, r, ob, es, ep, e, c⟩ := x; exact ⟨z, y, vs, r, ob, es, ep, k _ _ (.inl rfl) e, c⟩
 | dT kvs =>
  obtain ⟨z, y, xs, r, ob, es, ep, e, c⟩ := x
  exact ⟨z, y, xs, Paired.mapP r fun p q z => ⟨z.1, ht _ _ z.2.1, z.2.2⟩, ob, es, ep, k _ _ (.inl rfl) e, c⟩
 | set S n => obtain ⟨ob, es, ep, t, e, c⟩ := x; exact ⟨ob, es, ep, t, k _ _ (.inl rfl) e, c⟩
 | ins C dx fs =>
  obtain ⟨d, z, ne, e, mA, ⟨od, es, ep, e2, c⟩, r⟩ := x
  exact ⟨ho _ d, z, ne, k _ _ (.inl rfl) e, mA, ⟨od, es, ep, k _ _ (.inr d) e2, c⟩, r⟩
 | own y => obtain ⟨ob, e⟩ := x; exact ⟨ob, k _ _ (.inl rfl) e⟩
 | xd fs => obtain ⟨mA, ⟨od, es, ep, e, c⟩, r⟩ := x; exact ⟨mA, ⟨od, es, ep, k _ _ (.inl rfl) e, c⟩, r⟩
 | rng lo hi => obtain ⟨t, u, v, e⟩ := x; exact ⟨t, u, v, k _ _ (.inl rfl) e⟩
 | frz ob u ih => obtain ⟨e, q⟩ := x; exact ⟨k _ _ (.inl rfl) e, ih q⟩
 | tbl ps =>
  have e : h.get? a = some { cls := .none, data := .fields ps } := x
  show h'.get? a = some { cls := .none, data := .fields ps }
  exact k a _ (.inl rfl) e
 | met f y =>
  have e : h.get? a = some (aoK (.ref f) (.ref y)) := x
  show h'.get? a = some (aoK (.ref f) (.ref y))
  exact k a _ (.inl rfl) e
 | ext φ => obtain ⟨p, ⟨o, e⟩, st⟩ := x; exact ⟨st _ _ p fun o q => k _ _ (.inl rfl) q, ⟨o, k _ _ (.inl rfl) e⟩, st⟩
theorem HOk.lt (x : HOk P w H h) (e : H a = some o) : a < h.objs.size := (x a o e).lt
theorem HOk.fresh (x : HOk P w H h) (e : h.objs.size <= a) : H a = none := by
 cases q : H a with
 | none => rfl
 | some u => exact absurd (al0 (x.lt q) e) (amZ _)
theorem HOk.kept (x : HOk P w H h) (k : ∀ b u, h.get? b = some u -> h'.get? b = some u) : HOk P w H h' := fun a o e =>
 (x a o e).stay (fun b u _ q => k b u q) (fun _ q => q) fun _ _ q => q
theorem HOk.laid (x : HOk P w H h) (k : ∀ b u, h.get? b = some u -> h'.get? b = some u) (hp : h.objs.size <= a) (new : ObjOk P w (upd H a o) h' a o) : HOk P w (upd H a o) h' := fun b u e => by
 have hn := x.fresh hp
 by_cases hb : b = a
 ·subst hb; rw [zE] at e; cases e; exact new
 ·rw [zz hb] at e
  exact (x b u e).stay (fun c v _ q => k c v q) (fun c q => by rw [zz (zK q hn)]; exact q) fun c xs q => by rw [zz (zK q hn)]; exact q
end
def Rd (H : Hp) (a : Addr) (u : HO) : Prop := H a = some u \/ ∃ o, H a = some (.frz o u)
theorem Rd.ok {P : Program} {w : World} {H : Hp} {h : Heap} {a : Addr} {u : HO} (r : Rd H a u) (x : HOk P w H h) : ObjOk P w H h a u := by
 rcases r with r | ⟨o, r⟩
 ·exact x a u r
 ·obtain ⟨_, q⟩ := x a _ r
  exact q
def Mut : Option HO -> Prop
 | some (.lst _) => True
 | some (.dK _) => True
 | some (.dT _) => True
 | some (.set _ _) => True
 | some (.ins _ _ _) => True
 | some (.ext _) => True
 | _ => False
section
variable {P : Program} {w : World} {H : Hp} {h h' : Heap} {x e : Addr} {o' : HO}
theorem HOk.write (ok : HOk P w H h) (mu : Mut (H x)) (he : e = x \/ H e = some (.own x)) (k : ∀ b u, b ≠ e -> h.get? b = some u -> h'.get? b = some u) (heo : ∃ u, h'.get? e = some u)
  (new : ObjOk P w (upd H x o') h' x o') : HOk P w (upd H x o') h' := fun b u q => by
 have nown : ∀ c y, H c = some (.own y) -> c ≠ x := fun c y r z => by subst z; rw [r] at mu; exact mu
 have ntup : ∀ c xs, H c = some (.tup xs) -> c ≠ x := fun c xs r z => by subst z; rw [r] at mu; exact mu
 by_cases hb : b = x
 ·subst hb; rw [zE] at q; cases q; exact new
 ·rw [zz hb] at q
  by_cases hbe : b = e
  ·have q' : H b = some (.own x) := by
    rcases he with z | z
    ·exact absurd (hbe.trans z) hb
    ·rw [hbe]; exact z
   rw [q] at q'; cases q'
   obtain ⟨v, hv⟩ := heo
   exact ⟨v, by rw [hbe]; exact hv⟩
  ·refine (ok b u q).stay (fun c v hc r => k c v ?_ r) (fun c r => by rw [zz (nown c b r)]; exact r) fun c xs r => by rw [zz (ntup c xs r)]; exact r
   rcases hc with rfl | hc
   ·exact hbe
   ·rintro rfl
    rcases he with z | z
    ·exact nown c b hc z
    ·rw [hc] at z; cases z; exact hb rfl
end
structure Un (fs ex : List Addr) (H H' : Hp) (h h' : Heap) : Prop where
 keep : ∀ b o, h.get? b = some o -> H b = none -> b ∉ fs -> b ∉ ex -> h'.get? b = some o
 slot : ∀ b o, h.get? b = some o -> H b = none -> b ∈ fs -> b ∉ ex -> ∃ sl, h'.get? b = some { o with slots := sl }
 free : ∀ b o, h.get? b = some o -> H b = none -> b ∉ ex -> H' b = none
 there : ∀ b o, h.get? b = some o -> b ∉ ex -> ∃ o', h'.get? b = some o'
 tups : ∀ b xs, H b = some (.tup xs) -> H' b = some (.tup xs)
 frzs : ∀ b o u, H b = some (.frz o u) -> H' b = some (.frz o u)
 tbls : ∀ b ps, H b = some (.tbl ps) -> ∃ more, H' b = some (.tbl (ps ++ more))
section
variable {fs fs' ex ex' : List Addr} {H H1 H2 : Hp} {h h1 h2 h' : Heap} {a x e : Addr} {o : HO}
theorem Un.any (u : Un fs ex H H1 h h1) {b : Addr} {ob : Obj} (q : h.get? b = some ob) (n : H b = none) (hx : b ∉ ex) : ∃ sl, h1.get? b = some { ob with slots := sl } := by
 by_cases hb : b ∈ fs
 ·exact u.slot b ob q n hb hx
 ·exact ⟨ob.slots, u.keep b ob q n hb hx⟩
theorem Un.kept (k : ∀ b u, h.get? b = some u -> h'.get? b = some u) : Un fs ex H H h h' :=
 ⟨fun b ob q _ _ _ => k b ob q, fun b ob q _ _ _ => ⟨ob.slots, k b ob q⟩, fun _ _ _ n _ => n, fun b ob q _ => ⟨ob, k b ob q⟩, fun _ _ q => q, fun _ _ _ q => q, fun _ ps q => ⟨#[], by rw [q]; simp⟩⟩
theorem Un.refl : Un fs ex H H h h := Un.kept fun _ _ q => q
theorem Un.laid (k : ∀ b u, h.get? b = some u -> h'.get? b = some u) (hp : h.objs.size <= a) (hn : H a = none) : Un fs ex H (upd H a o) h h' where
 keep := fun b u q _ _ _ => k b u q
 slot := fun b u q _ _ _ => ⟨u.slots, k b u q⟩
 free := fun b u q n _ => by rw [zz (amd (al0 (alT q) hp))]; exact n
 there := fun b u q _ => ⟨u, k b u q⟩
 tups := fun b xs q => by rw [zz (zK q hn)]; exact q
 frzs := fun b u xs q => by rw [zz (zK q hn)]; exact q
 tbls := fun b ps q => ⟨#[], by rw [zz (zK q hn), q]; simp⟩
theorem Un.write (mu : Mut (H x)) (he : e = x \/ H e = some (.own x)) (k : ∀ b u, b ≠ e -> h.get? b = some u -> h'.get? b = some u) (heo : ∃ u, h'.get? e = some u) : Un fs ex H (upd H x o) h h' := by
 have hx : ∀ b, H b = none -> b ≠ x := fun b n z => by subst z; rw [n] at mu; exact mu
 have hb : ∀ b, H b = none -> b ≠ e := fun b n z => by
  subst z
  rcases he with r | r
  ·exact hx b n r
  ·rw [n] at r; cases r
 have hm : ∀ b u, H b = some u -> ¬ Mut (some u) -> b ≠ x := fun b u q nm z => by subst z; rw [q] at mu; exact nm mu
 refine ⟨fun b u q n _ _ => k b u (hb b n) q, fun b u q n _ _ => ⟨u.slots, k b u (hb b n) q⟩, fun b u q n _ => by rw [zz (hx b n)]; exact n, fun b u q _ => ?_,
  fun b xs q => by rw [zz (hm b _ q fun z => z)]; exact q, fun b u xs q => by rw [zz (hm b _ q fun z => z)]; exact q, fun b ps q => ⟨#[], by rw [zz (hm b _ q fun z => z), q]; simp⟩⟩
 by_cases hbe : b = e
 ·subst hbe; exact heo
 ·exact ⟨u, k b u hbe q⟩
end
def trk (h : Heap) (H : Hp) : List Addr := (alY h.objs.size).filter fun a => (H a).isSome
def abw (h : Heap) (H : Hp) : Heap := PySem.W.hideAll h (trk h H)
theorem afp (h : Heap) (H : Hp) : (abw h H).objs.size = h.objs.size := PySem.W.hideAll_size _ _
theorem agt {h : Heap} {H : Hp} {b : Addr} {o : Obj} (e : h.get? b = some o) (n : H b = none) : (abw h H).get? b = some o :=
 PySem.W.hideAll_get _ e fun hm => by
  have q : (H b).isSome = true := (amE.mp hm).2
  rw [n] at q; simp at q
theorem ah2 {h : Heap} {H : Hp} {b : Addr} {o : Obj} (e : (abw h H).get? b = some o) : h.get? b = some o /\ H b = none := by
 have e' : h.get? b = some o := PySem.W.of_hideAll (trk h H) e
 refine ⟨e', ?_⟩
 cases q : H b with
 | none => rfl
 | some x =>
  have hm : b ∈ trk h H := amE.mpr ⟨al8.mpr (alT e'), by simp [q]⟩
  have z : (abw h H).get? b = none := PySem.W.hideAll_none (trk h H) hm
  rw [z] at e; cases e
def ah3 (g h : Heap) (L : Addr) : List (Addr × Obj) := (alY h.objs.size).filterMap fun a => if a = L \/ (g.get? a).isSome = true then none else (h.get? a).map fun o => (a, o)
def rest (g h : Heap) (L d : Addr) : List (Addr × Obj) := (ah3 g h L).filter fun p => decide (p.1 ≠ d)
end L2
namespace L2
open PySem PySem.Spec PyProof.Rows
structure Mod (K : alE) (mg : Str -> Option Value) (base : Heap) : Prop where
 kin : K.In base
 glob : base.Ns mainGlobals mg
 blt : ∃ mb, base.Ns builtinsNs mb /\ ∀ x : Str, x ≠ "__name__" -> mb x = bootBuiltins x
 nolimit : base.NoLimit
structure Cx where
 prog : Program
 w : World
 K : alE
 mg : Str -> Option Value
 base : Heap
 A : Around
 N : List Str
 s₀ : Shared
 H₀ : Hp
 env : Env
 outer : List Env
 stack : List Env
 ex : List Addr
 fn : Str -> Bool
 calm : Bool
 pn : List (Addr × Obj)
 xe : Value -> Shared -> Prop
def frs (l : List Env) : List Addr := l.filterMap (·.frame)
abbrev Cx.fs (X : Cx) : List Addr := frs X.outer
def Vis (sc : Scope) (x : Str) : Prop := sc.names.lookup x = some .local \/ sc.names.lookup x = some .cell \/ sc.names.lookup x = some .free
def Loc (sc : Scope) (x : Str) : Prop := sc.names.lookup x = some .local \/ sc.names.lookup x = some .cell
def Look (env : Env) (h : Heap) (m : Str -> Option Value) (x : Str) (u : Value) : Prop :=
 (env.kindOf x = some .local /\ m x = some u) \/ ((env.kindOf x = some .cell \/ env.kindOf x = some .free) /\ ∃ c, env.cells.lookup x = some c /\ h.IsCell c (some u))
structure Cx.Ok (X : Cx) : Prop where
 mod : Mod X.K X.mg X.base
 kind : X.env.scope.kind = .function
 glob : X.env.globals = mainGlobals
 blt : X.env.builtins = builtinsNs
 above : X.s₀.heap.objs.size <= X.env.locals
 inj : ∀ x y c, X.env.cells.lookup x = some c -> X.env.cells.lookup y = some c -> x = y
 has : ∀ x, (X.env.kindOf x = some .cell \/ X.env.kindOf x = some .free) -> ∃ c, X.env.cells.lookup x = some c
 cab : ∀ x c, X.fn x = true -> X.env.cells.lookup x = some c -> X.s₀.heap.objs.size <= c
 hd : X.calm = true -> X.A.handled = none
 frames : X.A.frames = some X.stack
 stk : X.stack = X.outer \/ (X.stack = X.env :: X.outer /\ X.env.frame = some X.env.locals)
 exf : ∀ b ∈ X.ex, b ≠ X.env.locals /\ ∀ x c, X.env.cells.lookup x = some c -> c ≠ b
 bs : ∀ b o, X.base.get? b = some o -> X.s₀.heap.get? b = some o /\ X.H₀ b = none
 bsz : X.base.objs.size <= X.s₀.heap.objs.size
 noex : ∀ b o, X.base.get? b = some o -> b ∉ X.ex
 exfs : ∀ b ∈ X.ex, b ∉ X.fs
 funs : X.s₀.heap.FunFrames X.base X.outer
 frf : ∀ b ∈ X.fs, X.H₀ b = none
structure Inv (X : Cx) (pins : List (Addr × Obj)) (σ : List (Option V)) (H : Hp) (s : Shared) : Prop where
 ok : X.Ok
 os : s.os = X.s₀.os
 bare : AllBare s.gens
 base : Un X.fs X.ex X.H₀ H X.s₀.heap s.heap
 loc : ∃ m, s.heap.Ns X.env.locals m /\ ∀ (i : Nat) (x : Str) (v : V), X.N[i]? = some x -> σ[i]? = some (some v) -> Vis X.env.scope x -> ∃ u, RelV v u /\ Look X.env s.heap m x u
 cell : ∀ x c, X.env.cells.lookup x = some c -> ∃ v, s.heap.IsCell c v
 free : H X.env.locals = none
 freeC : ∀ x c, X.env.cells.lookup x = some c -> H c = none
 pin : ∀ p ∈ X.pn ++ pins, s.heap.get? p.1 = some p.2 /\ H p.1 = none /\ p.1 ≠ X.env.locals /\ p.1 ∉ X.fs /\ ∀ v, p.2.data ≠ .cell v
 hok : HOk X.prog X.w H s.heap
 len : σ.length = X.N.length
section
variable {X : Cx} {pins : List (Addr × Obj)} {σ : List (Option V)} {H H' : Hp} {s : Shared} {h' : Heap}
theorem Cx.Ok.nofr (ok : X.Ok) {b : Addr} {o : Obj} (e : X.base.get? b = some o) : b ∉ X.fs := fun hb => by
 have := (ok.funs.mem hb).1
 rw [e] at this; cases this
theorem Inv.bs (I : Inv X pins σ H s) : ∀ b o, X.base.get? b = some o -> s.heap.get? b = some o /\ H b = none := fun b o e =>
 ⟨I.base.keep b o (I.ok.bs b o e).1 (I.ok.bs b o e).2 (I.ok.nofr e) (I.ok.noex b o e), I.base.free b o (I.ok.bs b o e).1 (I.ok.bs b o e).2 (I.ok.noex b o e)⟩
theorem Inv.bk (I : Inv X pins σ H s) : ∀ b o, X.base.get? b = some o -> s.heap.get? b = some o := fun b o e => (I.bs b o e).1
theorem Inv.mod (I : Inv X pins σ H s) : Mod X.K X.mg X.base := I.ok.mod
theorem Inv.kIn (I : Inv X pins σ H s) : X.K.In s.heap := I.ok.mod.kin.keeps I.bk
theorem Inv.fr (I : Inv X pins σ H s) : ∃ m, Fr X.base X.env.locals s.heap m :=
 let ⟨m, hn, _⟩ := I.loc
 ⟨m, hn, I.bk, alZ I.ok.bsz I.ok.above⟩
theorem Inv.lt (I : Inv X pins σ H s) : X.env.locals < s.heap.objs.size := let ⟨_, hn, _⟩ := I.loc; hn.lt
theorem Inv.sz (I : Inv X pins σ H s) : X.s₀.heap.objs.size <= s.heap.objs.size := alZ I.ok.above (amM I.lt)
theorem Inv.nofs (I : Inv X pins σ H s) {a : Addr} (h : s.heap.objs.size <= a) : a ∉ X.fs := fun hb => by
 obtain ⟨_, o, ho, _⟩ := I.ok.funs.mem hb
 exact absurd (al0 (alT ho) (alZ I.sz h)) (amZ _)
theorem Inv.cne (I : Inv X pins σ H s) : ∀ x c, X.env.cells.lookup x = some c -> c ≠ X.env.locals := fun x c e z => by
 obtain ⟨v, o, ho, hd⟩ := I.cell x c e
 obtain ⟨m, ⟨o', es, ep, ho', hd', _⟩, _⟩ := I.loc
 rw [z, ho'] at ho; cases ho; rw [hd'] at hd; cases hd
theorem Inv.funs (I : Inv X pins σ H s) : s.heap.FunFrames X.base X.outer := by
 have all : ∀ (l : List Env), (∀ b ∈ frs l, b ∈ X.fs) -> X.s₀.heap.FunFrames X.base l -> s.heap.FunFrames X.base l := by
  intro l
  induction l with
  | nil => intro _ _; trivial
  | cons env r ih =>
   intro hs hl
   obtain ⟨hk, ⟨L, o, hf, hn, ho, hd⟩, hr⟩ := hl
   have hL : L ∈ X.fs := hs L (by unfold frs; rw [anC, hf]; exact alL)
   obtain ⟨sl, e⟩ := I.base.slot L o ho (I.ok.frf L hL) hL fun z => I.ok.exfs L z hL
   exact ⟨hk, ⟨L, _, hf, hn, e, hd⟩, ih (fun b hb => hs b (by unfold frs; rw [anC, hf]; exact alH _ hb)) hr⟩
 exact all X.outer (fun _ hb => hb) I.ok.funs
theorem Inv.stack (I : Inv X pins σ H s) : s.heap.FunFrames X.base X.stack := by
 rcases I.ok.stk with e | ⟨e, hf⟩
 ·rw [e]; exact I.funs
 ·rw [e]
  obtain ⟨m, hn, _⟩ := I.loc
  refine .cons (by rw [I.ok.kind]; decide) hf hn ?_ I.funs
  exact Heap.get?_none_of_le (alZ I.ok.bsz I.ok.above)
theorem Inv.stkSub (I : Inv X pins σ H s) : ∀ b ∈ frs X.stack, b ∈ X.env.locals :: X.fs := fun b hb => by
 rcases I.ok.stk with e | ⟨e, hf⟩
 ·rw [e] at hb; exact alH _ hb
 ·rw [e] at hb
  unfold frs at hb
  rw [anC, hf] at hb
  exact hb
theorem Inv.stkFree (I : Inv X pins σ H s) : ∀ b ∈ frs X.stack, H b = none := fun b hb => by
 rcases alO.mp (I.stkSub b hb) with e | hb
 ·rw [e]; exact I.free
 ·obtain ⟨_, o, ho, _⟩ := I.ok.funs.mem hb
  exact I.base.free b o ho (I.ok.frf b hb) fun z => I.ok.exfs b z hb
theorem Inv.step {g' : Array GenState} {t' : Nat} {d' : Drawn} {ch : List Addr} (I : Inv X pins σ H s)
  (hch : ∀ b ∈ ch, (b ∈ X.ex \/ X.s₀.heap.objs.size <= b) /\ b ≠ X.env.locals /\ (∀ x c, X.env.cells.lookup x = some c -> c ≠ b) /\ ∀ p ∈ X.pn ++ pins, p.1 ≠ b)
  (keep : ∀ b o, b ≠ X.env.locals -> b ∉ X.fs -> b ∉ ch -> s.heap.get? b = some o -> H b = none -> h'.get? b = some o)
  (slot : ∀ b o, b ≠ X.env.locals -> b ∈ X.fs -> b ∉ ch -> s.heap.get? b = some o -> H b = none -> ∃ sl, h'.get? b = some { o with slots := sl }) (free : ∀ b o, b ∉ ch -> s.heap.get? b = some o -> H b = none -> H' b = none)
  (there : ∀ b o, b ∉ ch -> s.heap.get? b = some o -> ∃ o', h'.get? b = some o')
  (tups : ∀ b xs, H b = some (.tup xs) -> H' b = some (.tup xs)) (frzs : ∀ b o u, H b = some (.frz o u) -> H' b = some (.frz o u)) (tbls : ∀ b ps, H b = some (.tbl ps) -> ∃ more, H' b = some (.tbl (ps ++ more)))
  (ns : ∀ m, s.heap.Ns X.env.locals m -> h'.Ns X.env.locals m) (hok : HOk X.prog X.w H' h') (hg : AllBare g') :
  Inv X pins σ H' { s with heap := h', gens := g', drawn := d', toks := t' } := by
 have neL : ∀ b o, X.s₀.heap.get? b = some o -> b ≠ X.env.locals := fun b o e => amd (al0 (alT e) I.ok.above)
 have neC : ∀ b o, X.s₀.heap.get? b = some o -> b ∉ X.ex -> b ∉ ch := fun b o e hx hb => by
  rcases (hch b hb).1 with z | z
  ·exact hx z
  ·exact absurd (al0 (alT e) z) (amZ _)
 have cellK : ∀ x c, X.env.cells.lookup x = some c -> ∀ v, s.heap.IsCell c v -> h'.IsCell c v := fun x c e v ⟨o, ho, hd⟩ => by
  have nch : c ∉ ch := fun z => (hch c z).2.2.1 x c e rfl
  by_cases hc : c ∈ X.fs
  ·obtain ⟨sl, q⟩ := slot c o (I.cne x c e) hc nch ho (I.freeC x c e)
   exact ⟨_, q, hd⟩
  ·exact ⟨o, keep c o (I.cne x c e) hc nch ho (I.freeC x c e), hd⟩
 refine ⟨I.ok, I.os, hg, ⟨fun b o e n hb hx => ?_, fun b o e n hb hx => ?_, fun b o e n hx => ?_, fun b o e hx => ?_, fun b xs e => tups b xs (I.base.tups b xs e), fun b o xs e => frzs b o xs (I.base.frzs b o xs e), fun b ps e => ?_⟩, ?_, fun x c e => ?_, ?_, fun x c e => ?_, fun p hp => ?_, hok, I.len⟩
 ·exact keep b o (neL b o e) hb (neC b o e hx) (I.base.keep b o e n hb hx) (I.base.free b o e n hx)
 ·obtain ⟨sl, e1⟩ := I.base.slot b o e n hb hx
  obtain ⟨sl', e2⟩ := slot b _ (neL b o e) hb (neC b o e hx) e1 (I.base.free b o e n hx)
  exact ⟨sl', e2⟩
 ·obtain ⟨o', e1⟩ := I.base.there b o e hx
  exact free b o' (neC b o e hx) e1 (I.base.free b o e n hx)
 ·obtain ⟨o', e1⟩ := I.base.there b o e hx
  exact there b o' (neC b o e hx) e1
 ·obtain ⟨m1, e1⟩ := I.base.tbls b ps e
  obtain ⟨m2, e2⟩ := tbls b _ e1
  exact ⟨m1 ++ m2, by rw [e2, Array.append_assoc]⟩
 ·obtain ⟨m, hn, hl⟩ := I.loc
  refine ⟨m, ns m hn, fun i x v e1 e2 e3 => ?_⟩
  obtain ⟨u, r, l⟩ := hl i x v e1 e2 e3
  refine ⟨u, r, ?_⟩
  rcases l with l | ⟨k, c, e, z⟩
  ·exact .inl l
  ·exact .inr ⟨k, c, e, cellK x c e _ z⟩
 ·obtain ⟨v, z⟩ := I.cell x c e
  exact ⟨v, cellK x c e v z⟩
 ·obtain ⟨m, ⟨o, _, _, ho, _⟩, _⟩ := I.loc
  exact free _ o (fun z => (hch _ z).2.1 rfl) ho I.free
 ·obtain ⟨v, o, ho, hd⟩ := I.cell x c e
  exact free c o (fun z => (hch c z).2.2.1 x c e rfl) ho (I.freeC x c e)
 ·obtain ⟨e, n, ne, nf, d⟩ := I.pin p hp
  have nch : p.1 ∉ ch := fun z => (hch p.1 z).2.2.2 p hp rfl
  exact ⟨keep p.1 p.2 ne nf nch e n, free p.1 p.2 nch e n, ne, nf, d⟩
theorem Inv.un {t' : Nat} (I : Inv X pins σ H s) (u : Un X.fs [] H H' s.heap h') (hok : HOk X.prog X.w H' h') : Inv X pins σ H' { s with heap := h', toks := t' } := by
 obtain ⟨m, ⟨o, es, ep, ho, r⟩, _⟩ := id I.loc
 obtain ⟨sl, hL⟩ := u.any ho I.free (by simp)
 exact I.step (g' := s.gens) (d' := s.drawn) (ch := []) (fun _ z => nomatch z) (fun b o _ hb _ e n => u.keep b o e n hb (by simp)) (fun b o _ hb _ e n => u.slot b o e n hb (by simp)) (fun b o _ e n => u.free b o e n (by simp)) (fun b o _ e => u.there b o e (by simp)) u.tups u.frzs u.tbls (fun m' hm => by
  obtain ⟨o', es', ep', ho', r'⟩ := hm
  rw [ho] at ho'; cases ho'
  exact ⟨_, es', ep', hL, r'⟩) hok I.bare
theorem Inv.call {g' : Array GenState} {t' : Nat} {d' : Drawn} {ch : List Addr} (I : Inv X pins σ H s) (u : Un (frs X.stack) ch H H' s.heap h') (hok : HOk X.prog X.w H' h') (hg : AllBare g')
  (hch : ∀ b ∈ ch, (b ∈ X.ex \/ X.s₀.heap.objs.size <= b) /\ b ≠ X.env.locals /\ (∀ x c, X.env.cells.lookup x = some c -> c ≠ b) /\ ∀ p ∈ X.pn ++ pins, p.1 ≠ b) :
  Inv X pins σ H' { s with heap := h', gens := g', drawn := d', toks := t' } := by
 obtain ⟨m, ⟨o, es, ep, ho, r⟩, _⟩ := id I.loc
 obtain ⟨sl, hL⟩ := u.any ho I.free fun z => (hch _ z).2.1 rfl
 exact I.step (ch := ch) hch (fun b o hL hb hc e n => u.keep b o e n (fun z => (alO.mp (I.stkSub b z)).elim hL hb) hc) (fun b o _ _ hc e n => u.any e n hc) (fun b o hc e n => u.free b o e n hc) (fun b o hc e => u.there b o e hc) u.tups u.frzs u.tbls (fun m' hm => by
  obtain ⟨o', es', ep', ho', r'⟩ := hm
  rw [ho] at ho'; cases ho'
  exact ⟨_, es', ep', hL, r'⟩) hok hg
theorem Inv.turned {t' : Nat} {it : Addr} (I : Inv X pins σ H s) (k : ∀ b o, b ≠ it -> s.heap.get? b = some o -> h'.get? b = some o) (hn : H it = none) (hL : it ≠ X.env.locals)
  (h1 : it ∈ X.ex \/ X.s₀.heap.objs.size <= it) (h2 : ∀ x c, X.env.cells.lookup x = some c -> c ≠ it) (h3 : ∀ p ∈ X.pn ++ pins, p.1 ≠ it) : Inv X pins σ H { s with heap := h', toks := t' } := by
 have nit : ∀ b u, H b = some u -> b ≠ it := fun b u e z => by rw [z, hn] at e; cases e
 refine I.step (g' := s.gens) (d' := s.drawn) (ch := [it]) (fun b hb => ?_) (fun b o _ _ hc e _ => k b o (fun z => hc (by simp [z])) e) (fun b o _ _ hc e _ => ⟨o.slots, k b o (fun z => hc (by simp [z])) e⟩) (fun _ _ _ _ n => n)
  (fun b o hc e => ⟨o, k b o (fun z => hc (by simp [z])) e⟩) (fun _ _ e => e) (fun _ _ _ e => e) (fun b ps e => ⟨#[], by rw [e]; simp⟩) (fun m hm => ?_) (fun b u e => ?_) I.bare
 ·have e : b = it := by simpa using hb
  subst e
  exact ⟨h1, hL, h2, h3⟩
 ·obtain ⟨o, es, ep, ho, r⟩ := hm
  exact ⟨o, es, ep, k _ o (amN hL) ho, r⟩
 ·refine (I.hok b u e).stay (fun c v hc q => k c v ?_ q) (fun _ q => q) fun _ _ q => q
  rcases hc with z | z
  ·rw [z]; exact nit b u e
  ·exact nit c _ z
theorem Inv.tok (I : Inv X pins σ H s) (t : Nat) : Inv X pins σ H { s with toks := t } := I.un (h' := s.heap) (t' := t) Un.refl I.hok
theorem Inv.kept {t' : Nat} (I : Inv X pins σ H s) (k : ∀ b u, s.heap.get? b = some u -> h'.get? b = some u) : Inv X pins σ H { s with heap := h', toks := t' } := I.un (Un.kept k) (I.hok.kept k)
theorem Inv.laid {a : Addr} {o : HO} {t' : Nat} (I : Inv X pins σ H s) (k : ∀ b u, s.heap.get? b = some u -> h'.get? b = some u) (hp : s.heap.objs.size <= a) (new : ObjOk X.prog X.w (upd H a o) h' a o) :
  Inv X pins σ (upd H a o) { s with heap := h', toks := t' } := I.un (Un.laid k hp (I.hok.fresh hp)) (I.hok.laid k hp new)
theorem Inv.write {x e : Addr} {o : HO} {t' : Nat} (I : Inv X pins σ H s) (mu : Mut (H x)) (he : e = x \/ H e = some (.own x)) (k : ∀ b u, b ≠ e -> s.heap.get? b = some u -> h'.get? b = some u) (heo : ∃ u, h'.get? e = some u)
  (new : ObjOk X.prog X.w (upd H x o) h' x o) : Inv X pins σ (upd H x o) { s with heap := h', toks := t' } := I.un (Un.write mu he k heo) (I.hok.write mu he k heo new)
theorem Inv.pins_of {pins' : List (Addr × Obj)} (I : Inv X pins σ H s) (h : ∀ p ∈ pins', s.heap.get? p.1 = some p.2 /\ H p.1 = none /\ p.1 ≠ X.env.locals /\ p.1 ∉ X.fs /\ ∀ v, p.2.data ≠ .cell v) : Inv X pins' σ H s :=
 ⟨I.ok, I.os, I.bare, I.base, I.loc, I.cell, I.free, I.freeC, fun p hp => (amh.mp hp).elim (fun z => I.pin p (amt _ z)) (h p), I.hok, I.len⟩
theorem acq {N : List Str} (hN : N.Nodup) {i j : Nat} {x : Str} (a : N[i]? = some x) (b : N[j]? = some x) : i = j := by
 obtain ⟨h1, e1⟩ := alG.mp a
 obtain ⟨h2, e2⟩ := alG.mp b
 exact (aoi hN).mp (e1.trans e2.symm)
theorem aaY {M : Model} {A : Around} {E : Value -> Shared -> Prop} {i : Nat} {x : Str} {v : V} {u : Value} {Q : Unit -> Shared -> Prop} (I : Inv X pins σ H s) (hN : X.N.Nodup) (hi : X.N[i]? = some x) (hx : Loc X.env.scope x) (r : RelV v u)
  (h : ∀ s', Inv X pins (σ.set i (some v)) H s' -> (∃ a, ani a s.heap s'.heap /\ (a = X.env.locals \/ X.env.cells.lookup x = some a)) -> Q () s') (hf : X.fn x = true \/ X.env.scope.names.lookup x = some .local := by first | exact .inl rfl | exact .inr rfl | assumption) : wpAny M A (storeName X.env x u) Q E s := by
 obtain ⟨m, hn, hl⟩ := id I.loc
 have hcls : (X.env.scope.kind == .class || (X.env.scope.kind == .module && X.env.locals != X.env.globals)) = false := by rw [I.ok.kind]; rfl
 have hiσ : i < σ.length := by rw [I.len]; exact (alG.mp hi).1
 have cne := I.cne
 have tracked : ∀ {a : Addr} {h' : Heap}, (∃ o, s.heap.get? a = some o /\ H a = none) -> ani a s.heap h' -> HOk X.prog X.w H h' := fun {a h'} ha hs b ob e => by
  obtain ⟨_, _, hfree⟩ := ha
  refine (I.hok b ob e).stay (fun c w' hc q => (hs.2 c ?_).trans q) (fun _ q => q) fun _ _ q => q
  rintro rfl
  rcases hc with rfl | hc
  ·rw [hfree] at e; cases e
  ·rw [hfree] at hc; cases hc
 rcases hx with hk | hk
 ·refine wpAny_storeName_local hk hn (fun h' hn' hs => ?_) hcls
  obtain ⟨oL, _, _, hoL, _⟩ := id hn
  refine h _ ⟨I.ok, I.os, I.bare, ⟨fun b o e n hb hx => ?_, fun b o e n hb hx => ?_, I.base.free, fun b o e hx => ?_, I.base.tups, I.base.frzs, I.base.tbls⟩, ⟨_, hn', fun j y v' e1 e2 e3 => ?_⟩, fun y c e => ?_, I.free, I.freeC, fun p hp => ?_, tracked ⟨oL, hoL, I.free⟩ hs, by simpa using I.len⟩ ⟨_, hs, .inl rfl⟩
  ·exact (hs.2 b (amd (al0 (alT e) I.ok.above))).trans (I.base.keep b o e n hb hx)
  ·obtain ⟨sl, e1⟩ := I.base.slot b o e n hb hx
   exact ⟨sl, (hs.2 b (amd (al0 (alT e) I.ok.above))).trans e1⟩
  ·obtain ⟨o', e1⟩ := I.base.there b o e hx
   exact ⟨o', (hs.2 b (amd (al0 (alT e) I.ok.above))).trans e1⟩
  ·by_cases hj : j = i
   ·subst hj
    rw [hi] at e1; cases e1
    rw [amV hiσ] at e2
    cases e2
    exact ⟨u, r, .inl ⟨hk, by simp⟩⟩
   ·rw [anr (amN hj)] at e2
    obtain ⟨u', r', q⟩ := hl j y v' e1 e2 e3
    refine ⟨u', r', ?_⟩
    rcases q with ⟨k, e⟩ | ⟨k, c, e, z⟩
    ·refine .inl ⟨k, ?_⟩
     have : y ≠ x := fun e => hj (acq hN e1 (e ▸ hi))
     simp [this, e]
    ·exact .inr ⟨k, c, e, z.sameBut hs (cne y c e)⟩
  ·obtain ⟨w', z⟩ := I.cell y c e
   exact ⟨w', z.sameBut hs (cne y c e)⟩
  ·obtain ⟨e, n, ne, nf, d⟩ := I.pin p hp
   exact ⟨(hs.2 p.1 ne).trans e, n, ne, nf, d⟩
 ·have hfn : X.fn x = true := by
   rcases hf with z | z
   ·exact z
   ·rw [z] at hk; cases hk
  obtain ⟨c, hc⟩ := I.ok.has x (.inl hk)
  obtain ⟨w', z⟩ := I.cell x c hc
  refine wpAny_storeName_cell I.ok.kind hk hc z (fun h' hc' hs => ?_)
  obtain ⟨oc, hoc, hocd⟩ := id z
  refine h { s with heap := h' } ⟨I.ok, I.os, I.bare, ⟨fun b o e n hb hx => ?_, fun b o e n hb hx => ?_, I.base.free, fun b o e hx => ?_, I.base.tups, I.base.frzs, I.base.tbls⟩, ⟨m, hn.sameBut hs (amN (cne x c hc)), fun j y v' e1 e2 e3 => ?_⟩, fun y c' e => ?_, I.free, I.freeC, fun p hp => ?_, tracked ⟨oc, hoc, I.freeC x c hc⟩ hs, by simpa using I.len⟩ ⟨c, hs, .inr hc⟩
  ·exact (hs.2 b (amd (al0 (alT e) (I.ok.cab x c hfn hc)))).trans (I.base.keep b o e n hb hx)
  ·obtain ⟨sl, e1⟩ := I.base.slot b o e n hb hx
   exact ⟨sl, (hs.2 b (amd (al0 (alT e) (I.ok.cab x c hfn hc)))).trans e1⟩
  ·obtain ⟨o', e1⟩ := I.base.there b o e hx
   exact ⟨o', (hs.2 b (amd (al0 (alT e) (I.ok.cab x c hfn hc)))).trans e1⟩
  ·by_cases hj : j = i
   ·subst hj
    rw [hi] at e1; cases e1
    rw [amV hiσ] at e2
    cases e2
    exact ⟨u, r, .inr ⟨.inl hk, c, hc, hc'⟩⟩
   ·rw [anr (amN hj)] at e2
    obtain ⟨u', r', q⟩ := hl j y v' e1 e2 e3
    refine ⟨u', r', ?_⟩
    rcases q with q | ⟨k, c', e, z'⟩
    ·exact .inl q
    ·refine .inr ⟨k, c', e, z'.sameBut hs ?_⟩
     rintro rfl
     exact hj (acq hN e1 (I.ok.inj _ _ _ e hc ▸ hi))
  ·by_cases hcc : c' = c
   ·subst hcc; exact ⟨_, hc'⟩
   ·obtain ⟨w2, z2⟩ := I.cell y c' e
    exact ⟨w2, z2.sameBut hs hcc⟩
  ·obtain ⟨e, n, ne, nf, d⟩ := I.pin p hp
   refine ⟨(hs.2 p.1 ?_).trans e, n, ne, nf, d⟩
   intro q
   rw [q, hoc] at e
   have q' : oc = p.2 := Option.some.inj e
   exact d w' (by rw [<- q']; exact hocd)
theorem qO {M : Model} {A : Around} {E : Value -> Shared -> Prop} {i : Nat} {x : Str} {v : V} {u : Value} {Q : Unit -> Shared -> Prop} (I : Inv X pins σ H s) (hN : X.N.Nodup) (hi : X.N[i]? = some x) (hx : Loc X.env.scope x) (r : RelV v u)
  (h : ∀ s', Inv X pins (σ.set i (some v)) H s' -> Q () s') (hf : X.fn x = true \/ X.env.scope.names.lookup x = some .local := by first | exact .inl rfl | exact .inr rfl | assumption) : wpAny M A (storeName X.env x u) Q E s :=
 aaY I hN hi hx r (fun s' I' _ => h s' I') hf
theorem Inv.call' {s' : Shared} {ch : List Addr} (I : Inv X pins σ H s) (ho : s'.os = s.os) (u : Un (frs X.stack) ch H H' s.heap s'.heap) (hok : HOk X.prog X.w H' s'.heap) (hg : AllBare s'.gens)
  (hch : ∀ b ∈ ch, (b ∈ X.ex \/ X.s₀.heap.objs.size <= b) /\ b ≠ X.env.locals /\ (∀ x c, X.env.cells.lookup x = some c -> c ≠ b) /\ ∀ p ∈ X.pn ++ pins, p.1 ≠ b) : Inv X pins σ H' s' := by
 obtain ⟨h', g', d', t', o'⟩ := s'
 have e : o' = s.os := ho
 subst e
 exact I.call (g' := g') (t' := t') (d' := d') u hok hg hch
end
abbrev XK := Value -> Option Addr -> Hp -> Prop
abbrev St := List (Option V)
abbrev VK := V -> Hp -> Prop
abbrev TE := St -> Hp -> VK -> Prop
abbrev TT := St -> Hp -> (Bool -> Hp -> Prop) -> Prop
abbrev TA := St -> Hp -> (List V -> Hp -> Prop) -> Prop
structure Ends where
 nx : St -> Hp -> Prop
 rt : VK
 bk : St -> Hp -> Prop := fun _ _ => False
 ct : St -> Hp -> Prop := fun _ _ => False
abbrev TS := Ends -> St -> Hp -> Prop
def EP (X : Cx) (pins : List (Addr × Obj)) (σ : St) (Q : VK) (u : Value) (s' : Shared) : Prop := ∃ v H', Inv X pins σ H' s' /\ RelV v u /\ Q v H'
def TP (X : Cx) (pins : List (Addr × Obj)) (σ : St) (Q : Bool -> Hp -> Prop) (b : Bool) (s' : Shared) : Prop := ∃ H', Inv X pins σ H' s' /\ Q b H'
def AP (X : Cx) (pins : List (Addr × Obj)) (σ : St) (Q : List V -> Hp -> Prop) (us : List Value) (s' : Shared) : Prop := ∃ vs H', Inv X pins σ H' s' /\ Vals vs us /\ Q vs H'
def SP (X : Cx) (pins : List (Addr × Obj)) (D : Ends) (f : Flow) (s' : Shared) : Prop :=
 match f with
 | .next => ∃ σ' H', Inv X pins σ' H' s' /\ D.nx σ' H'
 | .brk => ∃ σ' H', Inv X pins σ' H' s' /\ D.bk σ' H'
 | .cont => ∃ σ' H', Inv X pins σ' H' s' /\ D.ct σ' H'
 | .ret u => ∃ v σ' H', Inv X pins σ' H' s' /\ RelV v u /\ D.rt v H'
def PE (X : Cx) (e : Expr) (t : TE) : Prop :=
 ∀ (pins : List (Addr × Obj)) (s : Shared) (σ : St) (H : Hp) (Q : VK), Inv X pins σ H s -> t σ H Q -> wpAny (model X.prog X.w) X.A (eval e X.env) (EP X pins σ Q) X.xe s
def PT (X : Cx) (e : Expr) (t : TT) : Prop :=
 ∀ (pins : List (Addr × Obj)) (s : Shared) (σ : St) (H : Hp) (Q : Bool -> Hp -> Prop), Inv X pins σ H s -> t σ H Q -> wpAny (model X.prog X.w) X.A (isTrue e X.env (eval e X.env)) (TP X pins σ Q) X.xe s
def PW (X : Cx) (e : Expr) (t : TT) : Prop :=
 ∀ (whole : Sem Value) (pins : List (Addr × Obj)) (s : Shared) (σ : St) (H : Hp) (Q : Bool -> Hp -> Prop), Inv X pins σ H s -> t σ H Q -> wpAny (model X.prog X.w) X.A (isTrue e X.env whole) (TP X pins σ Q) X.xe s
theorem PW.pt {X : Cx} {e : Expr} {t : TT} (h : PW X e t) : PT X e t := h _
def PA (X : Cx) (es : List Expr) (t : TA) : Prop :=
 ∀ (pos : Pos) (pins : List (Addr × Obj)) (s : Shared) (σ : St) (H : Hp) (Q : List V -> Hp -> Prop), Inv X pins σ H s -> t σ H Q -> wpAny (model X.prog X.w) X.A (spliced (backTo pos (starEach es X.env))) (AP X pins σ Q) X.xe s
def PS (X : Cx) (st : Stmt) (t : TS) : Prop :=
 ∀ (pins : List (Addr × Obj)) (s : Shared) (σ : St) (H : Hp) (D : Ends), Inv X pins σ H s -> t D σ H -> wpAny (model X.prog X.w) X.A (exec st X.env) (SP X pins D) X.xe s
def PSs (X : Cx) (st : List Stmt) (t : TS) : Prop :=
 ∀ (pins : List (Addr × Obj)) (s : Shared) (σ : St) (H : Hp) (D : Ends), Inv X pins σ H s -> t D σ H -> wpAny (model X.prog X.w) X.A (execs st X.env) (SP X pins D) X.xe s
theorem thn {α : Type} {t : Sem α} {Q Q' : α -> Shared -> Prop} {M : Model} {A : Around} {E : Value -> Shared -> Prop} {s : Shared} (h : wpAny M A t Q E s) (hQ : ∀ a s, Q a s -> Q' a s) : wpAny M A t Q' E s := wpAny_mono h hQ fun _ _ x => x
end L2
namespace L2
open PySem PySem.Spec PyProof.Rows
section
variable {X : Cx}
def yg (i : Nat) : TE := fun σ H Q => ∃ v, σ[i]? = some (some v) /\ Q v H
def tC (v : V) : TE := fun _ H Q => Q v H
theorem ajM {i : Nat} {x : Str} {pos : Pos} (hN : X.N[i]? = some x) (hv : Vis X.env.scope x) (hd : (x == ("__debug__" : Str)) = false := by decide) (hcd : (x == ("__classdict__" : Str)) = false := by decide) : PE X (.Name x pos) (yg i) := by
 intro pins s σ H Q I h
 obtain ⟨v, e, h⟩ := h
 obtain ⟨m, hn, hl⟩ := I.loc
 obtain ⟨u, r, l⟩ := hl i x v hN e hv
 have fin : EP X pins σ Q u s := ⟨v, H, I, r, h⟩
 rcases l with ⟨hk, hm⟩ | ⟨hk, c, hc, hcell⟩
 ·exact wpAny_Name (wpAny_loadName_local I.ok.kind hk hn hm fin) hd
 ·rcases hk with hk | hk
  ·exact wpAny_Name (wpAny_loadName_cell I.ok.kind hk hc hcell fin) hd
  ·exact wpAny_Name (wpAny_loadName_free I.ok.kind hk hc hcell fin hcd) hd
theorem zd {i j pos} : PE X (.Constant (.int i) j pos) (tC (.int i)) := fun _ _ _ H _ I h => wpAny_Constant_int ⟨.int i, H, I.tok _, ⟨_, rfl⟩, h⟩
theorem vJ {b j pos} : PE X (.Constant (.bool b) j pos) (tC (.bl b)) := fun _ _ _ H _ I h => Constant_bool ⟨.bl b, H, I, rfl, h⟩
theorem abx {j pos} : PE X (.Constant .none j pos) (tC .non) := fun _ _ _ H _ I h => Constant_none ⟨.non, H, I, rfl, h⟩
theorem qE {x j pos} : PE X (.Constant (.str x) j pos) (tC (.str x)) := fun _ _ _ H _ I h => Calls.Constant_str ⟨.str x, H, I.tok _, ⟨_, rfl⟩, h⟩
def Gl (X : Cx) (x : Str) : Prop := X.env.kindOf x = some .globalImplicit
theorem aby {E : Value -> Shared -> Prop} {pins : List (Addr × Obj)} {s : Shared} {σ : St} {H : Hp} {x : Str} {u : Value} {pos : Pos} {Q : Value -> Shared -> Prop} (I : Inv X pins σ H s) (hg : Gl X x) (hm : X.mg x = some u) (h : Q u s)
  (hd : (x == ("__debug__" : Str)) = false := by decide) : wpAny (model X.prog X.w) X.A (eval (.Name x pos) X.env) Q E s :=
 aov I.ok.kind hg (Calls.loadGlobal_global (by rw [I.ok.glob]; exact I.mod.glob.keeps I.bk) hm h) hd
theorem vt {E : Value -> Shared -> Prop} {pins : List (Addr × Obj)} {s : Shared} {σ : St} {H : Hp} {x : Str} {u : Value} {pos : Pos} {Q : Value -> Shared -> Prop} (I : Inv X pins σ H s) (hg : Gl X x) (hm : X.mg x = none) (hv : bootBuiltins x = some u) (h : Q u s)
  (hn : x ≠ "__name__" := by decide) (hd : (x == ("__debug__" : Str)) = false := by decide) : wpAny (model X.prog X.w) X.A (eval (.Name x pos) X.env) Q E s := by
 obtain ⟨mb, h1, h2⟩ := I.mod.blt
 exact aov I.ok.kind hg (Calls.loadGlobal_builtin (by rw [I.ok.glob]; exact I.mod.glob.keeps I.bk) hm (by rw [I.ok.blt]; exact h1.keeps I.bk) ((h2 x hn).trans hv) h) hd
theorem ah4 {x : Str} {v : V} {u : Value} {pos : Pos} (hg : Gl X x) (hm : X.mg x = some u) (r : RelV v u) (hd : (x == ("__debug__" : Str)) = false := by decide) : PE X (.Name x pos) (tC v) :=
 fun _ _ _ H _ I h => aby I hg hm ⟨v, H, I, r, h⟩ hd
theorem abz {x : Str} {v : V} {u : Value} {pos : Pos} (hg : Gl X x) (hm : X.mg x = none) (hv : bootBuiltins x = some u) (r : RelV v u) (hn : x ≠ "__name__" := by decide) (hd : (x == ("__debug__" : Str)) = false := by decide) : PE X (.Name x pos) (tC v) :=
 fun _ _ _ H _ I h => vt I hg hm hv ⟨v, H, I, r, h⟩ hn hd
variable {a b : Expr} {ta tb : TE} {pos : Pos}
def tB (t : TE) : TT := fun σ H Q => t σ H fun x H1 => ∃ c, x = .bl c /\ Q c H1
variable {tA tB' : TT} {rest : List Expr}
def akU (t u : TT) : TT := fun σ H Q => t σ H fun c H1 => if c = true then u σ H1 Q else Q false H1
def tOr (t u : TT) : TT := fun σ H Q => t σ H fun c H1 => if c = true then Q true H1 else u σ H1 Q
def akV (t : TT) : TT := fun σ H Q => t σ H fun c H1 => Q (!c) H1
theorem ah5 (ha : PT X a tA) : PW X (.BoolOp .And [a] pos) tA := by
 intro wh pins s σ H Q I h
 refine isTrue_and (thn (ha pins s σ H Q I h) fun c s1 e => ?_)
 cases c with
 | true => exact isTrue_and_nil e
 | false => exact e
theorem abA (ha : PT X a tA) : PW X (.BoolOp .Or [a] pos) tA := by
 intro wh pins s σ H Q I h
 refine isTrue_or (thn (ha pins s σ H Q I h) fun c s1 e => ?_)
 cases c with
 | false => exact isTrue_or_nil e
 | true => exact e
theorem ajN (ha : PT X a tA) (hb : PW X (.BoolOp .And (b :: rest) pos) tB') : PW X (.BoolOp .And (a :: b :: rest) pos) (akU tA tB') := by
 intro wh pins s σ H Q I h
 refine isTrue_and (thn (ha pins s σ H _ I h) fun c s1 ⟨H1, I1, q1⟩ => ?_)
 cases c with
 | true => exact hb wh pins s1 σ H1 Q I1 q1
 | false => exact ⟨H1, I1, q1⟩
theorem aaZ (ha : PT X a tA) (hb : PW X (.BoolOp .Or (b :: rest) pos) tB') : PW X (.BoolOp .Or (a :: b :: rest) pos) (tOr tA tB') := by
 intro wh pins s σ H Q I h
 refine isTrue_or (thn (ha pins s σ H _ I h) fun c s1 ⟨H1, I1, q1⟩ => ?_)
 cases c with
 | true => exact ⟨H1, I1, q1⟩
 | false => exact hb wh pins s1 σ H1 Q I1 q1
theorem vu (ha : PT X a tA) : PT X (.UnaryOp .Not a pos) (akV tA) := by
 intro pins s σ H Q I h
 exact isTrue_not (ha pins s σ H (fun c H1 => Q (!c) H1) I h)
def ajl (ta tb : TE) : TE := fun σ H Q => ta σ H fun x H1 => ∃ c, x = .bl c /\ if c = true then tb σ H1 Q else Q (.bl false) H1
def ajm (ta : TE) : TE := fun σ H Q => ta σ H fun x H1 => ∃ c, x = .bl c /\ Q (.bl (!c)) H1
theorem adD {op} {t : TE} (h : PE X a t) : PE X (.BoolOp op [a] pos) t := fun pins s σ H Q I hw => BoolOp_one (h pins s σ H Q I hw)
theorem abB (ha : PE X a ta) (hb : PE X (.BoolOp .And (b :: rest) pos) tb) : PE X (.BoolOp .And (a :: b :: rest) pos) (ajl ta tb) := by
 intro pins s σ H Q I h
 refine BoolOp_and (thn (ha pins s σ H _ I h) fun v s1 ⟨x, H1, I1, r1, q1⟩ => ?_)
 obtain ⟨c, rfl, q1⟩ := q1
 cases r1
 refine wpAny_truthy_bool ?_
 cases c with
 | true => exact hb pins s1 σ H1 Q I1 q1
 | false => exact ⟨.bl false, H1, I1, rfl, q1⟩
theorem ajO (ha : PE X a ta) : PE X (.UnaryOp .Not a pos) (ajm ta) := by
 intro pins s σ H Q I h
 refine UnaryOp_ (thn (ha pins s σ H _ I h) fun v s1 ⟨x, H1, I1, r1, q1⟩ => ?_)
 obtain ⟨c, rfl, q1⟩ := q1
 cases r1
 exact not_of (wpAny_truthy_bool ⟨.bl (!c), H1, I1, rfl, q1⟩)
def tIf (t : TT) (ta tb : TE) : TE := fun σ H Q => t σ H fun c H1 => if c = true then ta σ H1 Q else tb σ H1 Q
theorem qP {c : Expr} (hc : PT X c tA) (ha : PE X a ta) (hb : PE X b tb) : PE X (.IfExp c a b pos) (tIf tA ta tb) := by
 intro pins s σ H Q I h
 refine wpAny_IfExp (thn (hc pins s σ H _ I h) fun d s1 ⟨H1, I1, q1⟩ => ?_)
 cases d with
 | true => exact ha pins s1 σ H1 Q I1 q1
 | false => exact hb pins s1 σ H1 Q I1 q1
end
end L2
namespace L2
open PySem PySem.Spec PyProof.Rows
def SqL (K : alE) (H : Hp) (a : Addr) (xs : List V) : Prop :=
 Rd H a (.lst xs) \/
  ∃ (o : Obj) (its : Array Value) (n : Nat), K.lookup a = some o /\ o.cls = .type "list" /\ o.dict = none /\ o.data = .seq its n /\ its.size <= sizeLine /\ Vals xs its.toList
def SqT (K : alE) (H : Hp) (a : Addr) (xs : List V) : Prop :=
 Rd H a (.tup xs) \/
  ∃ (o : Obj) (its : Array Value) (n : Nat), K.lookup a = some o /\ o.cls = .type "tuple" /\ o.data = .seq its n /\ its.size <= sizeLine /\ Vals xs its.toList
def als : Value -> Option V
 | .none => some .non
 | .bool b => some (.bl b)
 | .int i _ => some (.int i)
 | .str x _ => some (.str x)
 | .bytes b _ => some (.byt b)
 | .float b _ => some (.flt b)
 | .ref a => some (.ref a)
 | .type n => some (.ty n)
 | _ => none
theorem RelV.abs {x : V} {u : Value} (r : RelV x u) : als u = some x := by
 cases x with
 | non => cases r; rfl
 | bl _ => cases r; rfl
 | int _ => obtain ⟨t, rfl⟩ := r; rfl
 | str _ => obtain ⟨t, rfl⟩ := r; rfl
 | byt _ => obtain ⟨t, rfl⟩ := r; rfl
 | flt _ => obtain ⟨t, rfl⟩ := r; rfl
 | ref _ => cases r; rfl
 | ty _ => cases r; rfl
theorem RelV.inj {x y : V} {u : Value} (r : RelV x u) (q : RelV y u) : x = y := Option.some.inj (r.abs.symm.trans q.abs)
theorem Vals.inj : ∀ {xs ys : List V} {us : List Value}, Vals xs us -> Vals ys us -> xs = ys
 | _, _, _, .nil, .nil => rfl
 | _, _, _, .cons r t, .cons r' t' => by rw [r.inj r', Vals.inj t t']
section
variable {X : Cx} {pins : List (Addr × Obj)} {σ : St} {H : Hp} {s : Shared} {a : Addr} {xs ys : List V}
theorem SqL.of {K : alE} (h : H a = some (.lst xs)) : SqL K H a xs := .inl (.inl h)
theorem SqT.of {K : alE} (h : H a = some (.tup xs)) : SqT K H a xs := .inl (.inl h)
theorem Inv.list (I : Inv X pins σ H s) (h : SqL X.K H a xs) : ∃ its : List Value, Vals xs its /\ PlainL s.heap a its.toArray /\ xs.length <= sizeLine := by
 rcases h with h | ⟨o, its, n, hk, hc, hd, hs, hz, r⟩
 ·obtain ⟨z, its, n, r, e⟩ := h.ok I.hok
  exact ⟨its, r, ⟨_, n, e, rfl, rfl, rfl⟩, z⟩
 ·refine ⟨its.toList, r, ⟨o, n, I.kIn a o hk, hc, hd, by simpa using hs⟩, ?_⟩
  have e := r.length
  simp only [alS] at e
  omega
theorem Inv.tuple (I : Inv X pins σ H s) (h : SqT X.K H a xs) : ∃ its : List Value, Vals xs its /\ IsTup s.heap a its.toArray /\ xs.length <= sizeLine := by
 rcases h with h | ⟨o, its, n, hk, hc, hs, hz, r⟩
 ·obtain ⟨z, its, r, p⟩ := h.ok I.hok
  exact ⟨its, r, p, z⟩
 ·refine ⟨its.toList, r, ⟨o, I.kIn a o hk, hc, n, by simpa using hs⟩, ?_⟩
  have e := r.length
  simp only [alS] at e
  omega
theorem Inv.list_inj (I : Inv X pins σ H s) (h : SqL X.K H a xs) (h' : SqL X.K H a ys) : xs = ys := by
 obtain ⟨its, r, ⟨o, n, e, _, _, d⟩, _⟩ := I.list h
 obtain ⟨its', r', ⟨o', n', e', _, _, d'⟩, _⟩ := I.list h'
 rw [e] at e'; cases e'
 rw [d] at d'
 injection d' with d1 _
 have : its = its' := by simpa using congrArg Array.toList d1
 subst this
 exact r.inj r'
theorem Inv.tuple_inj (I : Inv X pins σ H s) (h : SqT X.K H a xs) (h' : SqT X.K H a ys) : xs = ys := by
 obtain ⟨its, r, ⟨o, e, _, n, d⟩, _⟩ := I.tuple h
 obtain ⟨its', r', ⟨o', e', _, n', d'⟩, _⟩ := I.tuple h'
 rw [e] at e'; cases e'
 rw [d] at d'
 injection d' with d1 _
 have : its = its' := by simpa using congrArg Array.toList d1
 subst this
 exact r.inj r'
end
abbrev Cx.wish (X : Cx) (E : Value -> Shared -> Prop) : Cx := { X with xe := E }
abbrev Cx.nox (X : Cx) : Cx := X.wish fun _ _ => False
theorem Cx.Ok.wish {X : Cx} (ok : X.Ok) (E : Value -> Shared -> Prop) : (X.wish E).Ok :=
 ⟨ok.mod, ok.kind, ok.glob, ok.blt, ok.above, ok.inj, ok.has, ok.cab, ok.hd, ok.frames, ok.stk, ok.exf, ok.bs, ok.bsz, ok.noex, ok.exfs, ok.funs, ok.frf⟩
theorem Cx.Ok.unwish {X : Cx} {E : Value -> Shared -> Prop} (ok : (X.wish E).Ok) : X.Ok :=
 ⟨ok.mod, ok.kind, ok.glob, ok.blt, ok.above, ok.inj, ok.has, ok.cab, ok.hd, ok.frames, ok.stk, ok.exf, ok.bs, ok.bsz, ok.noex, ok.exfs, ok.funs, ok.frf⟩
section
variable {X : Cx} {pins : List (Addr × Obj)} {σ : St} {H : Hp} {s : Shared} {E : Value -> Shared -> Prop}
theorem Inv.wish (I : Inv X pins σ H s) (E : Value -> Shared -> Prop) : Inv (X.wish E) pins σ H s := ⟨I.ok.wish E, I.os, I.bare, I.base, I.loc, I.cell, I.free, I.freeC, I.pin, I.hok, I.len⟩
theorem Inv.unwish (I : Inv (X.wish E) pins σ H s) : Inv X pins σ H s := ⟨I.ok.unwish, I.os, I.bare, I.base, I.loc, I.cell, I.free, I.freeC, I.pin, I.hok, I.len⟩
theorem SP.unwish {D : Ends} {f : Flow} {s' : Shared} (h : SP (X.wish E) pins D f s') : SP X pins D f s' := by
 cases f with
 | next => obtain ⟨σ', H', I, q⟩ := h; exact ⟨σ', H', I.unwish, q⟩
 | brk => obtain ⟨σ', H', I, q⟩ := h; exact ⟨σ', H', I.unwish, q⟩
 | cont => obtain ⟨σ', H', I, q⟩ := h; exact ⟨σ', H', I.unwish, q⟩
 | ret u => obtain ⟨v, σ', H', I, r, q⟩ := h; exact ⟨v, σ', H', I.unwish, r, q⟩
theorem PSs.nox {st : List Stmt} {t : TS} (h : PSs X.nox st t) : PSs X st t := fun pins s σ H D I hw =>
 wpAny_mono (h pins s σ H D (I.wish _) hw) (fun _ _ q => q.unwish) fun _ _ z => anj z
end
section
variable {X : Cx} {st : Stmt} {rest : List Stmt} {t u : TS} {e : Expr} {te : TE} {pos : Pos}
def ael : TS := fun D σ H => D.nx σ H
def vT (t u : TS) : TS := fun D σ H => t { D with nx := u D } σ H
theorem zP : PSs X [] ael := fun _ _ σ H _ I h => wpAny_execs_nil ⟨σ, H, I, h⟩
theorem zc (h1 : PS X st t) (h2 : PSs X rest u) : PSs X (st :: rest) (vT t u) := by
 intro pins s σ H D I h
 refine wpAny_execs_cons (thn (h1 pins s σ H { D with nx := u D } I h) fun f s1 q => ?_)
 cases f with
 | next =>
  obtain ⟨σ', H', I', q⟩ := q
  exact h2 pins s1 σ' H' D I' q
 | ret v => exact q
 | brk => exact q
 | cont => exact q
theorem zh (h1 : PS X st t) : PSs X [st] t := by
 intro pins s σ H D I h
 refine wpAny_execs_cons (thn (h1 pins s σ H D I h) fun f s1 q => ?_)
 cases f with
 | next => exact wpAny_execs_nil q
 | ret v => exact q
 | brk => exact q
 | cont => exact q
theorem Inv.quiet {pins : List (Addr × Obj)} {σ : St} {H : Hp} {s : Shared} (I : Inv X pins σ H s) : interactive X.env = false := by simp [interactive, I.ok.kind]
def aem (te : TE) : TS := fun D σ H => te σ H fun _ H1 => D.nx σ H1
theorem yM (he : PE X e te) (hs : swapsWith e none pos.line X.env = pure false := by rfl) : PS X (.Expr e pos) (aem te) := by
 intro pins s σ H D I h
 exact wpAny_Expr_any (thn (he pins s σ H _ I h) fun v s1 ⟨x, H1, I1, r1, q1⟩ => ⟨σ, H1, I1, q1⟩) I.quiet hs
def afq (te : TE) : TS := fun D σ H => te σ H D.rt
theorem zu (he : PE X e te) : PS X (.Return (some e) pos) (afq te) := by
 intro pins s σ H D I h
 exact wpAny_Return_some (thn (he pins s σ H _ I h) fun v s1 ⟨x, H1, I1, r1, q1⟩ => ⟨x, σ, H1, I1, r1, q1⟩)
def afr (c : TT) (t u : TS) : TS := fun D σ H => c σ H fun b H1 => if b = true then t D σ H1 else u D σ H1
theorem yt {c : Expr} {a b : List Stmt} {tc : TT} (hc : PT X c tc) (ha : PSs X a t) (hb : PSs X b u) : PS X (.If c a b pos) (afr tc t u) := by
 intro pins s σ H D I h
 refine wpAny_If (thn (hc pins s σ H _ I h) fun d s1 ⟨H1, I1, q1⟩ => ?_)
 cases d with
 | true => exact ha pins s1 σ H1 D I1 q1
 | false => exact hb pins s1 σ H1 D I1 q1
def ajP : TS := fun _ _ _ => False
theorem acr : PS X st ajP := fun _ _ _ _ _ _ h => h.elim
end
abbrev TG := V -> St -> Hp -> (St -> Hp -> Prop) -> Prop
abbrev TGs := List V -> St -> Hp -> (St -> Hp -> Prop) -> Prop
def PG (X : Cx) (target : Expr) (t : TG) : Prop :=
 ∀ (pins : List (Addr × Obj)) (s : Shared) (σ : St) (H : Hp) (v : V) (u : Value) (Q : St -> Hp -> Prop), Inv X pins σ H s -> RelV v u -> t v σ H Q ->
  wpAny (model X.prog X.w) X.A (assign target X.env u) (fun _ s' => ∃ σ' H', Inv X pins σ' H' s' /\ Q σ' H') X.xe s
def PGs (X : Cx) (ts : List Expr) (t : TGs) : Prop :=
 ∀ (pins : List (Addr × Obj)) (s : Shared) (σ : St) (H : Hp) (vs : List V) (us : List Value) (Q : St -> Hp -> Prop), Inv X pins σ H s -> Vals vs us -> t vs σ H Q ->
  wpAny (model X.prog X.w) X.A (assignInOrder ((assignEach ts X.env).map (·.2)) us) (fun _ s' => ∃ σ' H', Inv X pins σ' H' s' /\ Q σ' H') X.xe s
abbrev ajQ := V -> V -> V -> Hp -> (Hp -> Prop) -> Prop
def ah6 (X : Cx) (t : ajQ) : Prop :=
 ∀ (pins : List (Addr × Obj)) (s : Shared) (σ : St) (H : Hp) (o i v : V) (ov iv u : Value) (Q : Hp -> Prop), Inv X pins σ H s -> RelV o ov -> RelV i iv -> RelV v u -> t o i v H Q ->
  wpAny (model X.prog X.w) X.A (setItem ov iv u) (fun _ s' => ∃ H', Inv X pins σ H' s' /\ Q H') X.xe s
section
variable {X : Cx} {pos : Pos}
def yP (i : Nat) : TG := fun v σ H Q => Q (σ.set i (some v)) H
theorem zf {i : Nat} {x : Str} (hN : X.N.Nodup) (hi : X.N[i]? = some x) (hx : Loc X.env.scope x) (hf : X.fn x = true \/ X.env.scope.names.lookup x = some .local := by first | exact .inl rfl | exact .inr rfl | assumption) : PG X (.Name x pos) (yP i) := by
 intro pins s σ H v u Q I r h
 exact wpAny_assign_Name (qO I hN hi hx r (fun s' I' => ⟨_, H, I', h⟩) hf)
def ah7 : TGs := fun vs σ H Q => vs = [] /\ Q σ H
def aah (t : TG) (u : TGs) : TGs := fun vs σ H Q => ∃ v r, vs = v :: r /\ t v σ H fun σ' H' => u r σ' H' Q
theorem zF : PGs X [] ah7 := by
 intro pins s σ H vs us Q I r h
 obtain ⟨e, h⟩ := h
 subst e
 cases r
 exact assignInOrder_nil ⟨σ, H, I, h⟩
theorem zg {e : Expr} {es : List Expr} {t : TG} {u : TGs} (h1 : PG X e t) (h2 : PGs X es u)
  (hs : (assignEach (e :: es) X.env).map (·.2) = assign e X.env :: (assignEach es X.env).map (·.2) := by rfl) : PGs X (e :: es) (aah t u) := by
 intro pins s σ H vs us Q I r h
 obtain ⟨v, vr, e1, h⟩ := h
 subst e1
 cases r with
 | cons r rr =>
  rw [hs]
  refine assignInOrder_cons (thn (h1 pins s σ H _ _ _ I r h) fun _ s1 ⟨σ1, H1, I1, q1⟩ => ?_)
  exact h2 pins s1 σ1 H1 _ _ Q I1 rr q1
def agu (K : alE) (n : Nat) (t : TGs) : TG := fun v σ H Q => ∃ a xs, v = .ref a /\ SqT K H a xs /\ xs.length = n /\ t xs σ H Q
theorem ajR {es : List Expr} {k : Nat} {t : TGs} {n : Nat} (hc : X.calm = true) (h : PGs X es t)
  (hn : (assignEach es X.env).length = n := by rfl) (hst : (assignEach es X.env).findIdx? (·.1) = none := by rfl) : PG X (.Tuple es k pos) (agu X.K n t) := by
 intro pins s σ H v u Q I r hw
 obtain ⟨a, xs, e1, hq, hl, hw⟩ := hw
 subst e1
 cases r
 obtain ⟨its, rv, ht, hz⟩ := I.tuple hq
 refine assign_Tuple_tuple (I.ok.hd hc) ht (by simp [hn, <- hl, rv.length]) hst fun h' hx => ?_
 have I1 : Inv X pins σ H { s with heap := h' } := I.kept (t' := s.toks) fun b o e => hx b o (amd (alT e)) e
 exact h pins _ σ H xs _ Q I1 (by simpa using rv) hw
def acs (to ti : TE) (t : ajQ) : TG := fun v σ H Q => to σ H fun o H1 => ti σ H1 fun i H2 => t o i v H2 fun H3 => Q σ H3
theorem abC {o i : Expr} {to ti : TE} {t : ajQ} (ho : PE X o to) (hi : PE X i ti) (hs : ah6 X t)
  (ha : ∀ v, assign (.Subscript o i pos) X.env v = (do
   let ov <- holding [v] (eval o X.env)
   let iv <- holding [v, ov] (eval i X.env)
   standAt pos
   holding [v, ov, iv] (setItem ov iv v)
   release [v, ov, iv] []) := by intro _; rfl) : PG X (.Subscript o i pos) (acs to ti t) := by
 intro pins s σ H v u Q I r h
 rw [ha]
 refine wpAny_bind (wpAny_holding (thn (ho pins s σ H _ I h) fun ov s1 ⟨x, H1, I1, r1, q1⟩ => ?_))
 refine wpAny_bind (wpAny_holding (thn (hi pins s1 σ H1 _ I1 q1) fun iv s2 ⟨y, H2, I2, r2, q2⟩ => ?_))
 refine wpAny_bind (wpAny_standAt (wpAny_bind (wpAny_holding (thn (hs pins s2 σ H2 x y v ov iv u _ I2 r1 r2 r q2) fun _ s3 ⟨H3, I3, q3⟩ => ?_))))
 exact wpAny_release ⟨σ, H3, I3, q3⟩
def qx (te : TE) (g : TG) : TS := fun D σ H => te σ H fun x H1 => g x σ H1 D.nx
theorem z8 {tg e : Expr} {te : TE} {g : TG} (he : PE X e te) (hg : PG X tg g) (hs : swapsWithSole [tg] e pos.line X.env = pure false := by rfl) (hw : swappedStores [tg] e X.env = pure none := by rfl)
  (h1 : (assignEach [tg] X.env).map (·.2) = [assign tg X.env] := by rfl) : PS X (.Assign [tg] e pos) (qx te g) := by
 intro pins s σ H D I h
 refine wpAny_Assign_stores (thn (he pins s σ H _ I h) fun v s1 ⟨x, H1, I1, r1, q1⟩ => ?_) hs hw
 rw [h1]
 exact thn (hg pins s1 σ H1 x v _ I1 r1 q1) fun _ s2 q => q
theorem zD {i : Nat} {x : Str} {e : Expr} {te : TE} {pos' : Pos} (hN : X.N.Nodup) (hi : X.N[i]? = some x) (hx : Loc X.env.scope x) (he : PE X e te) (hs : swapsWith e (some (.Name x pos')) pos.line X.env = pure false := by rfl) (hf : X.fn x = true \/ X.env.scope.names.lookup x = some .local := by first | exact .inl rfl | exact .inr rfl | assumption) :
  PS X (.Assign [.Name x pos'] e pos) (qx te (yP i)) := by
 intro pins s σ H D I h
 refine wpAny_Assign_Name (thn (he pins s σ H _ I h) fun v s1 ⟨y, H1, I1, r1, q1⟩ => ?_) hs
 exact qO I1 hN hi hx r1 (fun s2 I2 => ⟨_, H1, I2, q1⟩) hf
def akW (i j : Nat) (ta : TA) : TS := fun D σ H => ta σ H fun vs H1 => ∃ v w, vs = [v, w] /\ D.nx ((σ.set i (some v)).set j (some w)) H1
theorem agv {i j : Nat} {x y : Str} {a b : Expr} {ta : TA} {px py pt : Pos} {kt k2 pt2} (hc : X.calm = true) (hN : X.N.Nodup) (hi : X.N[i]? = some x) (hj : X.N[j]? = some y) (hij : i ≠ j)
  (hx : X.env.scope.names.lookup x = some .local) (hy : X.env.scope.names.lookup y = some .local) (ha : PA X [a, b] ta)
  (hw : swappedStores [.Tuple [.Name x px, .Name y py] kt pt] (.Tuple [a, b] k2 pt2) X.env = pure (some [x, y]))
  (hs : swapsWithSole [.Tuple [.Name x px, .Name y py] kt pt] (.Tuple [a, b] k2 pt2) pos.line X.env = pure false := by rfl) :
  PS X (.Assign [.Tuple [.Name x px, .Name y py] kt pt] (.Tuple [a, b] k2 pt2) pos) (akW i j ta) := by
 intro pins s σ H D I h
 rw [exec_Assign_arm]
 refine wpAny_bind (wpAny_standAt ?_)
 rw [hs]
 refine wpAny_bind (wpAny_pure ?_)
 rw [if_neg (by decide)]
 refine wpAny_bind (Tuple_ (thn (ha _ pins s σ H _ I h) fun us s1 ⟨vs, H1, I1, r1, q1⟩ => ?_))
 obtain ⟨v, w, e1, q1⟩ := q1
 subst e1
 obtain ⟨u1, u2, rfl, rv, rw'⟩ : ∃ u1 u2, us = [u1, u2] /\ RelV v u1 /\ RelV w u2 := by
  cases r1 with
  | cons p q =>
   cases q with
   | cons p' q' =>
    cases q'
    exact ⟨_, _, rfl, p, p'⟩
 refine wpAny_newObj_type ?_ (by show 2 <= sizeLine; decide)
 have I2 : Inv X pins σ H1 { s1 with heap := s1.heap.push { cls := .type "tuple", data := .seq [u1, u2].toArray } } := I1.kept (t' := s1.toks) fun b o e => alQ _ e
 rw [hw]
 refine wpAny_bind (wpAny_pure ?_)
 show wpAny (model X.prog X.w) X.A (do rule "assign.swapped-stores"; let items <- unpackItems (.ref s1.heap.objs.size) 2 none; assignInOrder [fun v => bindName X.env y v, fun v => bindName X.env x v] items.reverse; pure Flow.next) _ _ _
 refine wpAny_bind (wpAny_rule (wpAny_bind (unpackItems_tuple (items := #[u1, u2]) (I.ok.hd hc) (IsTup.new s1.heap _) fun h' hx' => ?_)))
 have I3 := I2.kept (h' := h') (t' := s1.toks) fun b o e => hx' b o (amd (alT e)) e
 show wpAny _ _ (assignInOrder [fun v => bindName X.env y v, fun v => bindName X.env x v] [u2, u1] >>= fun _ => pure Flow.next) _ _ _
 refine wpAny_bind (assignInOrder_cons (wpAny_bindName (qO I3 hN hj (.inl hy) rw' (fun s2 I4 => ?_) (.inr hy))))
 refine assignInOrder_cons (wpAny_bindName (qO I4 hN hi (.inl hx) rv (fun s3 I5 => assignInOrder_nil (wpAny_pure ?_)) (.inr hx)))
 rw [List.set_comm _ _ (amN hij)] at I5
 exact ⟨_, H1, I5, q1⟩
end
section
variable {X : Cx} {pos : Pos}
def adE (c : TT) (tb : TS) : TS := fun D σ H => ∃ W : Nat -> St -> Hp -> Prop, (∃ m, W m σ H) /\ ∀ m σ H, W m σ H ->
 c σ H fun b H1 => if b = true then ∃ N : St -> Hp -> Prop, (∀ σ' H', N σ' H' -> ∃ m', m' < m /\ W m' σ' H') /\ tb { D with nx := N, ct := N, bk := D.nx } σ H1 else D.nx σ H1
theorem acu {c : Expr} {body : List Stmt} {tc : TT} {tb : TS} (hp : PassesOwn (model X.prog X.w) X.A X.env X.xe) (hc : PT X c tc) (hb : PSs X body tb) : PS X (.While c body [] pos) (adE tc tb) := by
 intro pins s σ H D I h
 obtain ⟨W, ⟨m0, w0⟩, turn⟩ := h
 refine wpAny_While (codeAny_whileLoop (fun n s' => ∃ σ' H', Inv X pins σ' H' s' /\ W n σ' H') ?_ m0 ⟨σ, H, I, w0⟩)
 rintro n s1 ⟨σ1, H1, I1, w1⟩
 refine wpAny_passesOwn hp (thn (hc pins s1 σ1 H1 _ I1 (turn n σ1 H1 w1)) fun b s2 ⟨H2, I2, q2⟩ => ?_)
 cases b with
 | true =>
  obtain ⟨N, hN, q2⟩ := q2
  rw [if_pos rfl]
  refine wpAny_passesOwn hp (thn (hb pins s2 σ1 H2 _ I2 q2) fun f s3 q3 => ?_)
  cases f with
  | next =>
   obtain ⟨σ3, H3, I3, n3⟩ := q3
   obtain ⟨m', hm, w3⟩ := hN σ3 H3 n3
   exact ⟨m', hm, σ3, H3, I3, w3⟩
  | cont =>
   obtain ⟨σ3, H3, I3, n3⟩ := q3
   obtain ⟨m', hm, w3⟩ := hN σ3 H3 n3
   exact ⟨m', hm, σ3, H3, I3, w3⟩
  | brk => exact q3
  | ret v => exact q3
 | false =>
  rw [if_neg alC]
  exact wpAny_execs_nil ⟨σ1, H2, I2, q2⟩
end
structure It where
 go : Nat -> Hp -> Prop
 yld : Nat -> Hp -> V -> Hp -> Prop
 stop : Nat -> Hp -> Prop
def qQ (X : Cx) (pins : List (Addr × Obj)) (H : Hp) (b : Addr) : Prop :=
 H b = none /\ b ≠ X.env.locals /\ b ∉ X.fs /\ (b ∈ X.ex \/ X.s₀.heap.objs.size <= b) /\ (∀ x c, X.env.cells.lookup x = some c -> c ≠ b) /\ ∀ p ∈ X.pn ++ pins, p.1 ≠ b
theorem Inv.fpOk {X : Cx} {pins : List (Addr × Obj)} {σ : St} {H H' : Hp} {s : Shared} {b : Addr} (I : Inv X pins σ H s) (hb : s.heap.objs.size <= b) (hn : H' b = none) : qQ X pins H' b := by
 refine ⟨hn, anw (al0 I.lt hb), I.nofs hb, .inr (alZ I.sz hb), fun x c e z => ?_, fun p hp z => ?_⟩
 ·obtain ⟨v, q⟩ := I.cell x c e
  exact absurd (al0 q.lt (by rw [z]; exact hb)) (amZ _)
 ·exact absurd (al0 (alT (I.pin p hp).1) (by rw [z]; exact hb)) (amZ _)
structure Turn (P : Program) (w : World) (K : alE) (tg : Expr) (J : It) (fp : List Addr) (it : Addr) (tn : Nat -> Heap -> Prop) : Prop where
 mem : it ∈ fp
 obj : ∀ i h, tn i h -> ∀ b ∈ fp, ∃ o, h.get? b = some o /\ ∀ v, o.data ≠ .cell v
 keep : ∀ i h h', tn i h -> (∀ b ∈ fp, ∀ o, h.get? b = some o -> h'.get? b = some o) -> tn i h'
 item : ∀ (X : Cx), X.prog = P -> X.w = w -> X.K = K -> X.calm = true -> ∀ (i : Nat) (pins : List (Addr × Obj)) (s : Shared) (σ : St) (H : Hp) (E : Value -> Shared -> Prop), Inv X pins σ H s -> (∀ b ∈ fp, qQ X pins H b) -> tn i s.heap -> J.go i H ->
  wpAny (model P w) X.A (pyNext (.ref it)) (fun r s1 => ∃ u, r = some u /\
   wpAny (model P w) X.A (letOwnedTupleGo tg (.ref it) u) (fun _ s2 => ∃ x H', Inv X pins σ H' s2 /\ RelV x u /\ J.yld i H x H' /\ tn (i + 1) s2.heap /\ ∀ b ∈ fp, H' b = none) E s1) E s
 done : ∀ (X : Cx), X.prog = P -> X.w = w -> X.K = K -> X.calm = true -> ∀ (i : Nat) (pins : List (Addr × Obj)) (s : Shared) (σ : St) (H : Hp) (E : Value -> Shared -> Prop), Inv X pins σ H s -> (∀ b ∈ fp, qQ X pins H b) -> tn i s.heap -> J.stop i H ->
  wpAny (model P w) X.A (pyNext (.ref it)) (fun r s1 => r = none /\ Inv X pins σ H s1) E s
 self : ∀ (A : Around) (i : Nat) (s : Shared) (Q : Value -> Shared -> Prop) (E : Value -> Shared -> Prop), tn i s.heap -> Q (.ref it) s -> wpAny (model P w) A (pyIter (.ref it)) Q E s
abbrev TI := St -> Hp -> (It -> Hp -> Prop) -> Prop
def PIE (X : Cx) (pins : List (Addr × Obj)) (σ : St) (tg : Expr) (R : It -> Hp -> Prop) (itv : Value) (s2 : Shared) : Prop :=
 ∃ (it : Addr) (fp : List Addr) (tn : Nat -> Heap -> Prop) (J : It) (H' : Hp), itv = .ref it /\ Inv X pins σ H' s2 /\ Turn X.prog X.w X.K tg J fp it tn /\ tn 0 s2.heap /\ (∀ b ∈ fp, qQ X pins H' b) /\ R J H'
def PI (X : Cx) (tg iter : Expr) (wi : TI) : Prop :=
 ∀ (pins : List (Addr × Obj)) (s : Shared) (σ : St) (H : Hp) (R : It -> Hp -> Prop), Inv X pins σ H s -> wi σ H R ->
  wpAny (model X.prog X.w) X.A (eval iter X.env) (fun v s1 => wpAny (model X.prog X.w) X.A (pyIter v) (PIE X pins σ tg R) X.xe s1) X.xe s
theorem agw {M : Model} {A : Around} {E : Value -> Shared -> Prop} {s : Shared} {tg : Expr} {it : Addr} {u : Value} {o : Obj} {n : String} {vs : Array Value} {Q : Unit -> Shared -> Prop} (ho : s.heap.get? it = some o) (hc : o.cls = .type n) (hd : o.data = .fields vs)
  (hn : ["enumerate", "zip", "dict_itemiterator", "dict_reverseitemiterator", "odict_iterator", "itertools.zip_longest", "itertools.pairwise"].contains n = false) (hQ : Q () s) : wpAny M A (letOwnedTupleGo tg (.ref it) u) Q E s := by
 unfold letOwnedTupleGo
 cases tg <;> first
  | exact wpAny_pure hQ
  | (cases u <;> first
    | exact wpAny_pure hQ
    | (refine wpAny_bind (wpAny_load ho ?_)
       rw [hc, hd]
       show wpAny M A (if (["enumerate", "zip", "dict_itemiterator", "dict_reverseitemiterator", "odict_iterator", "itertools.zip_longest", "itertools.pairwise"].contains n && vs[0]? == some (rawInt _)) = true then _ else _) Q E s
       rw [if_neg (by intro h; rw [hn, anQ] at h; cases h)]
       exact wpAny_pure hQ))
def Itl (K : alE) (a : Addr) : It :=
 ⟨fun i H => ∃ xs x, SqL K H a xs /\ xs[i]? = some x, fun i H x H' => H' = H /\ ∀ xs, SqL K H a xs -> xs[i]? = some x, fun i H => ∃ xs, SqL K H a xs /\ xs.length <= i⟩
def Itt (K : alE) (a : Addr) : It :=
 ⟨fun i H => ∃ xs x, SqT K H a xs /\ xs[i]? = some x, fun i H x H' => H' = H /\ ∀ xs, SqT K H a xs -> xs[i]? = some x, fun i H => ∃ xs, SqT K H a xs /\ xs.length <= i⟩
def Itr (lo : Int) (n : Nat) : It := ⟨fun i _ => i < n, fun i H x H' => H' = H /\ x = .int (lo + i), fun i _ => n <= i⟩
theorem afs {P : Program} {w : World} {K : alE} {tg : Expr} (a it : Addr) : Turn P w K tg (Itl K a) [it] it (fun i h => h.IsListIter it a i) where
 mem := by simp
 obj := fun i h st b hb => by
  have e : b = it := by simpa using hb
  subst e
  obtain ⟨o, e, c, d⟩ := st
  exact ⟨o, e, fun v z => by rw [d] at z; cases z⟩
 keep := fun i h h' st k => st.at fun o e => k it (by simp) o e
 item := by
  intro X hP hw hK hc i pins s σ H E I hf st hg
  subst hP hw hK
  obtain ⟨xs, x, hq, hx⟩ := hg
  obtain ⟨its, rv, p, hz⟩ := I.list hq
  obtain ⟨u, hu, ru⟩ := rv.get hx
  obtain ⟨f0, f1, f2, f3, f4, f5⟩ := hf it (by simp)
  refine wpAny_pyNext_list_item st p.isList (x := u) (by simpa using hu) fun h' st' sb => ?_
  have I1 : Inv X pins σ H { s with heap := h' } := I.turned (t' := s.toks) (fun b o hb e => (sb.2 b hb).trans e) f0 f1 f3 f4 f5
  obtain ⟨o, e, c, d⟩ := id st'
  exact ⟨u, rfl, agw (s := { s with heap := h' }) e c d (by decide) ⟨x, H, I1, ru, ⟨rfl, fun ys hy => by rw [I.list_inj hy hq]; exact hx⟩, st', fun b hb => (hf b hb).1⟩⟩
 done := by
  intro X hP hw hK hc i pins s σ H E I hf st hg
  subst hP hw hK
  obtain ⟨xs, hq, hx⟩ := hg
  obtain ⟨its, rv, p, hz⟩ := I.list hq
  obtain ⟨f0, f1, f2, f3, f4, f5⟩ := hf it (by simp)
  have hl := rv.length
  exact wpAny_pyNext_list_end (I.ok.hd hc) st p.isList (by simp; omega) fun h' eb => ⟨rfl, I.turned (t' := s.toks) (fun b o hb e => eb b o hb e) f0 f1 f3 f4 f5⟩
 self := fun _ _ _ _ _ st h => wpAny_pyIter_listiter st h
theorem adF {P : Program} {w : World} {K : alE} {tg : Expr} (a it : Addr) : Turn P w K tg (Itt K a) [it] it (fun i h => h.IsTupleIter it a i) where
 mem := by simp
 obj := fun i h st b hb => by
  have e : b = it := by simpa using hb
  subst e
  obtain ⟨o, e, c, d⟩ := st
  exact ⟨o, e, fun v z => by rw [d] at z; cases z⟩
 keep := fun i h h' st k => st.at fun o e => k it (by simp) o e
 item := by
  intro X hP hw hK hc i pins s σ H E I hf st hg
  subst hP hw hK
  obtain ⟨xs, x, hq, hx⟩ := hg
  obtain ⟨its, rv, p, hz⟩ := I.tuple hq
  obtain ⟨u, hu, ru⟩ := rv.get hx
  obtain ⟨f0, f1, f2, f3, f4, f5⟩ := hf it (by simp)
  refine wpAny_pyNext_tuple_item st (show s.heap.IsTuple a its.toArray from p) (x := u) (by simpa using hu) fun h' st' sb => ?_
  have I1 : Inv X pins σ H { s with heap := h' } := I.turned (t' := s.toks) (fun b o hb e => (sb.2 b hb).trans e) f0 f1 f3 f4 f5
  obtain ⟨o, e, c, d⟩ := id st'
  exact ⟨u, rfl, agw (s := { s with heap := h' }) e c d (by decide) ⟨x, H, I1, ru, ⟨rfl, fun ys hy => by rw [I.tuple_inj hy hq]; exact hx⟩, st', fun b hb => (hf b hb).1⟩⟩
 done := by
  intro X hP hw hK hc i pins s σ H E I hf st hg
  subst hP hw hK
  obtain ⟨xs, hq, hx⟩ := hg
  obtain ⟨its, rv, p, hz⟩ := I.tuple hq
  obtain ⟨f0, f1, f2, f3, f4, f5⟩ := hf it (by simp)
  have hl := rv.length
  exact wpAny_pyNext_tuple_end (I.ok.hd hc) st (show s.heap.IsTuple a its.toArray from p) (by simp; omega) fun h' eb => ⟨rfl, I.turned (t' := s.toks) (fun b o hb e => eb b o hb e) f0 f1 f3 f4 f5⟩
 self := fun _ _ _ _ _ st h => wpAny_pyIter_tupleiter st h
theorem adG {P : Program} {w : World} {K : alE} {tg : Expr} (it : Addr) (lo : Int) (n : Nat) : Turn P w K tg (Itr lo n) [it] it (fun i h => IsRangeIter h it (lo + (i : Nat) * 1) ((n : Int) - (i : Nat)) 1) where
 mem := by simp
 obj := fun i h st b hb => by
  have e : b = it := by simpa using hb
  subst e
  exact ⟨_, st, fun v z => by
   have z' : Data.fields _ = Data.cell v := z
   cases z'⟩
 keep := fun i h h' st k => k it (by simp) _ st
 item := by
  intro X hP hw hK hc i pins s σ H E I hf st hg
  subst hP hw hK
  obtain ⟨f0, f1, f2, f3, f4, f5⟩ := hf it (by simp)
  have W := Walks.range (prog := X.prog) (w := X.w) (I.ok.hd hc) it lo 1 n
  refine W.item i s _ _ hg st fun v h' tk hv st' kk => ?_
  obtain ⟨t, rfl⟩ := hv
  have I1 : Inv X pins σ H { s with heap := h', toks := tk } := I.turned (fun b o hb e => kk b o (by simpa using hb) e) f0 f1 f3 f4 f5
  refine ⟨_, rfl, agw (s := { s with heap := h', toks := tk }) (n := "range_iterator") st' rfl rfl (by decide) ⟨.int (lo + i), H, I1, ⟨t, ?_⟩, ⟨rfl, rfl⟩, st', fun b hb => (hf b hb).1⟩⟩
  rw [Int.mul_one]
 done := by
  intro X hP hw hK hc i pins s σ H E I hf st hg
  subst hP hw hK
  obtain ⟨f0, f1, f2, f3, f4, f5⟩ := hf it (by simp)
  exact wpAny_pyNext_range_end (I.ok.hd hc) st (by have : n <= i := hg; omega) fun h' eb => ⟨rfl, I.turned (t' := s.toks) (fun b o hb e => eb b o hb e) f0 f1 f3 f4 f5⟩
 self := fun _ _ _ _ _ st h => wpAny_pyIter_rangeiter st h
end L2
namespace L2
open PySem PySem.Spec PyProof.Rows
section
variable {X : Cx} {tg : Expr}
def aen (K : alE) (tl : TE) : TI := fun σ H R => tl σ H fun x H1 => ∃ a, x = .ref a /\ (∃ xs, SqL K H1 a xs) /\ R (Itl K a) H1
def ajS (K : alE) (tl : TE) : TI := fun σ H R => tl σ H fun x H1 => ∃ a, x = .ref a /\ (∃ xs, SqT K H1 a xs) /\ R (Itt K a) H1
theorem ah8 {l : Expr} {tl : TE} (hl : PE X l tl) : PI X tg l (aen X.K tl) := by
 intro pins s σ H R I h
 refine thn (hl pins s σ H _ I h) fun v s1 ⟨x, H1, I1, r1, q1⟩ => ?_
 obtain ⟨a, e, ⟨xs, hq⟩, q⟩ := q1
 subst e
 cases r1
 obtain ⟨its, rv, p, hz⟩ := I1.list hq
 refine wpAny_pyIter_list p.isList ?_
 refine ⟨s1.heap.objs.size, [s1.heap.objs.size], _, _, H1, rfl, I1.kept (t' := s1.toks) fun b o e => alQ _ e, afs a _, ⟨_, amj _ rfl, rfl, rfl⟩, fun b hb => ?_, q⟩
 have e : b = s1.heap.objs.size := by simpa using hb
 subst e
 exact I1.fpOk (alI _) (I1.hok.fresh (alI _))
theorem ajT {l : Expr} {tl : TE} (hl : PE X l tl) : PI X tg l (ajS X.K tl) := by
 intro pins s σ H R I h
 refine thn (hl pins s σ H _ I h) fun v s1 ⟨x, H1, I1, r1, q1⟩ => ?_
 obtain ⟨a, e, ⟨xs, hq⟩, q⟩ := q1
 subst e
 cases r1
 obtain ⟨its, rv, p, hz⟩ := I1.tuple hq
 refine wpAny_pyIter_tuple (show s1.heap.IsTuple a its.toArray from p) ?_
 refine ⟨s1.heap.objs.size, [s1.heap.objs.size], _, _, H1, rfl, I1.kept (t' := s1.toks) fun b o e => alQ _ e, adF a _, ⟨_, amj _ rfl, rfl, rfl⟩, fun b hb => ?_, q⟩
 have e : b = s1.heap.objs.size := by simpa using hb
 subst e
 exact I1.fpOk (alI _) (I1.hok.fresh (alI _))
theorem agx {pins : List (Addr × Obj)} {σ : St} {H : Hp} {s : Shared} {R : It -> Hp -> Prop} {E : Value -> Shared -> Prop} {lo hi : Int} {t u v : Tok} {tk : Nat} (I : Inv X pins σ H s) (h1 : -(2 ^ 62) <= lo) (h2 : lo < 2 ^ 62) (h3 : -(2 ^ 62) <= hi) (h4 : hi < 2 ^ 62)
  (q : R (Itr lo (hi - lo).toNat) H) : wpAny (model X.prog X.w) X.A (pyIter (.ref s.heap.objs.size)) (PIE X pins σ tg R) E { s with heap := s.heap.push { cls := .type "range", data := .fields #[.int lo t, .int hi u, .int 1 v] }, toks := tk } := by
 refine wpAny_pyIter_range (IsRange.new ..) (small_one h1 h2 h3 h4) ?_
 have I1 : Inv X pins σ H { s with heap := s.heap.push { cls := .type "range", data := .fields #[.int lo t, .int hi u, .int 1 v] }, toks := tk } := I.kept fun b o e => alQ _ e
 refine ⟨(s.heap.push { cls := .type "range", data := .fields #[.int lo t, .int hi u, .int 1 v] }).objs.size, [(s.heap.push { cls := .type "range", data := .fields #[.int lo t, .int hi u, .int 1 v] }).objs.size], _, _, H, rfl,
  I1.kept (t' := tk) fun b o e => alQ _ e, adG _ lo (hi - lo).toNat, ?_, fun b hb => ?_, q⟩
 ·have e1 : lo + ((0 : Nat) : Int) * 1 = lo := by simp
  have e2 : (((hi - lo).toNat : Nat) : Int) - ((0 : Nat) : Int) = Builtin.Range.rangeSize lo hi 1 := by rw [rangeSize_one]; split <;> omega
  show IsRangeIter _ _ (lo + ((0 : Nat) : Int) * 1) ((((hi - lo).toNat : Nat) : Int) - ((0 : Nat) : Int)) 1
  rw [e1, e2]
  exact amj _ rfl
 ·have e : b = (s.heap.push { cls := .type "range", data := .fields #[.int lo t, .int hi u, .int 1 v] }).objs.size := by simpa using hb
  subst e
  exact I1.fpOk (alI _) (I1.hok.fresh (alI _))
def aeo (ta : TA) : TI := fun σ H R => ta σ H fun vs H1 => ∃ j : Int, vs = [.int j] /\ -(2 ^ 62) <= j /\ j < 2 ^ 62 /\ R (Itr 0 j.toNat) H1
theorem y7 {a : Expr} {ta : TA} {p pos : Pos} (hg : Gl X "range") (hm : X.mg "range" = none) (ha : PA X [a] ta) (hs : starEach [a] X.env = [(false, eval a X.env)] := by rfl) : PI X tg (.Call (.Name "range" p) [a] [] pos) (aeo ta) := by
 intro pins s σ H R I h
 refine Call_ (vt I hg hm boot_range (anp (thn (ha pos pins s σ H _ I h) fun us s1 ⟨vs, H1, I1, r1, q1⟩ => ?_) hs rfl))
 obtain ⟨j, e, q1, q2, q⟩ := q1
 subst e
 cases r1 with
 | cons r rr =>
  cases rr
  obtain ⟨t, rfl⟩ := r
  exact call_range_1 (agx I1 (by omega) (by omega) q1 q2 (by simpa using q))
def ah9 (wi : TI) (g : TG) (tb : TS) : TS := fun D σ H => wi σ H fun J H1 => ∃ W : Nat -> Nat -> St -> Hp -> Prop, (∃ m, W 0 m σ H1) /\ ∀ i m σ H, W i m σ H ->
 (J.stop i H /\ D.nx σ H) \/ (J.go i H /\ ∃ N : St -> Hp -> Prop, (∀ σ' H', N σ' H' -> ∃ m', m' < m /\ W (i + 1) m' σ' H') /\ ∀ x H', J.yld i H x H' -> g x σ H' fun σ2 H2 => tb { D with nx := N, ct := N, bk := D.nx } σ2 H2)
def aai (fp : List Addr) (h : Heap) : List (Addr × Obj) := fp.filterMap fun b => (h.get? b).map fun o => (b, o)
theorem jG {fp : List Addr} {h : Heap} {b : Addr} {o : Obj} (hb : b ∈ fp) (e : h.get? b = some o) : (b, o) ∈ aai fp h := aow.mpr ⟨b, hb, by rw [e]; rfl⟩
theorem aft {fp : List Addr} {h : Heap} {p : Addr × Obj} (hp : p ∈ aai fp h) : p.1 ∈ fp /\ h.get? p.1 = some p.2 := by
 obtain ⟨b, hb, e⟩ := aow.mp hp
 cases q : h.get? b with
 | none => rw [q] at e; cases e
 | some o =>
  rw [q] at e
  have e' : (b, o) = p := Option.some.inj e
  subst e'
  exact ⟨hb, q⟩
theorem Inv.pinned {pins : List (Addr × Obj)} {σ : St} {H : Hp} {s : Shared} {fp : List Addr} (I : Inv X pins σ H s) (hf : ∀ b ∈ fp, qQ X pins H b) (ho : ∀ b ∈ fp, ∃ o, s.heap.get? b = some o /\ ∀ v, o.data ≠ .cell v) : Inv X (pins ++ aai fp s.heap) σ H s :=
 I.pins_of fun p hp => (amh.mp hp).elim (fun z => I.pin p (alX _ z)) fun z => by
  obtain ⟨hb, e⟩ := aft z
  obtain ⟨f0, f1, f2, _⟩ := hf p.1 hb
  obtain ⟨o, e', d⟩ := ho p.1 hb
  rw [e] at e'; cases e'
  exact ⟨e, f0, f1, f2, d⟩
theorem Inv.unpinned {pins pl : List (Addr × Obj)} {σ : St} {H : Hp} {s : Shared} (I : Inv X (pins ++ pl) σ H s) : Inv X pins σ H s := I.pins_of fun p hp => I.pin p (alX _ (amt _ hp))
theorem yR {iter : Expr} {body : List Stmt} {wi : TI} {g : TG} {tb : TS} {pos : Pos} (hp : PassesOwn (model X.prog X.w) X.A X.env X.xe) (hc : X.calm = true) (hi : PI X tg iter wi) (hg : PG X tg g) (hb : PSs X body tb)
  (hs : ∀ x, foldedSetIterable iter X.env x = pure x := by intro _; rfl) : PS X (.For tg iter body [] pos) (ah9 wi g tb) := by
 intro pins s σ H D I h
 refine wpAny_For (thn (hi pins s σ H _ I h) fun v s1 h1 => thn h1 fun itv s2 h2 => ?_) hs
 obtain ⟨it, fp, tn, J, H2, e, I2, T, st2, f2, W, ⟨m0, w0⟩, turn⟩ := h2
 subst e
 -- what stays true of the iterator's objects through the loop
 have stat : ∀ {H' : Hp}, (∀ b ∈ fp, H' b = none) -> ∀ b ∈ fp, qQ X pins H' b := fun hn b hb => ⟨hn b hb, (f2 b hb).2⟩
 refine codeAny_forLoop_any (fun n s' => ∃ i σ' H', Inv X pins σ' H' s' /\ tn i s'.heap /\ (∀ b ∈ fp, H' b = none) /\ W i n σ' H') ?_ m0 ⟨0, σ, H2, I2, st2, fun b hb => (f2 b hb).1, w0⟩
 rintro n s3 ⟨i, σ3, H3, I3, st3, fr3, w3⟩
 rcases turn i n σ3 H3 w3 with ⟨stop, qn⟩ | ⟨go, N, hN, step⟩
 ·refine wpAny_passesOwn hp (thn (T.done X rfl rfl rfl hc i pins s3 σ3 H3 X.xe I3 (stat fr3) st3 stop) fun r s4 ⟨hr, I4⟩ => ?_)
  subst hr
  exact wpAny_execs_nil ⟨σ3, H3, I4, qn⟩
 ·refine wpAny_passesOwn hp (thn (T.item X rfl rfl rfl hc i pins s3 σ3 H3 X.xe I3 (stat fr3) st3 go) fun r s4 ⟨u, hr, h4⟩ => ?_)
  subst hr
  refine wpAny_passesOwn hp (thn h4 fun _ s5 ⟨x, H5, I5, r5, y5, st5, fr5⟩ => ?_)
  have I5' := I5.pinned (stat fr5) (T.obj _ _ st5)
  refine wpAny_passesOwn hp (thn (hg _ s5 σ3 H5 x u _ I5' r5 (step x H5 y5)) fun _ s6 ⟨σ6, H6, I6, q6⟩ => ?_)
  refine wpAny_passesOwn hp (thn (hb _ s6 σ6 H6 _ I6 q6) fun f s7 q7 => ?_)
  have again : ∀ {σ7 : St} {H7 : Hp}, Inv X (pins ++ aai fp s5.heap) σ7 H7 s7 -> N σ7 H7 -> ∃ m, m < n /\ ∃ i σ' H', Inv X pins σ' H' s7 /\ tn i s7.heap /\ (∀ b ∈ fp, H' b = none) /\ W i m σ' H' := fun {σ7 H7} I7 n7 => by
   obtain ⟨m', hm, w7⟩ := hN σ7 H7 n7
   refine ⟨m', hm, i + 1, σ7, H7, I7.unpinned, T.keep _ _ _ st5 fun b hb o e => (I7.pin (b, o) (alX _ (alX _ (jG hb e)))).1, fun b hb => ?_, w7⟩
   obtain ⟨o, e, d⟩ := T.obj _ _ st5 b hb
   exact (I7.pin (b, o) (alX _ (alX _ (jG hb e)))).2.1
  cases f with
  | next => obtain ⟨σ7, H7, I7, n7⟩ := q7; exact again I7 n7
  | cont => obtain ⟨σ7, H7, I7, n7⟩ := q7; exact again I7 n7
  | brk => obtain ⟨σ7, H7, I7, q7⟩ := q7; exact ⟨σ7, H7, I7.unpinned, q7⟩
  | ret v => obtain ⟨x7, σ7, H7, I7, r7, q7⟩ := q7; exact ⟨x7, σ7, H7, I7.unpinned, r7, q7⟩
end
end L2
namespace L2
open PySem PySem.Spec PyProof.Rows
abbrev R2 := V -> V -> Hp -> VK -> Prop
def OpR (X : Cx) (f : Value -> Value -> Sem Value) (r : R2) : Prop :=
 ∀ (pins : List (Addr × Obj)) (s : Shared) (σ : St) (H : Hp) (x y : V) (v u : Value) (Q : VK), Inv X pins σ H s -> RelV x v -> RelV y u -> r x y H Q ->
  wpAny (model X.prog X.w) X.A (f v u) (EP X pins σ Q) X.xe s
def UnR (X : Cx) (f : Value -> Sem Value) (r : V -> Hp -> VK -> Prop) : Prop :=
 ∀ (pins : List (Addr × Obj)) (s : Shared) (σ : St) (H : Hp) (x : V) (v : Value) (Q : VK), Inv X pins σ H s -> RelV x v -> r x H Q ->
  wpAny (model X.prog X.w) X.A (f v) (EP X pins σ Q) X.xe s
def yf (X : Cx) (f : Value) (r : List V -> Hp -> VK -> Prop) : Prop :=
 ∀ (pins : List (Addr × Obj)) (s : Shared) (σ : St) (H : Hp) (xs : List V) (us : List Value) (Q : VK), Inv X pins σ H s -> Vals xs us -> r xs H Q ->
  wpAny (model X.prog X.w) X.A (call f us) (EP X pins σ Q) X.xe s
def alu (X : Cx) (r : V -> Hp -> (Bool -> Hp -> Prop) -> Prop) : Prop :=
 ∀ (pins : List (Addr × Obj)) (s : Shared) (σ : St) (H : Hp) (x : V) (v : Value) (Q : Bool -> Hp -> Prop), Inv X pins σ H s -> RelV x v -> r x H Q ->
  wpAny (model X.prog X.w) X.A (truthy v) (TP X pins σ Q) X.xe s
def tOp (r : R2) (ta tb : TE) : TE := fun σ H Q => ta σ H fun x H1 => tb σ H1 fun y H2 => r x y H2 Q
def tUn (r : V -> Hp -> VK -> Prop) (ta : TE) : TE := fun σ H Q => ta σ H fun x H1 => r x H1 Q
def rI (C : Int -> Int -> Prop) (g : Int -> Int -> V) : R2 := fun x y H Q => ∃ i j, x = .int i /\ y = .int j /\ C i j /\ Q (g i j) H
def rI0 (g : Int -> Int -> V) : R2 := fun x y H Q => ∃ i j, x = .int i /\ y = .int j /\ Q (g i j) H
def rU (g : Int -> V) : V -> Hp -> VK -> Prop := fun x H Q => ∃ i, x = .int i /\ Q (g i) H
section
variable {X : Cx} {a b c : Expr} {ta tb tc : TE} {pos : Pos}
theorem ajU (ha : PE X a ta) (hb : PE X b tb) {pins : List (Addr × Obj)} {s : Shared} {σ : St} {H : Hp} {R : V -> V -> Hp -> Prop} (I : Inv X pins σ H s)
  (h : ta σ H fun x H1 => tb σ H1 fun y H2 => R x y H2) {Q : Value -> Shared -> Prop} {f : Value -> Value -> Sem Value}
  (hf : ∀ v u s2 x y H2, Inv X pins σ H2 s2 -> RelV x v -> RelV y u -> R x y H2 -> wpAny (model X.prog X.w) X.A (f v u) Q X.xe s2) :
  wpAny (model X.prog X.w) X.A (eval a X.env) (fun v s₁ => wpAny (model X.prog X.w) X.A (eval b X.env) (fun u s₂ => wpAny (model X.prog X.w) X.A (f v u) Q X.xe s₂) X.xe s₁) X.xe s := by
 refine thn (ha pins s σ H _ I h) fun v s1 ⟨x, H1, I1, r1, q1⟩ => ?_
 refine thn (hb pins s1 σ H1 _ I1 q1) fun u s2 ⟨y, H2, I2, r2, q2⟩ => ?_
 exact hf v u s2 x y H2 I2 r1 r2 q2
theorem zo {op : Operator} {r : R2} (ho : OpR X (binaryOp op) r) (ha : PE X a ta) (hb : PE X b tb) : PE X (.BinOp a op b pos) (tOp r ta tb) := by
 intro pins s σ H Q I h
 exact wpAny_BinOp (ajU ha hb I h fun v u s2 x y H2 I2 rx ry q => ho pins s2 σ H2 x y v u Q I2 rx ry q)
theorem akX {op : UnaryOp} {r : V -> Hp -> VK -> Prop} (ho : UnR X (unaryOp op) r) (ha : PE X a ta) : PE X (.UnaryOp op a pos) (tUn r ta) := by
 intro pins s σ H Q I h
 exact UnaryOp_ (thn (ha pins s σ H _ I h) fun v s1 ⟨x, H1, I1, r1, q1⟩ => ho pins s1 σ H1 x v Q I1 r1 q1)
theorem opI {f : Value -> Value -> Sem Value} {C : Int -> Int -> Prop} {g : Int -> Int -> Int}
  (rule : ∀ (i j : Int) (t u : Tok) (s : Shared) (Q : Value -> Shared -> Prop) (E : Value -> Shared -> Prop), C i j -> Q (.int (g i j) s.toks) { s with toks := s.toks + 1 } -> wpAny (model X.prog X.w) X.A (f (.int i t) (.int j u)) Q E s) :
  OpR X f (rI C fun i j => .int (g i j)) := by
 intro pins s σ H x y v u Q I rx ry h
 obtain ⟨i, j, rfl, rfl, hc, q⟩ := h
 obtain ⟨t, rfl⟩ := rx
 obtain ⟨t', rfl⟩ := ry
 exact rule i j t t' s _ _ hc ⟨.int (g i j), H, I.tok _, ⟨_, rfl⟩, q⟩
theorem akY {f : Value -> Value -> Sem Value} {g : Int -> Int -> Int}
  (rule : ∀ (i j : Int) (t u : Tok) (s : Shared) (Q : Value -> Shared -> Prop) (E : Value -> Shared -> Prop), Q (.int (g i j) s.toks) { s with toks := s.toks + 1 } -> wpAny (model X.prog X.w) X.A (f (.int i t) (.int j u)) Q E s) :
  OpR X f (rI0 fun i j => .int (g i j)) := by
 intro pins s σ H x y v u Q I rx ry h
 obtain ⟨i, j, rfl, rfl, q⟩ := h
 obtain ⟨t, rfl⟩ := rx
 obtain ⟨t', rfl⟩ := ry
 exact rule i j t t' s _ _ ⟨.int (g i j), H, I.tok _, ⟨_, rfl⟩, q⟩
theorem aia {f : Value -> Value -> Sem Value} {g : Int -> Int -> Bool}
  (rule : ∀ (i j : Int) (t u : Tok) (s : Shared) (Q : Value -> Shared -> Prop) (E : Value -> Shared -> Prop), Q (.bool (g i j)) s -> wpAny (model X.prog X.w) X.A (f (.int i t) (.int j u)) Q E s) :
  OpR X f (rI0 fun i j => .bl (g i j)) := by
 intro pins s σ H x y v u Q I rx ry h
 obtain ⟨i, j, rfl, rfl, q⟩ := h
 obtain ⟨t, rfl⟩ := rx
 obtain ⟨t', rfl⟩ := ry
 exact rule i j t t' s _ _ ⟨.bl (g i j), H, I, rfl, q⟩
def alv (i j : Int) : Prop := 0 <= j /\ j <= 1000000 /\ i.natAbs < 2 ^ 64
def CMul (i j : Int) : Prop := (-(2 ^ 64) < i /\ i < 2 ^ 64) \/ (-(2 ^ 64) < j /\ j < 2 ^ 64)
theorem CMul.ok {i j : Int} (h : CMul i j) : IntMulOk i j := by
 rcases h with ⟨h1, h2⟩ | ⟨h1, h2⟩
 ·exact .of_left (intBits_le_64 h1 h2)
 ·exact .of_right (intBits_le_64 h1 h2)
theorem zI : OpR X (binaryOp .Add) (rI0 fun i j => .int (i + j)) := akY fun _ _ _ _ _ _ _ q => add_int q
theorem yB : OpR X (binaryOp .Sub) (rI0 fun i j => .int (i - j)) := akY fun _ _ _ _ _ _ _ q => sub_int q
theorem qG : OpR X (binaryOp .Mult) (rI CMul fun i j => .int (i * j)) := opI fun _ _ _ _ _ _ _ hc q => mul_int q hc.ok
theorem qH : OpR X (binaryOp .Mod) (rI (fun _ j => 0 < j) fun i j => .int (i % j)) := opI fun i j _ _ _ _ _ hc q => by
 have h1 : (0 : Int) < j := hc
 exact mod_int' (by omega) (by rw [Int.fmod_eq_emod_of_nonneg i (by omega)]; exact q)
theorem aib : OpR X (binaryOp .Mod) (rI (fun _ j => j ≠ 0) fun i j => .int (i.fmod j)) := opI fun _ _ _ _ _ _ _ hc q => mod_int' hc q
theorem qI : OpR X (binaryOp .Pow) (rI alv fun i j => .int (i ^ j.toNat)) := opI fun _ _ _ _ _ _ _ hc q => pow_int_small hc.1 hc.2.1 hc.2.2 q
theorem unI {f : Value -> Sem Value} {g : Int -> Int}
  (rule : ∀ (i : Int) (t : Tok) (s : Shared) (Q : Value -> Shared -> Prop) (E : Value -> Shared -> Prop), Q (.int (g i) s.toks) { s with toks := s.toks + 1 } -> wpAny (model X.prog X.w) X.A (f (.int i t)) Q E s) :
  UnR X f (rU fun i => .int (g i)) := by
 intro pins s σ H x v Q I rx h
 obtain ⟨i, rfl, q⟩ := h
 obtain ⟨t, rfl⟩ := rx
 exact rule i t s _ _ ⟨.int (g i), H, I.tok _, ⟨_, rfl⟩, q⟩
theorem ajV : UnR X (unaryOp .USub) (rU fun i => .int (-i)) := unI fun _ _ _ _ _ q => neg_int q
end
section
variable {X : Cx} {a b c : Expr} {ta tb tc : TE} {pos : Pos}
theorem agy {pins : List (Addr × Obj)} {σ : St} {H : Hp} {s : Shared} {Q : VK} {k k' : Bool} (I : Inv X pins σ H s) (q : Q (.bl k) H) (e : k = k') : EP X pins σ Q (.bool k') s := by
 subst e
 exact ⟨.bl k, H, I, rfl, q⟩
theorem agz : OpR X (compareOp .Lt) (rI0 fun i j => .bl (decide (i < j))) := aia fun _ _ _ _ _ _ _ q => lt_int q
theorem aa0 : OpR X (compareOp .LtE) (rI0 fun i j => .bl (decide (i <= j))) := aia fun _ _ _ _ _ _ _ q => le_int q
theorem agA : OpR X (compareOp .Gt) (rI0 fun i j => .bl (decide (j < i))) := aia fun _ _ _ _ _ _ _ q => gt_int q
theorem ajn : OpR X (compareOp .GtE) (rI0 fun i j => .bl (decide (j <= i))) := aia fun _ _ _ _ _ _ _ q => ge_int q
theorem ajW : OpR X (compareOp .Is) (fun x y H Q => y = .non /\ Q (.bl (decide (x = .non))) H) := by
 intro pins s σ H x y v u Q I rx ry h
 obtain ⟨rfl, q⟩ := h
 cases ry
 refine is_none_gen (agy I q ?_)
 cases x <;> first
  | (cases rx; rfl)
  | (obtain ⟨t, rfl⟩ := rx; rfl)
theorem aic : OpR X (compareOp .IsNot) (fun x y H Q => y = .non /\ Q (.bl (!decide (x = .non))) H) := by
 intro pins s σ H x y v u Q I rx ry h
 obtain ⟨rfl, q⟩ := h
 cases ry
 refine isnot_none_gen (agy I q ?_)
 cases x <;> first
  | (cases rx; rfl)
  | (obtain ⟨t, rfl⟩ := rx; rfl)
theorem zX (b : Expr) {op : CmpOp} (h : op ≠ .In := by decide) (h2 : op ≠ .NotIn := by decide) : behindInMarks op b = false := by
 have e1 : (op == CmpOp.In) = false := by cases op <;> first | rfl | exact absurd rfl h
 have e2 : (op == CmpOp.NotIn) = false := by cases op <;> first | rfl | exact absurd rfl h2
 cases b <;> simp [behindInMarks, e1, e2]
theorem qR {op : CmpOp} {r : R2} (ho : OpR X (compareOp op) r) (ha : PE X a ta) (hb : PE X b tb) (hm : behindInMarks op b = false) : PE X (.Compare a [op] [b] pos) (tOp r ta tb) := by
 intro pins s σ H Q I h
 exact wpAny_Compare1 (ajU ha hb I h fun v u s2 x y H2 I2 rx ry q => ho pins s2 σ H2 x y v u Q I2 rx ry q) hm
def aep (t : TE) : TT := fun σ H Q => t σ H fun x H' => ∃ k, x = .bl k /\ Q k H'
theorem zR {op : CmpOp} {r : R2} (ho : OpR X (compareOp op) r) (ha : PE X a ta) (hb : PE X b tb) (hm : behindInMarks op b = false) : PT X (.Compare a [op] [b] pos) (aep (tOp r ta tb)) := by
 intro pins s σ H Q I h
 refine wpAny_isTrue_Compare1 (thn (ha pins s σ H _ I h) fun v s1 ⟨x, H1, I1, r1, q1⟩ => thn (hb pins s1 σ H1 _ I1 q1) fun u s2 ⟨y, H2, I2, r2, q2⟩ =>
  thn (ho pins s2 σ H2 x y v u _ I2 r1 r2 q2) fun c s3 ⟨z, H3, I3, r3, k, e, q3⟩ => ?_) hm
 subst e
 cases r3
 exact wpAny_truthy_bool ⟨H3, I3, q3⟩
def agB (r r' : R2) (ta tb tc : TE) : TE := fun σ H Q => ta σ H fun x H1 => tb σ H1 fun y H2 => r x y H2 fun z H3 => ∃ k, z = .bl k /\
 (if k = true then tc σ H3 fun w' H4 => r' y w' H4 Q else Q (.bl false) H3)
theorem aaj {op op' : CmpOp} {r r' : R2} (ho : OpR X (compareOp op) r) (ho' : OpR X (compareOp op') r') (ha : PE X a ta) (hb : PE X b tb) (hc : PE X c tc)
  (hm : lastMarks [op, op'] [b, c] = false := by with_unfolding_all rfl) : PE X (.Compare a [op, op'] [b, c] pos) (agB r r' ta tb tc) := by
 intro pins s σ H Q I h
 refine Compare_chain (thn (ha pins s σ H _ I h) fun v s1 ⟨x, H1, I1, r1, q1⟩ => chain_link (thn (hb pins s1 σ H1 _ I1 q1) fun u s2 ⟨y, H2, I2, r2, q2⟩ =>
  thn (ho pins s2 σ H2 x y v u _ I2 r1 r2 q2) fun d s3 ⟨z, H3, I3, r3, k, e, q3⟩ => ?_)) hm
 subst e
 cases r3
 refine wpAny_truthy_bool ?_
 cases k with
 | false => exact ite_ff ⟨.bl false, H3, I3, rfl, q3⟩
 | true => exact ite_tt (chain_last (thn (hc pins s3 σ H3 _ I3 q3) fun w' s4 ⟨z', H4, I4, r4, q4⟩ => ho' pins s4 σ H4 y z' u w' Q I4 r2 r4 q4))
def ajX (K : alE) (x : V) (H : Hp) (k : Bool) : Prop :=
 match x with
 | .non => k = false
 | .bl b => k = b
 | .int i => k = (i != 0)
 | .str y => y.length <= sizeLine /\ k = ((y.length : Int) != 0)
 | .byt y => y.size <= sizeLine /\ k = ((y.size : Int) != 0)
 | .ref p => (∃ xs, SqL K H p xs /\ k = !xs.isEmpty) \/ (∃ xs, SqT K H p xs /\ k = !xs.isEmpty) \/ ∃ kvs, H p = some (.dK kvs) /\ k = !kvs.isEmpty
 | _ => False
theorem adH {κ : Type} {kvs : List (κ × V)} {vs : List (κ × Value)} (r : KV kvs vs) : (!vs.isEmpty) = !kvs.isEmpty := by
 cases r <;> rfl
theorem aak {xs : List V} {its : List Value} (r : Vals xs its) : (!its.toArray.isEmpty) = !xs.isEmpty := by
 cases r <;> simp
theorem aal : (sizeLine : Nat) < 2 ^ 63 := by rw [sizeLine_eq]; decide
theorem ajY : alu X (fun x H Q => ∃ k, ajX X.K x H k /\ Q k H) := by
 intro pins s σ H x v Q I rx h
 obtain ⟨k, e, q⟩ := h
 have hl := aal
 have hs : sizeLine = 16777216 := sizeLine_eq
 cases x with
 | non =>
  cases rx
  have e' : k = false := e
  subst e'
  exact truthy_none ⟨H, I, q⟩
 | bl b =>
  cases rx
  have e' : k = b := e
  subst e'
  exact wpAny_truthy_bool ⟨H, I, q⟩
 | int i =>
  obtain ⟨t, rfl⟩ := rx
  have e' : k = (i != 0) := e
  subst e'
  exact PySem.P.truthy_int ⟨H, I, q⟩
 | str y =>
  obtain ⟨t, rfl⟩ := rx
  obtain ⟨hy, e'⟩ : y.length <= sizeLine /\ k = ((y.length : Int) != 0) := e
  subst e'
  exact PySem.P.truthy_str (by omega) ⟨H, I.tok _, q⟩
 | byt y =>
  obtain ⟨t, rfl⟩ := rx
  obtain ⟨hy, e'⟩ : y.size <= sizeLine /\ k = ((y.size : Int) != 0) := e
  subst e'
  exact PySem.W.truthy_bytes (by omega) ⟨H, I.tok _, q⟩
 | ref p =>
  cases rx
  have e' : (∃ xs, SqL X.K H p xs /\ k = !xs.isEmpty) \/ (∃ xs, SqT X.K H p xs /\ k = !xs.isEmpty) \/ ∃ kvs, H p = some (.dK kvs) /\ k = !kvs.isEmpty := e
  rcases e' with ⟨xs, hx, e'⟩ | ⟨xs, hx, e'⟩ | ⟨kvs, hx, e'⟩
  ·subst e'
   obtain ⟨its, r, pl, hz⟩ := I.list hx
   have hlen := r.length
   exact wpAny_truthy_list pl.isList (by simp only [alW]; omega) ⟨H, I.tok _, by rw [aak r]; exact q⟩
  ·subst e'
   obtain ⟨its, r, pl, hz⟩ := I.tuple hx
   have hlen := r.length
   exact truthy_tuple pl (by simp only [alW]; omega) ⟨H, I.tok _, by rw [aak r]; exact q⟩
  ·subst e'
   obtain ⟨hz, hS, vs, r, m⟩ : kvs.length <= sizeLine /\ (p == sysModules) = false /\ ∃ vs, KV kvs vs /\ s.heap.DictOf (abv X.prog X.w) p vs := I.hok p _ hx
   have hlen : kvs.length = vs.length := Paired.length r
   exact wpAny_truthy_dict hS m (by omega) ⟨H, I.tok _, by rw [adH r]; exact q⟩
 | _ => exact (show False from e).elim
theorem agC (ha : PE X a ta) (he : ∀ whole, isTrue a X.env whole = (do let v <- whole; standAt a.pos; holding [v] (truthy v))) :
  PT X a (fun σ H Q => ta σ H fun x H' => ∃ k, ajX X.K x H' k /\ Q k H') := by
 intro pins s σ H Q I h
 exact isTrue_plain (thn (ha pins s σ H _ I h) fun v s1 ⟨x, H1, I1, r1, q1⟩ => ajY pins s1 σ H1 x v Q I1 r1 q1) (he _)
theorem vals1 {x : V} {us : List Value} (r : Vals [x] us) : ∃ u, us = [u] /\ RelV x u := by
 cases r with
 | cons r1 r2 => cases r2; exact ⟨_, rfl, r1⟩
theorem vals2 {x y : V} {us : List Value} (r : Vals [x, y] us) : ∃ u w', us = [u, w'] /\ RelV x u /\ RelV y w' := by
 cases r with
 | cons r1 r2 =>
  cases r2 with
  | cons r3 r4 => cases r4; exact ⟨_, _, rfl, r1, r3⟩
theorem qS : yf X (.builtin "abs") (fun xs H Q => ∃ i, xs = [.int i] /\ Q (.int (if i < 0 then -i else i)) H) := by
 intro pins s σ H xs us Q I r h
 obtain ⟨i, rfl, q⟩ := h
 obtain ⟨u, rfl, t, rfl⟩ := vals1 r
 exact call_abs_int fun u tk => ⟨.int (if i < 0 then -i else i), H, I.tok _, ⟨_, rfl⟩, q⟩
theorem afu (hc : X.calm = true) : yf X (.builtin "max") (fun xs H Q => ∃ i j, xs = [.int i, .int j] /\ Q (.int (if j > i then j else i)) H) := by
 intro pins s σ H xs us Q I r h
 obtain ⟨i, j, rfl, q⟩ := h
 obtain ⟨u, w', rfl, ⟨t, rfl⟩, ⟨t', rfl⟩⟩ := vals2 r
 refine max_two_ints (I.ok.hd hc) fun h' tk k => ⟨_, H, I.kept k, ?_, q⟩
 by_cases hj : j > i
 ·rw [if_pos hj, if_pos hj]; exact ⟨_, rfl⟩
 ·rw [if_neg hj, if_neg hj]; exact ⟨_, rfl⟩
theorem aa1 (hc : X.calm = true) : yf X (.builtin "min") (fun xs H Q => ∃ i j, xs = [.int i, .int j] /\ Q (.int (if j < i then j else i)) H) := by
 intro pins s σ H xs us Q I r h
 obtain ⟨i, j, rfl, q⟩ := h
 obtain ⟨u, w', rfl, ⟨t, rfl⟩, ⟨t', rfl⟩⟩ := vals2 r
 refine min_two_ints (I.ok.hd hc) fun h' tk k => ⟨_, H, I.kept k, ?_, q⟩
 by_cases hj : j < i
 ·rw [if_pos hj, if_pos hj]; exact ⟨_, rfl⟩
 ·rw [if_neg hj, if_neg hj]; exact ⟨_, rfl⟩
end
end L2
namespace L2
open PySem PySem.Spec PyProof.Rows
structure ObjM (h : Heap) (x dx C : Addr) (mA : Str -> Option Value) : Prop where
 obj : h.get? x = some (ao7 C dx)
 ns : h.Ns1 dx mA
 ne : dx ≠ x
theorem afv {h : Heap} {dx : Addr} {mA : Str -> Option Value} (n : h.Ns1 dx mA) : ∃ od, h.get? dx = some od /\ ∀ name, ape name od = some (mA name) := by
 obtain ⟨o, es, ep, ho, hd, hk, _, hm⟩ := n
 refine ⟨o, ho, fun name => ?_⟩
 have e := hm name
 unfold nsFind findBy at e
 rw [<- Array.find?_toList] at e
 unfold ape
 rw [hd]
 dsimp only
 split
 ·rename_i y q
  rw [q] at e
  exact congrArg some e
 ·rename_i q
  rw [q] at e
  have a : es.toList.any (·.refKey) = false := by
   rw [List.any_eq_false]
   intro y hy
   obtain ⟨z, t, hkey⟩ := hk y (ans.mp hy)
   simp [DictEntry.refKey, hkey]
  have a' : ¬ es.toList.any (·.refKey) = true := by rw [a]; exact alC
  rw [if_neg a']
  exact congrArg some e
theorem ObjM.look {h : Heap} {x dx C : Addr} {mA : Str -> Option Value} (I : ObjM h x dx C mA) : ∃ od, PySem.W.InstAt h x (ao7 C dx) C (some od) /\ ∀ name, ape name od = some (mA name) :=
 let ⟨od, ho, hl⟩ := afv I.ns
 ⟨od, ⟨I.obj, rfl, rfl, ho⟩, hl⟩
section
variable {prog : Program} {w : World} {A : Around} {E : Value -> Shared -> Prop} {s : Shared} {K : alE} {x dx C f : Addr} {mA : Str -> Option Value} {name : Str} {v : Value}
end
section
variable {P : Program} {w : World} {H H' : Hp} {h h' : Heap} {a C dx : Addr} {fs fs' : List (Str × V)}
theorem aid (hok : HOk P w H h) (e : H a = some (.ins C dx fs)) : ∃ mA, ObjM h a dx C mA /\ (∀ f, ajL (fs.lookup f) (mA f)) /\ PySem.Within mA (fs.map (·.1)) /\ fs.length <= 1000 /\ H dx = some (.own a) := by
 obtain ⟨d, z, ne, ob, mA, n, r, q⟩ := (show ObjOk P w H h a (.ins C dx fs) from hok a _ e)
 exact ⟨mA, ⟨ob, n, ne⟩, r, q, z, d⟩
end
structure Cls (K : alE) (C : Addr) : Prop where
 pg : PySem.W.plainGet K C Str.empty = true
 hd : PySem.W.hasDictIn K C = true
 po : PySem.W.plainOver K C = true
 sa : ane K (.ref C) "__setattr__" = some (some (.builtin "object.__setattr__"))
theorem Cls.get {K : alE} {C : Addr} (c : Cls K C) (f : Str) : PySem.W.plainGet K C f = true := c.pg
structure Con (K : alE) (C : Addr) (f : Str) (v : V) (u : Value) : Prop where
 at_ : ane K (.ref C) f = some (some u)
 rel : RelV v u
 get : aoL K u "__get__" = some none
 cp : PySem.W.copiedNames.contains f = false
structure Meth (K : alE) (C : Addr) (m : Str) (f : Addr) : Prop where
 at_ : ane K (.ref C) m = some (some (.ref f))
 fn : PySem.W.isFn K (.ref f) = true
 kp : amz K (.ref f) = true
section
variable {X : Cx} {pins : List (Addr × Obj)} {σ : St} {H : Hp} {s : Shared} {a C dx : Addr} {fs : List (Str × V)} {f : Str} {v : V} {A : Around} {E : Value -> Shared -> Prop}
end
section
variable {X : Cx} {pins : List (Addr × Obj)} {σ : St} {H : Hp} {s : Shared} {A : Around} {E : Value -> Shared -> Prop} {Q : Value -> Shared -> Prop} {c : Value} {b : Bool}
inductive TyOf (K : alE) (H : Hp) : V -> Value -> Prop where
 | non : TyOf K H .non (.type "NoneType")
 | bl (x : Bool) : TyOf K H (.bl x) (.type "bool")
 | int (i : Int) : TyOf K H (.int i) (.type "int")
 | str (x : Str) : TyOf K H (.str x) (.type "str")
 | flt (x : UInt64) : TyOf K H (.flt x) (.type "float")
 | lst {a : Addr} {xs : List V} (e : H a = some (.lst xs)) : TyOf K H (.ref a) (.type "list")
 | frz {a : Addr} {o : Obj} {xs : List V} (e : H a = some (.frz o (.lst xs))) : TyOf K H (.ref a) (.type "list")
 | tup {a : Addr} {xs : List V} (e : H a = some (.tup xs)) : TyOf K H (.ref a) (.type "tuple")
 | dK {a : Addr} {kvs : List (Key × V)} (e : H a = some (.dK kvs)) : TyOf K H (.ref a) (.type "dict")
 | dT {a : Addr} {kvs : List (List Key × V)} (e : H a = some (.dT kvs)) : TyOf K H (.ref a) (.type "dict")
 | ins {a C dx : Addr} {fs : List (Str × V)} (e : H a = some (.ins C dx fs)) (cl : Cls K C) (ha : ane K (.ref C) "__class__" = some (some (.builtin "object.__class__")))
   (hn : aoL K (.builtin "object.__class__") "__get__" = some (some (.builtin "getset_descriptor.__get__"))) (htk : PySem.W.takesIn K (.builtin "object.__class__") = some true)
   (hm : PySem.W.mroIn K C (.type "object") = some true) : TyOf K H (.ref a) (.ref C)
theorem afw {x : V} {u t : Value} (I : Inv X pins σ H s) (rx : RelV x u) (ty : TyOf X.K H x t) (e : amH X.K t c = some b) (h : ∀ tk, Q (.bool b) { s with toks := tk }) :
  wpAny (model X.prog X.w) A (call (.builtin "isinstance") [u, c]) Q E s := by
 cases ty with
 | non => cases (show u = Value.none from rx); exact amo PySem.W.kitx_none I.kIn True.intro e (fun z => nomatch z) h
 | bl y => cases (show u = Value.bool y from rx); exact amo PySem.W.kitx_bool I.kIn True.intro e (fun z => nomatch z) h
 | int i => obtain ⟨t, q⟩ := (show ∃ t, u = Value.int i t from rx); cases q; exact amo PySem.W.kitx_int I.kIn True.intro e (fun z => nomatch z) h
 | str y => obtain ⟨t, q⟩ := (show ∃ t, u = Value.str y t from rx); cases q; exact amo PySem.W.kitx_str I.kIn True.intro e (fun z => nomatch z) h
 | flt y => obtain ⟨t, q⟩ := (show ∃ t, u = Value.float y t from rx); cases q; exact amo PySem.W.kitx_float I.kIn True.intro e (fun z => nomatch z) h
 | @lst a xs ea =>
  cases (show u = Value.ref a from rx)
  obtain ⟨_, _, n, _, h1⟩ := (show ObjOk X.prog X.w H s.heap a (.lst xs) from I.hok a _ ea)
  exact amo aoM I.kIn ⟨_, h1, rfl⟩ e (fun z => nomatch z) h
 | @frz a ob xs ea =>
  cases (show u = Value.ref a from rx)
  obtain ⟨_, _, _, n, _, h1⟩ := (show ObjOk X.prog X.w H s.heap a (.frz ob (.lst xs)) from I.hok a _ ea)
  exact amo aoM I.kIn ⟨_, h1, rfl⟩ e (fun z => nomatch z) h
 | @tup a xs ea =>
  cases (show u = Value.ref a from rx)
  obtain ⟨_, _, _, p⟩ := (show ObjOk X.prog X.w H s.heap a (.tup xs) from I.hok a _ ea)
  obtain ⟨o, h1, h2, _⟩ := p
  exact amo PySem.W.kitx_tuple I.kIn ⟨o, h1, h2⟩ e (fun z => nomatch z) h
 | @dK a kvs ea =>
  cases (show u = Value.ref a from rx)
  obtain ⟨_, _, vs, _, p⟩ := (show ObjOk X.prog X.w H s.heap a (.dK kvs) from I.hok a _ ea)
  obtain ⟨o, es, ep, h1, h2, _⟩ := p
  exact amo PySem.W.kitx_dict I.kIn ⟨o, h1, h2.1⟩ e (fun z => nomatch z) h
 | @dT a kvs ea =>
  cases (show u = Value.ref a from rx)
  obtain ⟨_, _, xs, _, o, es, ep, h1, h2, _⟩ := (show ObjOk X.prog X.w H s.heap a (.dT kvs) from I.hok a _ ea)
  exact amo PySem.W.kitx_dict I.kIn ⟨o, h1, h2.1⟩ e (fun z => nomatch z) h
 | @ins a C dx fs ea cl ha hn htk hm =>
  cases (show u = Value.ref a from rx)
  obtain ⟨mA, O, _⟩ := aid I.hok ea
  obtain ⟨od, J, _⟩ := O.look
  exact amo (PySem.W.kitx_own (cl.get _) cl.hd ha hn htk hm) I.kIn J e (fun z => nomatch z) h
end
end L2
namespace L2
open PySem PySem.Spec PyProof.Rows
structure Room (k : Nat) (A : Around) : Prop where
 hd : A.handled = none
 dp : A.depth + 3 * k + 5 < recursionLimit
 un : A.units + 16 * k + 200 < cLine
theorem Room.mono {j k : Nat} {A : Around} (r : Room k A) (h : j <= k) : Room j A := ⟨r.hd, by have := r.dp; omega, by have := r.un; omega⟩
theorem Room.deeper {k : Nat} {A : Around} (r : Room (k + 1) A) (env : Env) : Room k (A.deeper env) :=
 ⟨r.hd, by have := r.dp; show A.depth + 1 + 3 * k + 5 < _; omega, by have := r.un; show A.units + 3 + 16 * k + 200 < _; omega⟩
theorem Room.depth {k : Nat} {A : Around} (r : Room k A) : A.depth < recursionLimit := by have := r.dp; omega
theorem Room.units {k : Nat} {A : Around} (r : Room k A) : A.units + 64 < cLine := by have := r.un; omega
def jX : TA := fun _ H Q => Q [] H
def yc (ta : TE) (tr : TA) : TA := fun σ H Q => ta σ H fun x H1 => tr σ H1 fun xs H2 => Q (x :: xs) H2
section
variable {X : Cx} {e : Expr} {es : List Expr} {te : TE} {t : TA} {pos : Pos}
theorem zb : PA X [] jX := fun _ _ _ _ H Q I h => Calls.spliced_nil ⟨[], H, I, .nil, h⟩
theorem za (ha : PE X e te) (hr : PA X es t) (hs : starEach (e :: es) X.env = (false, eval e X.env) :: starEach es X.env := by rfl) : PA X (e :: es) (yc te t) := by
 intro pos pins s σ H Q I h
 rw [hs]
 show wpAny _ _ (spliced ((false, eval e X.env) :: backTo pos (starEach es X.env))) _ _ s
 refine Calls.spliced_cons (thn (ha pins s σ H _ I h) fun u s1 ⟨x, H1, I1, r1, q1⟩ => ?_)
 exact thn (hr pos pins s1 σ H1 _ I1 q1) fun us s2 ⟨xs, H2, I2, r2, q2⟩ => ⟨x :: xs, H2, I2, .cons r1 r2, q2⟩
def akZ (t : TA) : TE := fun σ H Q => t σ H fun xs H1 => xs.length <= sizeLine /\ ∀ p, H1 p = none -> Q (.ref p) (upd H1 p (.tup xs))
def agD (t : TA) : TE := fun σ H Q => t σ H fun xs H1 => xs.length <= sizeLine /\ ∀ p, H1 p = none -> Q (.ref p) (upd H1 p (.lst xs))
theorem zA {x1} (h : PA X es t) : PE X (.Tuple es x1 pos) (akZ t) := by
 intro pins s σ H Q I hq
 refine wpAny_Tuple_spliced (thn (h pos pins s σ H _ I hq) fun us s1 ⟨xs, H1, I1, r, z, q⟩ => ⟨by rw [<- r.length]; exact z, ?_⟩)
 have hf : H1 s1.heap.objs.size = none := I1.hok.fresh (alI _)
 refine ⟨.ref s1.heap.objs.size, upd H1 s1.heap.objs.size (.tup xs), I1.laid (t' := s1.toks) (fun b u e => alQ _ e) (alI _) ?_, rfl, q _ hf⟩
 exact ⟨z, us, r, ⟨_, amj _ rfl, rfl, _, rfl⟩⟩
theorem yn (h : PA X es t) : PE X (.List es pos) (agD t) := by
 intro pins s σ H Q I hq
 refine wpAny_List_spliced (thn (h pos pins s σ H _ I hq) fun us s1 ⟨xs, H1, I1, r, z, q⟩ => ⟨by rw [<- r.length]; exact z, ?_⟩)
 have hf : H1 s1.heap.objs.size = none := I1.hok.fresh (alI _)
 refine ⟨.ref s1.heap.objs.size, upd H1 s1.heap.objs.size (.lst xs), I1.laid (t' := s1.toks) (fun b u e => alQ _ e) (alI _) ?_, rfl, q _ hf⟩
 exact ⟨z, us, 0, r, amj _ rfl⟩
end
abbrev Sp := List V -> Hp -> VK -> XK -> Prop
abbrev CXT := List Env -> Hp -> Shared -> XK -> Value -> Shared -> Prop
structure Env0 (P : Program) (w : World) (K : alE) (mg : Str -> Option Value) (base : Heap) (A : Around) (outer : List Env) (s : Shared) (H : Hp) : Prop where
 frames : A.frames = some outer
 mod : Mod K mg base
 bs : ∀ b o, base.get? b = some o -> s.heap.get? b = some o /\ H b = none
 bsz : base.objs.size <= s.heap.objs.size
 funs : s.heap.FunFrames base outer
 frf : ∀ b ∈ frs outer, H b = none
 hok : HOk P w H s.heap
 bare : AllBare s.gens
def CE (outer : List Env) (P : Program) (w : World) (H : Hp) (s : Shared) (Q : VK) (u : Value) (s' : Shared) : Prop :=
 ∃ v H', s'.os = s.os /\ AllBare s'.gens /\ Un (frs outer) [] H H' s.heap s'.heap /\ HOk P w H' s'.heap /\ RelV v u /\ Q v H'
def CR (CX : CXT) (outer : List Env) (P : Program) (w : World) (H : Hp) (s : Shared) (Q : VK) (E : XK) (r : Result) (s' : Shared) : Prop :=
 match r with
 | .ok (.ret u) => CE outer P w H s Q u s'
 | .ok _ => False
 | .error e => CX outer H s E e s'
structure FnOk (P : Program) (w : World) (K : alE) (mg : Str -> Option Value) (base : Heap) (CX : CXT) (k : Nat) (f : Addr) (fd : FuncData) (ps : List Str) (sp : Sp) : Prop where
 len : ∀ vs H Q E, sp vs H Q E -> vs.length = ps.length
 run : ∀ (A : Around) (outer : List Env) (s : Shared) (H : Hp) (args : Args) (us : List Value) (vs : List V) (Q : VK) (E : XK), Room k A -> Env0 P w K mg base A outer s H -> BindsTo s fd args (ps.zip us) -> Vals vs us -> sp vs H Q E ->
  codeAny (model P w) A (.call (.ref f) args) (CR CX outer P w H s Q E) s
theorem FnOk.mono {P : Program} {w : World} {K : alE} {mg : Str -> Option Value} {base : Heap} {CX : CXT} {j k : Nat} {f : Addr} {fd : FuncData} {ps : List Str} {sp : Sp} (F : FnOk P w K mg base CX j f fd ps sp) (h : j <= k) :
  FnOk P w K mg base CX k f fd ps sp := ⟨F.len, fun A outer s H args us vs Q E hr => F.run A outer s H args us vs Q E (hr.mono h)⟩
section
variable {X : Cx} {pins : List (Addr × Obj)} {σ : St} {H : Hp} {s s' : Shared}
theorem Inv.env0 (I : Inv X pins σ H s) : Env0 X.prog X.w X.K X.mg X.base X.A X.stack s H :=
 ⟨I.ok.frames, I.ok.mod, I.bs, alZ I.ok.bsz I.sz, I.stack, I.stkFree, I.hok, I.bare⟩
theorem Inv.after {Q : VK} {u : Value} (I : Inv X pins σ H s) (h : CE X.stack X.prog X.w H s Q u s') : EP X pins σ Q u s' := by
 obtain ⟨v, H', os, bare, un, hok, r, q⟩ := h
 obtain ⟨hh, g, d, t, os'⟩ := s'
 obtain rfl : os' = s.os := os
 exact ⟨v, H', I.call (h' := hh) (g' := g) (d' := d) (t' := t) (ch := []) un hok bare (fun b z => absurd z (by simp)), r, q⟩
end
def aa2 (sp : Sp) (dvs : List V) (E : XK) (t : TA) : TE := fun σ H Q => t σ H fun vs H1 => sp (vs ++ dvs) H1 Q E
def Binds (K : alE) (fd : FuncData) (ps : List Str) (ds : List Value) : Prop :=
 ∀ (s : Shared) (us : List Value), K.In s.heap -> (us ++ ds).length = ps.length -> BindsTo s fd ⟨us, []⟩ (ps.zip (us ++ ds))
theorem Binds.all {K : alE} {fd : FuncData} {ps : List Str} (h : ∀ us : List Value, us.length = ps.length -> bindArgs fd ⟨us, []⟩ = pure (ps.zip us)) : Binds K fd ps [] := fun s us _ hl => by
 rw [amq] at hl ⊢
 exact .of_eq (h us hl)
def Passes (CX : CXT) (X : Cx) (E : XK) : Prop := ∀ (pins : List (Addr × Obj)) (σ : St) (H : Hp) (s : Shared) (e : Value) (s' : Shared), Inv X pins σ H s -> CX X.stack H s E e s' -> X.xe e s'
section
variable {X : Cx} {CX : CXT} {k : Nat} {f C : Addr} {fd : FuncData} {ps : List Str} {sp : Sp} {dvs : List V} {ds : List Value} {E : XK} {x m : Str} {p pos apos : Pos} {e o : Expr} {es : List Expr} {ta : TE} {t : TA}
theorem ajZ {pins : List (Addr × Obj)} {σ : St} {H : Hp} {s : Shared} {Q : VK} {us : List Value} {vs : List V} (F : FnOk X.prog X.w X.K X.mg X.base CX k f fd ps sp) (hr : Room k X.A) (hb : Binds X.K fd ps ds) (hd : Vals dvs ds) (hx : Passes CX X E)
  (I : Inv X pins σ H s) (r : Vals vs us) (h : sp (vs ++ dvs) H Q E) : wpAny (model X.prog X.w) X.A (call (.ref f) us) (EP X pins σ Q) X.xe s := by
 have r2 : Vals (vs ++ dvs) (us ++ ds) := r.append hd
 have hl : (us ++ ds).length = ps.length := by rw [<- r2.length]; exact F.len _ _ _ _ h
 refine wpAny_call (codeAny_mono (F.run X.A X.stack s H ⟨us, []⟩ (us ++ ds) (vs ++ dvs) Q E hr I.env0 (hb s us I.kIn hl) r2 h) fun r s' hq => ?_)
 cases r with
 | error e => exact hx pins σ H s e s' I hq
 | ok fl =>
  cases fl with
  | ret u => exact I.after hq
  | next => exact anj hq
  | brk => exact anj hq
  | cont => exact anj hq
theorem aie (F : FnOk X.prog X.w X.K X.mg X.base CX k f fd ps sp) (hr : Room k X.A) (hg : Gl X x) (hm : X.mg x = some (.ref f)) (hk : amz X.K (.ref f) = true) (hb : Binds X.K fd ps ds) (hd : Vals dvs ds) (hx : Passes CX X E)
  (ha : PA X (e :: es) t) (hdb : (x == ("__debug__" : Str)) = false := by decide) (he : starEach (e :: es) X.env = (false, eval e X.env) :: starEach es X.env := by rfl) (hpl : (backTo pos (starEach es X.env)).any (·.1) = false := by rfl) :
  PE X (.Call (.Name x p) (e :: es) [] pos) (aa2 sp dvs E t) := by
 intro pins s σ H Q I h
 refine wpAny_Call_Name_kw (aby I hg hm ?_ hdb)
 refine PySem.W.callWith_K (h₀ := X.base) I.ok.mod.kin hk (thn (ha pos pins s σ H _ I h) fun us s1 ⟨vs, H1, I1, r, q⟩ => ⟨I1.kIn, ?_⟩) he hpl
 exact ajZ F hr hb hd hx I1 r q
structure Mk (K : alE) (C f : Addr) : Prop where
 makes : PySem.W.makesIn K C = true
 init : ane K (.ref C) "__init__" = some (some (.ref f))
 fn : PySem.W.isFn K (.ref f) = true
 kp : amz K (.ref C) = true
end
section
variable {X : Cx} {CX : CXT} {k : Nat} {f C : Addr} {fd : FuncData} {ps ks : List Str} {sp : Sp} {E : XK} {x m : Str} {p pos apos kpos : Pos} {e o : Expr} {es : List Expr} {kws : List Keyword} {te ta : TE} {t tk : TA} {nm : Option Str}
structure KBinds (K : alE) (fd : FuncData) (ps ks : List Str) (g : List Value -> List Value -> List Value) (gV : List V -> List V -> List V) : Prop where
 to : ∀ (s : Shared) (us ws : List Value), K.In s.heap -> (g us ws).length = ps.length -> BindsTo s fd ⟨us, ks.zip ws⟩ (ps.zip (g us ws))
 rel : ∀ {vs : List V} {us : List Value} {zs : List V} {ws : List Value}, Vals vs us -> Vals zs ws -> Vals (gV vs zs) (g us ws)
variable {g : List Value -> List Value -> List Value} {gV : List V -> List V -> List V}
end
structure FnScope (N P : List Str) (sc : Scope) : Prop where
 kind : sc.kind = .function
 co : sc.isCoroutine = false
 gen : sc.isGenerator = false
 nd : N.Nodup
 pre : N.take P.length = P
 par : ∀ x ∈ P, sc.names.lookup x = some .local \/ sc.names.lookup x = some .cell
 nofree : ∀ y ∈ sc.names, y.2 ≠ .free
theorem aa3 {kindOf : Str -> Option NameKind} {x : Str} : ∀ {binds : List (Str × Value)} {m : Str -> Option Value}, (∀ v, (x, v) ∉ binds) -> bindL kindOf binds m x = m x
 | [], _, _ => rfl
 | (n, v) :: r, m, h => by
  unfold bindL
  rw [aa3 fun w hw => h w (alH _ hw)]
  split
  ·have : x ≠ n := by rintro rfl; exact h v alL
   simp [this]
  ·rfl
theorem aa4 {kindOf : Str -> Option NameKind} {x : Str} : ∀ {binds : List (Str × Value)} {m : Str -> Option Value}, (∀ v, (x, v) ∉ binds) -> bindC kindOf binds m x = m x
 | [], _, _ => rfl
 | (n, v) :: r, m, h => by
  unfold bindC
  rw [aa4 fun w hw => h w (alH _ hw)]
  split
  ·rfl
  ·have : x ≠ n := by rintro rfl; exact h v alL
   simp [this]
theorem aa5 {kindOf : Str -> Option NameKind} {x : Str} {v : Value} : ∀ {P : List Str} {vs : List Value} {i : Nat} {m : Str -> Option Value}, P.Nodup -> P[i]? = some x -> vs[i]? = some v -> kindOf x = some .local ->
  bindL kindOf (P.zip vs) m x = some v
 | [], _, _, _, _, h, _, _ => by simp at h
 | _ :: _, [], _, _, _, _, h, _ => by simp at h
 | p :: P, w :: vs, 0, m, nd, h1, h2, hk => by
  simp at h1 h2; subst h1; subst h2
  show bindL kindOf ((p, w) :: P.zip vs) m p = _
  unfold bindL
  rw [aa3 fun v hv => (amF.mp nd).1 (ao8 hv).1, if_pos hk]
  simp
 | p :: P, w :: vs, i + 1, m, nd, h1, h2, hk => by
  show bindL kindOf ((p, w) :: P.zip vs) m x = _
  unfold bindL
  exact aa5 (i := i) (amF.mp nd).2 (by simpa using h1) (by simpa using h2) hk
theorem aa6 {kindOf : Str -> Option NameKind} {x : Str} {v : Value} : ∀ {P : List Str} {vs : List Value} {i : Nat} {m : Str -> Option Value}, P.Nodup -> P[i]? = some x -> vs[i]? = some v -> kindOf x ≠ some .local ->
  bindC kindOf (P.zip vs) m x = some v
 | [], _, _, _, _, h, _, _ => by simp at h
 | _ :: _, [], _, _, _, _, h, _ => by simp at h
 | p :: P, w :: vs, 0, m, nd, h1, h2, hk => by
  simp at h1 h2; subst h1; subst h2
  show bindC kindOf ((p, w) :: P.zip vs) m p = _
  unfold bindC
  rw [aa4 fun v hv => (amF.mp nd).1 (ao8 hv).1, if_neg hk]
  simp
 | p :: P, w :: vs, i + 1, m, nd, h1, h2, hk => by
  show bindC kindOf ((p, w) :: P.zip vs) m x = _
  unfold bindC
  exact aa6 (i := i) (amF.mp nd).2 (by simpa using h1) (by simpa using h2) hk
def start (N : List Str) (vs : List V) : St := vs.map some ++ anf (N.length - vs.length) none
def zW (CX : CXT) (P : Program) (w : World) (K : alE) (mg : Str -> Option Value) (base : Heap) (N : List Str) (qual : Str) (scope : Scope) (f : Addr) (cd : Value) (A : Around) (outer : List Env) (s : Shared) (H : Hp) (E : XK) : Cx where
 prog := P
 w := w
 K := K
 mg := mg
 base := base
 A := A.deeper (envOfC qual scope s.heap.objs.size f cd)
 N := N
 s₀ := s
 H₀ := H
 env := envOfC qual scope s.heap.objs.size f cd
 outer := outer
 stack := envOfC qual scope s.heap.objs.size f cd :: outer
 ex := []
 calm := true
 fn := fun _ => true
 pn := []
 xe := fun e s' => wpAny (model P w) (A.deeper (envOfC qual scope s.heap.objs.size f cd)) (leaving (envOfC qual scope s.heap.objs.size f cd) e) (fun _ s'' => CX outer H s E e s'') (fun e' s'' => CX outer H s E e' s'') s'
theorem acv {sc : Scope} {n : Nat} {x : Str} (h : sc.names.lookup x = some .cell) : ∃ c, (cellsFrom n sc.names []).lookup x = some c := by
 have q := ank sc.names n [] (.inl h)
 exact anH.mp q
theorem afx {CX : CXT} {P : Program} {w : World} {K : alE} {mg : Str -> Option Value} {base : Heap} {N ps : List Str} {qual : Str} {scope : Scope} {f : Addr} {cd : Value} {A : Around} {outer : List Env} {s s1 : Shared} {H : Hp} {E : XK} {us : List Value} {vs : List V}
  (S : FnScope N ps scope) (hd : A.handled = none) (e0 : Env0 P w K mg base A outer s H) (hl : vs.length = ps.length) (r : Vals vs us)
  (x : InCallC s s.heap.objs.size (bindL (envOfC qual scope s.heap.objs.size f cd).kindOf (ps.zip us) fun _ => none) (cellsFrom (s.heap.objs.size + 1) scope.names []) (bindC (envOfC qual scope s.heap.objs.size f cd).kindOf (ps.zip us) fun _ => none) s1) :
  Inv (zW CX P w K mg base N qual scope f cd A outer s H E) [] (start N vs) H s1 := by
 have hpl : ps.length <= N.length := by have := congrArg List.length S.pre; rw [amk] at this; omega
 obtain ⟨h1, tk, rfl, hk⟩ := x.done
 have noA : ∀ b : Addr, b ∉ (zW CX P w K mg base N qual scope f cd A outer s H E).ex := fun b z => absurd (show b ∈ ([] : List Addr) from z) (by simp)
 refine ⟨⟨e0.mod, S.kind, rfl, rfl, alI _, fun y z c h1 h2 => ?_, fun y hy => ?_, fun y c _ h => ?_, fun _ => hd, Around.frames_deeper e0.frames, .inr ⟨rfl, rfl⟩, fun b z => absurd z (noA b), e0.bs, e0.bsz, fun b _ _ => noA b, fun b z => absurd z (noA b), e0.funs, e0.frf⟩,
  rfl, e0.bare, Un.kept hk, ⟨_, x.toInCall.ns, fun i y v h1 h2 h3 => ?_⟩, fun y c h => ⟨_, x.cell y c h⟩, e0.hok.fresh (alI _), fun y c h => ?_, fun p hp => absurd (show p ∈ ([] : List (Addr × Obj)) from hp) (by simp), e0.hok.kept hk, ?_⟩
 ·exact name_of_addr x.apart (ana h1) (ana h2)
 ·have hy : scope.names.lookup y = some .cell \/ scope.names.lookup y = some .free := hy
  rcases hy with hy | hy
  ·exact acv hy
  ·exact absurd rfl (S.nofree _ (ana hy))
 ·exact amM (x.above y c (ana h))
 ·have hi : i < vs.length := by
   unfold start at h2
   by_cases hi : i < vs.length
   ·exact hi
   ·rw [alU (by simpa using hi)] at h2
    rw [ang] at h2
    split at h2 <;> cases h2
  have ha : vs[i]? = some v := by
   unfold start at h2
   rw [alP (by simpa using hi), alJ] at h2
   cases e : vs[i]? with
   | none => rw [e] at h2; cases h2
   | some a => rw [e] at h2; cases h2; rfl
  obtain ⟨u, hu, rv⟩ := r.get ha
  have hp : ps[i]? = some y := by
   rw [<- S.pre, anI (by omega)]; exact h1
  have ndP : ps.Nodup := by rw [<- S.pre]; exact S.nd.sublist (List.take_sublist _ _)
  refine ⟨u, rv, ?_⟩
  rcases S.par y (alN hp) with k | k
  ·exact .inl ⟨k, aa5 ndP hp hu k⟩
  ·obtain ⟨c, e⟩ := acv (n := s.heap.objs.size + 1) k
   refine .inr ⟨.inl k, c, e, ?_⟩
   have q := x.cell y c e
   rw [aa6 ndP hp hu (by show scope.names.lookup y ≠ _; rw [k]; decide)] at q
   exact q
 ·exact e0.hok.fresh (amM (x.above y c (ana h)))
 ·unfold start
  show _ = N.length
  rw [alR, alD, aod]
  omega
theorem ak0 {CX : CXT} {P : Program} {w : World} {K : alE} {mg : Str -> Option Value} {base : Heap} {k : Nat} {f : Addr} {name qual : Str} {params : Arguments} {body : List Stmt} {scope : Scope} {dV kV doc pm cdv ct oc : Value} {an od : Option Addr}
  {osl : Array (Option Value)} {N ps : List Str} {sp : Sp} (lk : K.lookup f = some ⟨oc, od, .func (am8 name qual params body scope dV kV doc pm an cdv ct), osl⟩) (hcd : aox K cdv qual = true) (S : FnScope N ps scope)
  (len : ∀ vs H Q E, sp vs H Q E -> vs.length = ps.length)
  (hbody : ∀ (A : Around) (outer : List Env) (s : Shared) (H : Hp) (vs : List V) (Q : VK) (E : XK), Room k (A.deeper (envOfC qual scope s.heap.objs.size f cdv)) -> sp vs H Q E ->
   ∃ t, PSs (zW CX P w K mg base N qual scope f cdv A outer s H E) body t /\ t { nx := fun _ H' => Q .non H', rt := Q } (start N vs) H) :
  FnOk P w K mg base CX (k + 1) f (am8 name qual params body scope dV kV doc pm an cdv ct) ps sp := by
 refine ⟨len, fun A outer s H args us vs Q E hr e0 hb r hsp => ?_⟩
 have hl := len _ _ _ _ hsp
 have KX : K.In s.heap := e0.mod.kin.keeps fun b o e => (e0.bs b o e).1
 have lim : s.heap.NoLimit := e0.mod.nolimit.keeps fun b o e => (e0.bs b o e).1
 have hkind : ∀ y ∈ ps.zip us, scope.names.lookup y.1 = some .local \/ (scope.names.lookup y.1 = some .cell /\ ((cellsFrom (s.heap.objs.size + 1) scope.names []).lookup y.1).isSome = true) := fun ⟨n, v⟩ hy => by
  rcases S.par n (ao8 hy).1 with q | q
  ·exact .inl q
  ·exact .inr ⟨q, ank _ _ _ (.inl q)⟩
 refine codeAny_call_function hr.depth (KX _ _ lk) rfl S.co S.gen rfl (PySem.W.codeRec_of KX hcd) (hb _ _ _ _ ?_)
 refine wpAny_newFunctionEnv_cells S.kind hkind fun env he s1 x => ?_
 subst he
 refine ⟨lim.keeps x.toInCall.keep, codeAny_func ?_⟩
 obtain ⟨t, ht, hq⟩ := hbody A outer s H vs Q E (hr.deeper _) hsp
 have I : Inv (zW CX P w K mg base N qual scope f cdv A outer s H E) [] (start N vs) H s1 := afx S hr.hd e0 hl r x
 refine wpAny_mono (ht [] s1 (start N vs) H _ I hq) (fun fl s' hs => ?_) fun e s' hs => hs
 have fin : ∀ {σ' : St} {H' : Hp} {v : V} {u : Value}, Inv (zW CX P w K mg base N qual scope f cdv A outer s H E) [] σ' H' s' -> RelV v u -> Q v H' -> CE outer P w H s Q u s' :=
  fun {σ' H' v u} J rv q => ⟨v, H', J.os, J.bare, J.base, J.hok, rv, q⟩
 cases fl with
 | ret u =>
  obtain ⟨v, σ', H', J, rv, q⟩ := hs
  exact fin J rv q
 | next =>
  obtain ⟨σ', H', J, q⟩ := hs
  exact fin (v := V.non) (u := Value.none) J rfl q
 | brk =>
  obtain ⟨_, _, _, q⟩ := hs
  exact anj q
 | cont =>
  obtain ⟨_, _, _, q⟩ := hs
  exact anj q
end L2
namespace L2
open PySem PySem.Spec PyProof.Rows
section
variable {X : Cx} {x : Str} {p pos : Pos} {e : Expr} {es : List Expr} {t : TA} {id T : String} {r : List V -> Hp -> VK -> Prop}
def tCB (r : List V -> Hp -> VK -> Prop) (t : TA) : TE := fun σ H Q => t σ H fun vs H1 => r vs H1 Q
theorem zB (hc : yf X (.builtin id) r) (hg : Gl X x) (hm : X.mg x = none) (hv : bootBuiltins x = some (.builtin id)) (ha : PA X (e :: es) t) (hn : x ≠ "__name__" := by decide) (hdb : (x == ("__debug__" : Str)) = false := by decide)
  (he : starEach (e :: es) X.env = (false, eval e X.env) :: starEach es X.env := by rfl) (hpl : (backTo pos (starEach es X.env)).any (·.1) = false := by rfl) : PE X (.Call (.Name x p) (e :: es) [] pos) (tCB r t) := by
 intro pins s σ H Q I h
 refine wpAny_Call_Name_kw (vt I hg hm hv ?_ hn hdb)
 exact PyProof.Rows.callWith_builtin1 (thn (ha pos pins s σ H _ I h) fun us s1 ⟨vs, H1, I1, r1, q1⟩ => hc pins s1 σ H1 vs us Q I1 r1 q1) he hpl
theorem jx (hc : yf X (.type T) r) (hg : Gl X x) (hm : X.mg x = none) (hv : bootBuiltins x = some (.type T)) (ha : PA X (e :: es) t) (hn : x ≠ "__name__" := by decide) (hdb : (x == ("__debug__" : Str)) = false := by decide)
  (he : starEach (e :: es) X.env = (false, eval e X.env) :: starEach es X.env := by rfl) (hpl : (backTo pos (starEach es X.env)).any (·.1) = false := by rfl) : PE X (.Call (.Name x p) (e :: es) [] pos) (tCB r t) := by
 intro pins s σ H Q I h
 refine wpAny_Call_Name_kw (vt I hg hm hv ?_ hn hdb)
 exact anp (thn (ha pos pins s σ H _ I h) fun us s1 ⟨vs, H1, I1, r1, q1⟩ => hc pins s1 σ H1 vs us Q I1 r1 q1) he hpl
theorem adI (hc : yf X (.type T) r) (hg : Gl X x) (hm : X.mg x = none) (hv : bootBuiltins x = some (.type T)) (hn : x ≠ "__name__" := by decide) (hdb : (x == ("__debug__" : Str)) = false := by decide) :
  PE X (.Call (.Name x p) [] [] pos) (tCB r jX) := by
 intro pins s σ H Q I h
 refine wpAny_Call_Name_kw (vt I hg hm hv ?_ hn hdb)
 exact PyProof.Rows.callWith_type0 (hc pins s σ H [] [] Q I .nil h)
end
end L2
namespace HT
open PySem PyProof.Rows
theorem rcLt_int (A : Around) (s : Shared) (a : Int) (t : Tok) (c : Int) (u : Tok) (prog : Program) (w : World) (E : Value -> Shared -> Prop) (Q : Value -> Shared -> Prop) (h : Q (.bool (decide (a < c))) s) :
  wpAny (model prog w) A (richCompare .Lt (.int a t) (.int c u)) Q E s :=
 (PyProof.Rows.lt_int h : wpAny (model prog w) A (compareOp .Lt (.int a t) (.int c u)) Q E s)
section
open PySem.SeqAt
open PySem.AutoSeq1 (wpAny_loadPart')
open PySem.MeetsSeq PySem.MeetsSeq2 PySem.MeetsSeq3
end
section
variable {prog : Program} {w : World} {A : Around} {E : Value -> Shared -> Prop} {s : Shared}
end
end HT
namespace L2
open PySem PySem.Spec PyProof.Rows
abbrev TO := St -> Hp -> (Option Int -> Hp -> Prop) -> Prop
theorem intsAre_of {ns : List Int} : ∀ {us : List Value}, Vals (ns.map V.int) us -> IntsAre us ns := by
 induction ns with
 | nil => intro us r; rw [anx] at r; cases r; exact .nil
 | cons n ns ih =>
  intro us r
  rw [al3] at r
  cases r with
  | cons r1 r2 =>
   obtain ⟨t, e⟩ := r1
   subst e
   exact .cons n t (ih r2)
section
variable {X : Cx} {e : Expr} {te : TE} {lo hi : Option Expr} {tl th : TO} {pos p2 : Pos}
end
end L2
namespace L2
open PySem PySem.Spec PyProof.Rows
def ixN (n : Nat) (i : Int) : Option Nat := if 0 <= i then (if i < n then some i.toNat else none) else if -(n : Int) <= i then some (i + n).toNat else none
def atI {α : Type} (xs : List α) (i : Int) : Option α := (ixN xs.length i).bind fun j => xs[j]?
theorem aeq {n : Nat} {i : Int} {j : Nat} (h : ixN n i = some j) : seqIndex? i n = some j /\ j < n /\ -(n : Int) <= i /\ i < n := by
 unfold ixN at h
 by_cases h0 : 0 <= i
 ·rw [if_pos h0] at h
  by_cases h1 : i < n
  ·rw [if_pos h1] at h
   have e : i.toNat = j := Option.some.inj h
   exact ⟨by rw [seqIndex_of h0 h1, e], by omega, by omega, h1⟩
  ·rw [if_neg h1] at h; cases h
 ·rw [if_neg h0] at h
  by_cases h1 : -(n : Int) <= i
  ·rw [if_pos h1] at h
   have e : (i + n).toNat = j := Option.some.inj h
   exact ⟨by rw [seqIndex_neg (by omega) h1, e], by omega, h1, by omega⟩
  ·rw [if_neg h1] at h; cases h
theorem aer {α : Type} {xs : List α} {i : Int} {v : α} (h : atI xs i = some v) : ∃ j, seqIndex? i xs.length = some j /\ xs[j]? = some v /\ j < xs.length /\ -(xs.length : Int) <= i /\ i < xs.length := by
 unfold atI at h
 cases e : ixN xs.length i with
 | none => rw [e] at h; cases h
 | some j =>
  rw [e] at h
  obtain ⟨h1, h2, h3, h4⟩ := aeq e
  exact ⟨j, h1, h, h2, h3, h4⟩
theorem vY {α : Type} {xs : List α} {j : Nat} {v : α} (h : xs[j]? = some v) : atI xs (j : Int) = some v := by
 have hj : j < xs.length := (alG.mp h).1
 have e : ixN xs.length (j : Int) = some j := by
  unfold ixN
  rw [if_pos (by omega), if_pos (by omega)]; simp
 unfold atI; rw [e]; exact h
def aes (b : Expr) : Prop := ∀ o i, subscripted b false o i = operate [o, i] (getItem o i)
def IxR (X : Cx) (r : R2) : Prop :=
 ∀ (value slice : Expr) (pins : List (Addr × Obj)) (s : Shared) (σ : St) (H : Hp) (x y : V) (v u : Value) (Q : VK), Inv X pins σ H s -> RelV x v -> RelV y u -> r x y H Q ->
  subscripted slice false v u = operate [v, u] (getItem v u) -> wpAny (model X.prog X.w) X.A (subscriptTail value slice v u) (EP X pins σ Q) X.xe s
def MtR (X : Cx) (id : String) (r : V -> List V -> Hp -> VK -> Prop) : Prop :=
 ∀ (pins : List (Addr × Obj)) (s : Shared) (σ : St) (H : Hp) (x : V) (xs : List V) (v : Value) (us : List Value) (Q : VK), Inv X pins σ H s -> RelV x v -> Vals xs us -> r x xs H Q ->
  wpAny (model X.prog X.w) X.A (call (.builtin id) (v :: us)) (EP X pins σ Q) X.xe s
section
variable {X : Cx} {a b : Expr} {ta tb : TE} {pos : Pos}
theorem zN {r : R2} (hr : IxR X r) (ha : PE X a ta) (hb : PE X b tb) (hs : aes b) : PE X (.Subscript a b pos) (tOp r ta tb) := by
 intro pins s σ H Q I h
 exact Subscript_ (ajU ha hb I h fun v u s2 x y H2 I2 rx ry q => hr a b pins s2 σ H2 x y v u Q I2 rx ry q (hs _ _))
def afy (K : alE) : R2 := fun x y H Q => ∃ p xs i v, x = .ref p /\ y = .int i /\ SqL K H p xs /\ atI xs i = some v /\ Q v H
def aj0 (K : alE) : R2 := fun x y H Q => ∃ p xs i v, x = .ref p /\ y = .int i /\ SqT K H p xs /\ atI xs i = some v /\ Q v H
theorem aif : IxR X (afy X.K) := by
 intro value slice pins s σ H x y v u Q I rx ry h hs
 obtain ⟨p, xs, i, z, rfl, rfl, hq, he, q⟩ := h
 cases rx
 obtain ⟨t, rfl⟩ := ry
 obtain ⟨its, r, pl, hz⟩ := I.list hq
 obtain ⟨j, h1, h2, h3, h4, h5⟩ := aer he
 obtain ⟨w, ew, rw'⟩ := r.get h2
 have hl := r.length
 have hn := aal
 have fin : EP X pins σ Q w s := ⟨z, H, I, rw', q⟩
 by_cases h0 : 0 <= i
 ·have hj : i.toNat = j := by
   rw [seqIndex_of h0 h5] at h1
   exact Option.some.inj h1
  exact item_listR pl.isList h0 (by omega) (by rw [hj]; simpa using ew) fin hs
 ·have hj : (i + (its.toArray.size : Int)).toNat = j := by
   rw [seqIndex_neg (by omega) h4] at h1
   rw [alW, <- hl]
   exact Option.some.inj h1
  exact subscriptTail_builtinR (x := w) pl.isList.typeIs slot_list_getitem.lookup
   (wpAny_getItem_list_neg (Q := fun r s' => r = w /\ EP X pins σ Q r s') pl.isList (by omega) (by rw [alW] <;> omega) (by omega) (by rw [hj]; simpa using ew) ⟨rfl, fin⟩) hs
theorem aj1 : IxR X (aj0 X.K) := by
 intro value slice pins s σ H x y v u Q I rx ry h hs
 obtain ⟨p, xs, i, z, rfl, rfl, hq, he, q⟩ := h
 cases rx
 obtain ⟨t, rfl⟩ := ry
 obtain ⟨its, r, pl, hz⟩ := I.tuple hq
 obtain ⟨j, h1, h2, h3, h4, h5⟩ := aer he
 obtain ⟨w, ew, rw'⟩ := r.get h2
 have hl := r.length
 have hn := aal
 have fin : EP X pins σ Q w s := ⟨z, H, I, rw', q⟩
 exact subscriptTail_builtinR (x := w) pl.typeIs slot_tuple_getitem.lookup
  (getItem_tuple (j := j) (Q := fun r s' => r = w /\ EP X pins σ Q r s') pl (by omega) (by omega) (by rw [alW, <- hl]; exact h1) (by simpa using ew) ⟨rfl, fin⟩) hs
theorem adJ (its : List Value) (n j : Nat) (u : Value) : ant (·.setIfInBounds j u) { cls := .type "list", data := .seq its.toArray n } = { cls := .type "list", data := .seq (its.set j u).toArray n } := by
 simp [ant]
theorem Inv.lst {pins : List (Addr × Obj)} {σ : St} {H : Hp} {s : Shared} {p : Addr} {xs : List V} (I : Inv X pins σ H s) (h : H p = some (.lst xs)) :
  ∃ (its : List Value) (n : Nat), Vals xs its /\ s.heap.get? p = some { cls := .type "list", data := .seq its.toArray n } /\ xs.length <= sizeLine := by
 obtain ⟨z, its, n, r, e⟩ := I.hok p _ h
 exact ⟨its, n, r, e, z⟩
theorem Inv.lstUpd {pins : List (Addr × Obj)} {σ : St} {H : Hp} {s : Shared} {p : Addr} {xs ys : List V} {its its' : List Value} {n n' : Nat} {f : Obj -> Obj} (I : Inv X pins σ H s) (h : H p = some (.lst xs))
  (ho : s.heap.get? p = some { cls := .type "list", data := .seq its.toArray n }) (hf : f { cls := .type "list", data := .seq its.toArray n } = { cls := .type "list", data := .seq its'.toArray n' }) (r : Vals ys its') (hz : ys.length <= sizeLine) (t : Nat) :
  Inv X pins σ (upd H p (.lst ys)) { s with heap := s.heap.update p f, toks := t } := by
 have e : (s.heap.update p f).get? p = some { cls := .type "list", data := .seq its'.toArray n' } := by
  rw [aoe f ho (by rw [hf] <;> rfl), hf]
 refine I.write (x := p) (e := p) (by rw [h]; trivial) (.inl rfl) (fun b u hb q => (amW _ _ (amN hb)).trans q) ⟨_, e⟩ ?_
 exact ⟨hz, its', n', r, e⟩
def aam : V -> V -> V -> Hp -> (Hp -> Prop) -> Prop := fun o i v H Q => ∃ p xs k j, o = .ref p /\ i = .int k /\ H p = some (.lst xs) /\ ixN xs.length k = some j /\ Q (upd H p (.lst (xs.set j v)))
theorem set_list : ah6 X aam := by
 intro pins s σ H o i v ov iv u Q I ro ri rv h
 obtain ⟨p, xs, k, j, rfl, rfl, hp, hj, q⟩ := h
 cases ro
 obtain ⟨t, rfl⟩ := ri
 obtain ⟨its, n, r, ho, hz⟩ := I.lst hp
 obtain ⟨h1, h2, h3, h4⟩ := aeq hj
 have hl := r.length
 have hn := aal
 have I' : Inv X pins σ (upd H p (.lst (xs.set j v))) { s with heap := s.heap.update p (ant (·.setIfInBounds j u)) } :=
  I.lstUpd hp ho (adJ its n j u) (r.set rv j) (by rw [anL]; exact hz) s.toks
 by_cases h0 : 0 <= k
 ·have hk : k.toNat = j := by
   rw [seqIndex_of h0 h4] at h1
   exact Option.some.inj h1
  exact PySem.W.ki_setAt ho h0 (by omega) (by rw [alW, <- hl]; exact h4) (by rw [hk]; exact ⟨_, I', q⟩)
 ·have hk : (k + (its.toArray.size : Int)).toNat = j := by
   rw [seqIndex_neg (by omega) h3] at h1
   rw [alW, <- hl]
   exact Option.some.inj h1
  exact PySem.W.ki_setBack ho (by omega) (by rw [alW, <- hl]; exact h3) (by omega) (by rw [hk]; exact ⟨_, I', q⟩)
def vK : V -> Bool
 | .non => true
 | .bl _ => true
 | .int _ => true
 | .str _ => true
 | _ => false
def eqV : V -> V -> Bool
 | .non, .non => true
 | .bl a, .bl b => a == b
 | .bl a, .int b => (if a then 1 else 0) == b
 | .int a, .bl b => a == (if b then 1 else 0)
 | .int a, .int b => a == b
 | .str a, .str b => a == b
 | _, _ => false
theorem aj2 {A : Around} {s : Shared} {y x : V} {u v : Value} (ry : RelV y u) (rx : RelV x v) (fy : vK y = true) (fx : vK x = true) : SeqAt.EqAt A s u v (eqV y x) := by
 cases y with
 | non =>
  cases ry
  cases x with
  | non => cases rx; exact SeqAt.EqAt.same _
  | bl b => cases rx; exact SeqAt.EqAt.none_bool b
  | int b => obtain ⟨t, rfl⟩ := rx; exact SeqAt.EqAt.none_int b t
  | str b => obtain ⟨t, rfl⟩ := rx; exact SeqAt.EqAt.none_str b t
  | _ => exact absurd (show false = true from fx) alC
 | bl a =>
  cases ry
  cases x with
  | non => cases rx; exact SeqAt.EqAt.bool_none a
  | bl b => cases rx; exact SeqAt.EqAt.bool_bool a b
  | int b => obtain ⟨t, rfl⟩ := rx; exact SeqAt.EqAt.bool_int a b t
  | str b => obtain ⟨t, rfl⟩ := rx; exact SeqAt.EqAt.bool_str a b t
  | _ => exact absurd (show false = true from fx) alC
 | int a =>
  obtain ⟨t', rfl⟩ := ry
  cases x with
  | non => cases rx; exact SeqAt.EqAt.int_none a t'
  | bl b => cases rx; exact SeqAt.EqAt.int_bool a t' b
  | int b => obtain ⟨t, rfl⟩ := rx; exact SeqAt.EqAt.int_int a t' b t
  | str b => obtain ⟨t, rfl⟩ := rx; exact SeqAt.EqAt.int_str a t' b t
  | _ => exact absurd (show false = true from fx) alC
 | str a =>
  obtain ⟨t', rfl⟩ := ry
  cases x with
  | non => cases rx; exact SeqAt.EqAt.str_none a t'
  | bl b => cases rx; exact SeqAt.EqAt.str_bool a t' b
  | int b => obtain ⟨t, rfl⟩ := rx; exact SeqAt.EqAt.str_int a t' b t
  | str b => obtain ⟨t, rfl⟩ := rx; exact SeqAt.EqAt.str_str a t' b t
  | _ => exact absurd (show false = true from fx) alC
 | _ => exact absurd (show false = true from fy) alC
def eqU (x : V) (u : Value) : Bool := match u with
 | .none => eqV .non x
 | .bool b => eqV (.bl b) x
 | .int i _ => eqV (.int i) x
 | .str z _ => eqV (.str z) x
 | _ => false
theorem agE {x y : V} {u : Value} (r : RelV y u) (f : vK y = true) : eqU x u = eqV y x := by
 cases y with
 | non => cases r; rfl
 | bl b => cases r; rfl
 | int i => obtain ⟨t, rfl⟩ := r; rfl
 | str z => obtain ⟨t, rfl⟩ := r; rfl
 | _ => exact absurd (show false = true from f) alC
theorem abD {x : V} : ∀ {xs : List V} {us : List Value}, Vals xs us -> xs.all vK = true -> us.any (eqU x) = xs.any fun y => eqV y x
 | _, _, .nil, _ => rfl
 | y :: xs, u :: us, .cons r t, f => by
  rw [apw, alM] at f
  rw [aoO, aoO, agE r f.1, abD t f.2]
theorem aan {A : Around} {s : Shared} {x : V} {v : Value} (rx : RelV x v) (fx : vK x = true) : ∀ {xs : List V} {us : List Value}, Vals xs us -> xs.all vK = true -> ∀ u ∈ us, SeqAt.EqAt A s u v (eqU x u)
 | _, _, .nil, _ => fun u hu => by cases hu
 | y :: xs, u :: us, .cons r t, f => fun u' hu => by
  rw [apw, alM] at f
  rcases alO.mp hu with rfl | hu
  ·rw [agE r f.1]; exact aj2 r rx f.1 fx
  ·exact aan rx fx t f.2 u' hu
def inV (x : V) (xs : List V) : Bool := xs.any fun y => eqV y x
def rIn (K : alE) (neg : Bool) : R2 := fun x y H Q => ∃ p xs, y = .ref p /\ (SqL K H p xs \/ SqT K H p xs) /\ vK x = true /\ xs.all vK = true /\ Q (.bl (if neg then !inV x xs else inV x xs)) H
theorem abE : OpR X (compareOp .NotIn) (rIn X.K true) := by
 intro pins s σ H x y v u Q I rx ry h
 obtain ⟨p, xs, rfl, hq, fx, fs, q⟩ := h
 cases ry
 rcases hq with hq | hq
 ·obtain ⟨its, r, pl, hz⟩ := I.list hq
  refine SeqAt.notIn_listAt (eqU x) pl.isList (fun w hw => aan rx fx r fs w (by simpa using hw)) ⟨.bl _, H, I, rfl, ?_⟩
  rw [show its.toArray.any (eqU x) = its.any (eqU x) by simp, abD r fs]
  exact q
 ·obtain ⟨its, r, pl, hz⟩ := I.tuple hq
  refine SeqAt.notIn_tupleAt (eqU x) pl (fun w hw => aan rx fx r fs w (by simpa using hw)) ⟨.bl _, H, I, rfl, ?_⟩
  rw [show its.toArray.any (eqU x) = its.any (eqU x) by simp, abD r fs]
  exact q
theorem abF : yf X (.builtin "len") (fun xs H Q => ∃ p ys, xs = [.ref p] /\ (SqL X.K H p ys \/ SqT X.K H p ys) /\ Q (.int ys.length) H) := by
 intro pins s σ H xs us Q I r h
 obtain ⟨p, ys, rfl, hq, q⟩ := h
 obtain ⟨u, rfl, rx⟩ := vals1 r
 cases rx
 have hn := aal
 rcases hq with hq | hq
 ·obtain ⟨its, r', pl, hz⟩ := I.list hq
  have hlen := r'.length
  exact Calls.call_len_list pl.isList (by simp only [alW] <;> omega) ⟨.int ys.length, H, I.tok _, ⟨s.toks + 1, by rw [alW, hlen]⟩, q⟩
 ·obtain ⟨its, r', pl, hz⟩ := I.tuple hq
  have hlen := r'.length
  exact len_tuple pl (by simp only [alW] <;> omega) ⟨.int ys.length, H, I.tok _, ⟨s.toks + 1, by rw [alW, hlen]⟩, q⟩
theorem abG : yf X (.type "list") (fun xs H Q => ∃ p ys, xs = [.ref p] /\ (SqL X.K H p ys \/ SqT X.K H p ys) /\ ∀ l, H l = none -> Q (.ref l) (upd H l (.lst ys))) := by
 intro pins s σ H xs us Q I r h
 obtain ⟨p, ys, rfl, hq, q⟩ := h
 obtain ⟨u, rfl, rx⟩ := vals1 r
 cases rx
 have fin : ∀ (its : List Value), Vals ys its -> ys.length <= sizeLine -> ∀ (h' : Heap) (c' : Nat), (∀ b o', s.heap.get? b = some o' -> h'.get? b = some o') ->
   h'.get? s.heap.objs.size = some { cls := .type "list", dict := none, data := .seq its.toArray c', slots := #[] } -> EP X pins σ Q (.ref s.heap.objs.size) { s with heap := h' } := fun its r' hz h' c' kp e =>
  ⟨.ref s.heap.objs.size, _, I.laid (t' := s.toks) kp (alI _) (show ObjOk X.prog X.w _ h' _ (.lst ys) from ⟨hz, its, c', r', e⟩), rfl, q _ (I.hok.fresh (alI _))⟩
 rcases hq with hq | hq
 ·obtain ⟨its, r', pl, hz⟩ := I.list hq
  have hlen := r'.length
  obtain ⟨o, ho, hc, n, hd⟩ := pl.isList
  exact call_list_seq p (.inl rfl) ho hc hd (fun h' c' kp e => fin its r' hz h' c' kp e) (by simp only [alW] <;> omega)
 ·obtain ⟨its, r', pl, hz⟩ := I.tuple hq
  have hlen := r'.length
  obtain ⟨o, ho, hc, n, hd⟩ := pl
  exact call_list_seq p (.inr rfl) ho hc hd (fun h' c' kp e => fin its r' hz h' c' kp e) (by simp only [alW] <;> omega)
theorem aaP : yf X (.type "tuple") (fun xs H Q => ∃ p ys, xs = [.ref p] /\ ((SqL X.K H p ys /\ ∀ l, H l = none -> Q (.ref l) (upd H l (.tup ys))) \/ (SqT X.K H p ys /\ Q (.ref p) H))) := by
 intro pins s σ H xs us Q I r h
 obtain ⟨p, ys, rfl, h⟩ := h
 obtain ⟨u, rfl, rx⟩ := vals1 r
 cases rx
 rcases h with ⟨hq, q⟩ | ⟨hq, q⟩
 ·obtain ⟨its, r', pl, hz⟩ := I.list hq
  have hlen := r'.length
  refine call_tuple_list pl.isList (fun h' kp => ?_) (by simp only [alW] <;> omega)
  have I1 : Inv X pins σ H { s with heap := h' } := I.kept (t' := s.toks) kp
  have I2 : Inv X pins σ (upd H h'.objs.size (.tup ys)) { s with heap := h'.push { cls := .type "tuple", data := .seq its.toArray } } :=
   I1.laid (t' := s.toks) (fun b o e => alQ _ e) (alI _) (show ObjOk X.prog X.w _ _ _ (.tup ys) from ⟨hz, its, r', IsTup.new _ _⟩)
  exact ⟨.ref h'.objs.size, _, I2, rfl, q _ (I1.hok.fresh (alI _))⟩
 ·obtain ⟨its, r', pl, hz⟩ := I.tuple hq
  exact call_tuple_same pl ⟨.ref p, H, I, rfl, q⟩
def tyV (K : alE) (T : String) (x : V) (H : Hp) : Prop := match x with
 | .str _ => T = "str"
 | .int _ => T = "int"
 | .ref p => (T = "list" /\ ∃ xs, SqL K H p xs) \/ (T = "tuple" /\ ∃ o, K.lookup p = some o /\ o.cls = .type "tuple" /\ o.dict = none) \/
   (T = "dict" /\ ((∃ kvs, H p = some (.dK kvs)) \/ ∃ kvs, H p = some (.dT kvs))) \/ (T = "set" /\ ∃ S n, H p = some (.set S n))
 | _ => False
theorem aj3 {pins : List (Addr × Obj)} {σ : St} {H : Hp} {s : Shared} {T : String} {x : V} {v : Value} (I : Inv X pins σ H s) (r : RelV x v) (ty : tyV X.K T x H) :
  s.TypeIs v T /\ ∀ a, v = .ref a -> ∃ ob, s.heap.get? a = some ob /\ ob.dict = none := by
 cases x with
 | str z =>
  obtain ⟨t, rfl⟩ := r
  cases (show T = "str" from ty)
  exact ⟨typeIs_str s z t, fun _ e => nomatch e⟩
 | int i =>
  obtain ⟨t, rfl⟩ := r
  cases (show T = "int" from ty)
  exact ⟨typeIs_int s i t, fun _ e => nomatch e⟩
 | ref p =>
  cases r
  rcases ty with ⟨rfl, xs, hq⟩ | ⟨rfl, o, hk, hc, hd⟩ | ⟨rfl, hk⟩ | ⟨rfl, S, n, hk⟩
  ·obtain ⟨its, _, pl, _⟩ := I.list hq
   refine ⟨pl.isList.typeIs, fun a e => ?_⟩
   cases e
   obtain ⟨o, n, e, c, hd, _⟩ := pl
   exact ⟨o, e, hd⟩
  ·refine ⟨⟨o, I.kIn p o hk, hc⟩, fun a e => ?_⟩
   cases e
   exact ⟨o, I.kIn _ o hk, hd⟩
  ·have z : ∃ o, s.heap.get? p = some o /\ o.ExactDict := by
    rcases hk with ⟨kvs, hk⟩ | ⟨kvs, hk⟩
    ·obtain ⟨_, _, _, _, o, _, _, e, ex, _⟩ := I.hok p _ hk
     exact ⟨o, e, ex⟩
    ·obtain ⟨_, _, _, _, o, _, _, e, ex, _⟩ := I.hok p _ hk
     exact ⟨o, e, ex⟩
   obtain ⟨o, e, ex⟩ := z
   refine ⟨⟨o, e, ex.1⟩, fun a e2 => ?_⟩
   cases e2
   exact ⟨o, e, ex.2.1⟩
  ·obtain ⟨o, _, _, _, e, ex, _⟩ := I.hok p _ hk
   refine ⟨⟨o, e, ex.1⟩, fun a e2 => ?_⟩
   cases e2
   exact ⟨o, e, ex.2.1⟩
 | _ => exact anj ty
def tBM (K : alE) (T : String) (r : V -> List V -> Hp -> VK -> Prop) (to : TE) (t : TA) : TE := fun σ H Q => to σ H fun x H1 => tyV K T x H1 /\ t σ H1 fun xs H2 => r x xs H2 Q
variable {o e : Expr} {es : List Expr} {to : TE} {t : TA} {name : Str} {apos cpos : Pos} {T id : String} {r : V -> List V -> Hp -> VK -> Prop}
theorem acw (pa : PlainAttrs T) (slot : Slot T name id) (hty : typeOf (.builtin id) = pure (.type "method_descriptor")) (hm : MtR X id r) (ho : PE X o to) (ha : PA X (e :: es) t)
  (hbase : attributeBase o name X.env (eval o X.env) = eval o X.env := by rfl)
  (hfew : ((backTo cpos (starEach (e :: es) X.env)).all (fun x => !x.1) && (backToKw cpos (keywordEach [] X.env)).all (fun x => x.1.isSome)
   && decide ((e :: es).length + ([] : List Keyword).length + (if ([] : List Keyword).isEmpty then 0 else 1) < 30)) = true := by rfl)
  (hline : (apos.endLine == cpos.line) = true := by rfl) (hs : starEach (e :: es) X.env = (false, eval e X.env) :: starEach es X.env := by rfl) (hplain : (backTo cpos (starEach es X.env)).any (·.1) = false := by rfl) :
  PE X (.Call (.Attribute o name apos) (e :: es) [] cpos) (tBM X.K T r to t) := by
 intro pins s σ H Q I h
 refine wpAny_Call_method_late hbase hfew hline rfl (thn (ho pins s σ H _ I h) fun v s1 ⟨x, H1, I1, r1, ty, q1⟩ => ?_)
 obtain ⟨h1, h2⟩ := aj3 I1 r1 ty
 refine ⟨T, id, pa, slot, hty, h1, h2, ?_⟩
 have hA := ha cpos pins s1 σ H1 _ I1 q1
 rw [hs] at hA ⊢
 refine ao1 (by show (false || (backTo cpos (starEach es X.env)).any (·.1)) = false; rw [hplain] <;> rfl) (apf ?_)
 exact thn hA fun us s2 ⟨vs, H2, I2, r2, q2⟩ => hm pins s2 σ H2 x vs v us Q I2 r1 r2 q2
/- xs.append(e), list.index on a module's tuple .. are MtR facts of 06m -/
end
end L2
namespace L2
open PySem PySem.Spec PyProof.Rows
def MtM (X : Cx) (id : String) (r : V -> List V -> Hp -> VK -> Prop) : Prop :=
 ∀ (pins : List (Addr × Obj)) (s : Shared) (σ : St) (H : Hp) (x : V) (xs : List V) (v : Value) (us : List Value) (Q : VK), Inv X pins σ H s -> RelV x v -> Vals xs us -> r x xs H Q ->
  wpAny (model X.prog X.w) X.A (call (.builtin id) (v :: us)) (EP X pins σ Q) X.xe s
theorem Vals.one : ∀ {x : V} {us : List Value}, Vals [x] us -> ∃ u, us = [u] /\ RelV x u
 | _, _, .cons r .nil => ⟨_, rfl, r⟩
section
variable {X : Cx} {pins : List (Addr × Obj)} {σ : St} {H : Hp} {s : Shared} {l b : Addr} {xs ys zs : List V}
theorem Inv.lset {its its' : List Value} {n : Nat} {f : Array Value -> Array Value} {t' : Nat} (I : Inv X pins σ H s) (hH : H l = some (.lst xs))
  (e : s.heap.get? l = some { cls := .type "list", data := .seq its.toArray n }) (hf : f its.toArray = its'.toArray) (hv : Vals ys its') (hz : ys.length <= sizeLine) :
  Inv X pins σ (upd H l (.lst ys)) { s with heap := s.heap.update l (ant f), toks := t' } := by
 have q := PySem.IsL.update e f
 rw [hf] at q
 refine I.write (x := l) (e := l) (by rw [hH]; exact trivial) (.inl rfl) (fun b' u hb hu => (amW s.heap (ant f) (amN hb)).trans hu) ⟨_, q⟩ ?_
 exact ⟨hz, its', _, hv, q⟩
theorem Inv.lnew {its : List Value} {t' : Nat} (I : Inv X pins σ H s) (hv : Vals ys its) (hz : ys.length <= sizeLine) :
  Inv X pins σ (upd H s.heap.objs.size (.lst ys)) { s with heap := s.heap.push { cls := .type "list", data := .seq its.toArray }, toks := t' } :=
 I.laid (fun _ _ q => alQ _ q) (alI _) ⟨hz, its, 0, hv, amj _ rfl⟩
theorem Inv.fresh (I : Inv X pins σ H s) : H s.heap.objs.size = none := I.hok.fresh (alI _)
theorem Inv.lstM (I : Inv X pins σ H s) (hH : H l = some (.lst xs)) : xs.length <= sizeLine /\ ∃ (its : List Value) (n : Nat), Vals xs its /\ xs.length = its.length /\ s.heap.get? l = some { cls := .type "list", data := .seq its.toArray n } := by
 obtain ⟨z, its, n, r, e⟩ := I.hok l _ hH
 exact ⟨z, its, n, r, r.length, e⟩
end
section
variable {X : Cx}
def aet : V -> List V -> Hp -> VK -> Prop := fun x vs H Q => ∃ l xs y, x = .ref l /\ vs = [y] /\ H l = some (.lst xs) /\ xs.length < sizeLine /\ Q .non (upd H l (.lst (xs ++ [y])))
theorem jy : MtM X "list.append" aet := by
 intro pins s σ H x vs v us Q I rx rv h
 obtain ⟨l, xs, y, rfl, rfl, hH, hz, q⟩ := h
 cases rx
 obtain ⟨u, rfl, ru⟩ := rv.one
 obtain ⟨z, its, n, r, hl, e⟩ := I.lstM hH
 refine call_meets F.slot_list_append ⟨_, e, rfl⟩ apr (apg _ _) (PySem.list_append l its.toArray n u (by rw [alW]; omega)) ⟨e, ?_⟩
 refine ⟨.non, _, I.lset (its' := its ++ [u]) hH e (by simp) (r.append (.cons ru .nil)) ?_, rfl, q⟩
 rw [alR, amn]
 omega
end
end L2
namespace Att
open PySem PySem.W PySem.Calls PyProof.Rows
theorem vU {P : Params} {h : Heap} : ∀ (ns : List Int) (vs : List Value), WellAll P h vs (ns.map WData.int) -> IntsAre vs ns := by
 intro ns
 induction ns with
 | nil =>
  intro vs w
  rw [anx] at w
  cases w
  exact .nil
 | cons n ns ih =>
  intro vs w
  rw [al3] at w
  cases w with
  | cons a b =>
   cases a
   exact .cons _ _ (ih _ b)
theorem afz {l : OpenLaw} {n : Nat} (hn : l.most = some n) {P : Params} {h : Heap} {args : List WData} {vals : List Value}
  (hpre : l.row.toRowW.claim.pre args = true) (hwl : WellAll P h vals args) :
  ∃ a vs ns, vals = [Value.ref a] /\ args = [WData.list (ns.map WData.int)] /\ h.get? a = some { cls := .type "list", data := .seq vs.toArray } /\ IntsAre vs ns /\ ns.length <= n := by
 have hsh : WShape.hasAll [] args [.list .int] = true := (pre_splitW hpre).1
 have hc : l.pre.holds [] { args := args } = true := (pre_splitW hpre).2
 obtain ⟨d, r, rfl, h1, h2⟩ := hasAllW_cons hsh
 obtain rfl := hasAllW_nil h2
 obtain ⟨xs, rfl, h3⟩ := hasW_list h1
 obtain ⟨ns, rfl⟩ := items_int h3
 have hlen : ns.length <= n := by
  unfold OpenLaw.pre at hc
  have h4 : (WTm.not (.lt (.lit (.int (n : Int))) (.len (.arg 0)))).holds [] { args := [.list (ns.map .int)] } = true := by
   have h4 := (holds_andW hc).1
   rw [hn] at h4
   exact h4
  have h5 := condW_of h4 (w_not (w_lt w_lit (w_len_list (w_arg rfl))))
  rw [alD] at h5
  refine Nat.le_of_not_lt fun q => ?_
  have q' : (n : Int) < ((ns.length : Nat) : Int) := by omega
  first
   | (rw [decide_eq_true q'] at h5; exact absurd h5 (by decide))
   | (simp at h5; omega)
 cases hwl with
 | cons w1 w2 =>
  cases w2
  cases w1 with
  | list ho hall => exact ⟨_, _, ns, rfl, rfl, ho, vU ns _ hall, hlen⟩
theorem afA (l : OpenLaw) (args : List WData) : l.row.toRowW.claim.post args (.bool true) args = true :=
 postW_of (r := l.row.toRowW) (X := (true == true))
  (show WShape.has [] (.bool true) .bool = true by first | rfl | decide | simp [WShape.has, WShape.arms, WShape.armsAll])
  (show (WTm.eq .res (.lit (.bool true))).value [] { args := args, res := some (.bool true), after := args } = some (.bool (true == true)) from w_eq_bool (w_res rfl) w_lit) rfl
theorem attach_call {l : OpenLaw} {n : Nat} {q : Program} {loose : List Str} {XP : (Str -> Option Value) -> Heap -> Prop} {YP : World -> Heap -> Prop} {d : DefRec}
  (hn : l.most = some n) (hdf : d.params.defaults = [])
  (call : ∀ (w : World) (s₀ s₁ : Shared) (mg mb : Str -> Option Value) (fa : Addr) (o : Obj) (pm cd doc : Value) (a : Addr) (vs : List Value) (ns : List Int),
   Ground q loose [] XP w s₀ mg mb s₁.heap -> YP w s₁.heap ->
   s₁.heap.get? fa = some o -> o.data = .func (docDef d.name d.params d.body d.scope pm cd doc) -> s₁.heap.CodeRec cd d.name -> mg d.name = some (.ref fa) ->
   s₁.heap.get? a = some { cls := .type "list", data := .seq vs.toArray } -> IntsAre vs ns -> ns.length <= n -> s₁.gens = #[] ->
   codeAny (model l.prog w) callerA (.call (.ref fa) ⟨[.ref a], []⟩) (fun r s' => r = .ok (.ret (.bool true)) /\ OldK s₁.heap s'.heap /\ s'.os = s₁.os /\ AllBare s'.gens) s₁) :
  WalkO q loose XP YP l.row.toRowW d [] (fun f vs => PySem.call f vs) := by
 intro w s₀ s₁ mg mb G Y fa o pm cd doc dV kV ho hd hcd hD hmg hg args vals as hpre hlay hrd hwl hlo
 obtain rfl : dV = .none := Dflts.none hD hdf
 obtain rfl : kV = .none := Dflts.noKw hD
 obtain ⟨a, vs, ns, rfl, rfl, hobj, hints, hlen⟩ := afz hn hpre hwl
 refine enter_call (codeAny_mono (call w s₀ s₁ mg mb fa o pm cd doc a vs ns G Y ho (fd_plain hd) hcd hmg hobj hints hlen hg) fun r s' hq => ?_)
 obtain ⟨rfl, h2, h3, h4⟩ := hq
 exact ⟨.inl ⟨.bool true, .bool true, [], rfl, fun _ => rfl, .bool true, afA l _, fun _ => ⟨List.Pairwise.nil, fun _ hm => (nomatch hm)⟩⟩, h2, h3, h4⟩
section
variable {prog : Program} {w : World} {A : Around} {E : Value -> Shared -> Prop} {s : Shared} {K : Frag}
end
end Att
namespace L2
open PySem PySem.Spec PyProof.Rows
theorem aa7 : ∀ {vs : List Value} {ns : List Int}, IntsAre vs ns -> Vals (ns.map V.int) vs
 | _, _, .nil => .nil
 | _, _, .cons n t h => .cons ⟨t, rfl⟩ (aa7 h)
def aj4 (H : Hp) : Prop := ∀ b, H b = none \/ ∃ o xs, H b = some (.frz o (.lst xs))
theorem agF {P : Program} {w : World} {K : alE} {mg mb : Str -> Option Value} {CX : CXT} {k : Nat} {fa a : Addr} {fd : FuncData} {x : Str} {sp : Sp} {s₁ : Shared} {vs : List Value} {ns : List Int}
  (KX : K.In s₁.heap) (hns : s₁.heap.Ns mainGlobals mg) (hb : s₁.heap.Ns builtinsNs mb) (hbb : ∀ x : Str, x ≠ "__name__" -> mb x = bootBuiltins x) (hlim : s₁.heap.NoLimit) (hg : s₁.gens = #[])
  (ha : s₁.heap.get? a = some { cls := .type "list", data := .seq vs.toArray }) (hi : IntsAre vs ns) (hl : ns.length <= sizeLine) (hr : Room k callerA)
  (F : ∀ base : Heap, K.In base -> base.Ns mainGlobals mg -> FnOk P w K mg base CX k fa fd [x] sp) (hbind : ∀ (s : Shared) (u : Value), BindsTo s fd ⟨[u], []⟩ [(x, u)])
  (hsp : ∀ H : Hp, aj4 H -> SqL K H a (ns.map V.int) -> sp [.ref a] H (fun v _ => v = .bl true) fun _ _ _ => False)
  (hCX : ∀ H e s', CX [] H s₁ (fun _ _ _ => False) e s' -> False) :
  codeAny (model P w) callerA (.call (.ref fa) ⟨[.ref a], []⟩) (fun r s' => r = .ok (.ret (.bool true)) /\ OldK s₁.heap s'.heap /\ s'.os = s₁.os /\ AllBare s'.gens) s₁ := by
 have rv := aa7 hi
 have lenV := hi.length
 -- from an abstract heap in which nothing but the script may be tracked
 have core : ∀ H : Hp, aj4 H -> SqL K H a (ns.map V.int) -> HOk P w H s₁.heap -> (∀ b, H b ≠ none -> b = a) -> (H a ≠ none -> K.lookup a = none) ->
   codeAny (model P w) callerA (.call (.ref fa) ⟨[.ref a], []⟩) (fun r s' => r = .ok (.ret (.bool true)) /\ OldK s₁.heap s'.heap /\ s'.os = s₁.os /\ AllBare s'.gens) s₁ := by
  intro H hO hS hok hA hK
  have base_of : ∀ {b : Addr} {o : Obj}, s₁.heap.get? b = some o -> H b = none -> (abw s₁.heap H).get? b = some o := fun e n => agt e n
  have noA : ∀ {b : Addr} {o : Obj} {es : Array DictEntry} {ep : Nat}, s₁.heap.get? b = some o -> o.data = .dict es ep -> H b = none := fun {b o es ep} e d => by
   cases q : H b with
   | none => rfl
   | some u =>
    have e' : b = a := hA b (by rw [q]; simp)
    subst e'
    rw [ha] at e; cases e
    have d' : Data.seq vs.toArray _ = Data.dict es ep := d
    cases d'
  have nsK : ∀ {b : Addr} {m : Str -> Option Value}, s₁.heap.Ns b m -> (abw s₁.heap H).Ns b m := fun {b m} ⟨o, es, ep, e, d, r⟩ => ⟨o, es, ep, base_of e (noA e d), d, r⟩
  have hKb : K.In (abw s₁.heap H) := fun b o e => base_of (KX b o e) (by
   cases q : H b with
   | none => rfl
   | some u =>
    have e' : b = a := hA b (by rw [q]; simp)
    subst e'
    rw [hK (by rw [q]; simp)] at e; cases e)
  have hM : Mod K mg (abw s₁.heap H) := ⟨hKb, nsK hns, ⟨mb, nsK hb, hbb⟩, let ⟨mc, h1, h2⟩ := hlim; ⟨mc, nsK h1, h2⟩⟩
  have e0 : Env0 P w K mg (abw s₁.heap H) callerA [] s₁ H := ⟨rfl, hM, fun b o e => ah2 e, anz (afp _ _), trivial, fun b hb => absurd (show b ∈ ([] : List Addr) from hb) (by simp), hok, .of_eq hg⟩
  refine codeAny_mono ((F _ hKb (nsK hns)).run callerA [] s₁ H ⟨[.ref a], []⟩ [.ref a] [.ref a] _ _ hr e0 (hbind s₁ (.ref a)) (.cons rfl .nil) (hsp H hO hS)) fun r s' h => ?_
  cases r with
  | error e => exact (hCX H e s' h).elim
  | ok fl =>
   cases fl with
   | next => exact anj h
   | brk => exact anj h
   | cont => exact anj h
   | ret u =>
    obtain ⟨v, H', os, bare, un, hok', r', q⟩ := h
    have q' : v = .bl true := q
    subst q'
    obtain rfl : u = Value.bool true := r'
    refine ⟨rfl, OldK.of_keep fun b o e => ?_, os, bare⟩
    cases q : H b with
    | none => exact un.keep b o e q (by intro z; exact absurd (show b ∈ ([] : List Addr) from z) (by simp)) (by simp)
    | some u =>
     rcases hO b with z | ⟨ob, xs, z⟩
     ·rw [q] at z; cases z
     ·have z2 := un.frzs b ob _ z
      obtain ⟨e1, _⟩ := hok b _ z
      obtain ⟨e2, _⟩ := hok' b _ z2
      rw [e] at e1; cases e1
      exact e2
 cases hk : K.lookup a with
 | some o =>
  -- the script is one of the module's own objects
  have e := KX a o hk
  rw [ha] at e
  cases e
  refine core (fun _ => none) (fun _ => .inl rfl) (.inr ⟨_, vs.toArray, _, hk, rfl, rfl, rfl, by rw [alW, lenV]; exact hl, by simpa using rv⟩) (fun b u z => by have z' : (none : Option HO) = some u := z; cases z') (fun b z => absurd rfl z) fun z => absurd rfl z
 | none =>
  refine core (fun b => if b = a then some (.frz { cls := .type "list", data := .seq vs.toArray } (.lst (ns.map V.int))) else none) (fun b => ?_) (.inl (.inr ⟨{ cls := .type "list", data := .seq vs.toArray }, if_pos rfl⟩)) (fun b u z => ?_) (fun b z => ?_) fun _ => hk
  ·by_cases hb : b = a
   ·exact .inr ⟨_, _, if_pos hb⟩
   ·exact .inl (if_neg hb)
  ·by_cases hb : b = a
   ·have z' := (if_pos hb).symm.trans z
    cases z'
    subst hb
    exact ⟨ha, by rw [alD]; exact hl, vs, _, rv, ha⟩
   ·have z' := (if_neg hb).symm.trans z
    cases z'
  ·by_cases hb : b = a
   ·exact hb
   ·exact absurd (if_neg hb) z
end L2
namespace L2
open PySem PySem.Spec PyProof.Rows
abbrev KOf {K : alE} {h : Heap} (_ : K.In h) : alE := K
theorem walk_of {l : PySem.W.OpenLaw} {n k : Nat} {q : Program} {loose : List Str} {XP : (Str -> Option Value) -> Heap -> Prop} {YP : World -> Heap -> Prop} {d : DefRec} {K : Params -> alE} {CX : World -> CXT} {sp : World -> Sp} {x : Str}
  (hn : l.most = some n) (hn2 : n <= sizeLine) (hdf : d.params.defaults = []) (hr : Room k callerA)
  (hY : ∀ (w : World) (h : Heap), YP w h -> (K w.params).In h)
  (F : ∀ (w : World) (mg : Str -> Option Value) (fa : Addr) (h : Heap), (K w.params).In h -> h.Ns mainGlobals mg -> mg d.name = some (.ref fa) ->
   ∃ fd : FuncData, (∀ (s : Shared) (u : Value), BindsTo s fd ⟨[u], []⟩ [(x, u)]) /\
    ∀ base : Heap, (K w.params).In base -> base.Ns mainGlobals mg -> FnOk l.prog w (K w.params) mg base (CX w) k fa fd [x] (sp w))
  (hsp : ∀ (w : World) (H : Hp) (a : Addr) (ns : List Int), ns.length <= n -> aj4 H -> SqL (K w.params) H a (ns.map V.int) -> sp w [.ref a] H (fun v _ => v = .bl true) fun _ _ _ => False)
  (hCX : ∀ (w : World) (H : Hp) (s : Shared) (e : Value) (s' : Shared), CX w [] H s (fun _ _ _ => False) e s' -> False) :
  PySem.W.WalkO q loose XP YP l.row.toRowW d [] (fun f vs => PySem.call f vs) := by
 refine Att.attach_call hn hdf fun w s₀ s₁ mg mb fa o pm cd doc a vs ns G Y ho hd hcd hmg hobj hints hlen hg => ?_
 have KX := hY w _ Y
 obtain ⟨fd, hb, hF⟩ := F w mg fa _ KX G.T.g hmg
 exact agF KX G.T.g G.T.b G.T.builtins G.T.nolimit hg hobj hints (alZ hlen hn2) hr hF hb (fun H hO hS => hsp w H a ns hlen hO hS) fun H e s' => hCX w H s₁ e s'
end L2
/- THE LAST THEOREM (shape; LID, My.* are yours):
   My.Adr: a structure of the addresses that your layer names (classes, functions); My.Txt K t: a structure (Prop) of the equations over K;
   My.txt_mk : {K} {implicit addresses ..} (e1 : nsIn K mainGlobals "law" = some (some (.ref f))) (e2 : K.lookup f = some ⟨oc, od, .func (fnOf "law" "law" params body scope dV kV doc pm an cdv ct), sl⟩) (e3 : codeIn K cdv "law" = true) .. : ∃ t, My.Txt K t
set_option maxRecDepth 100000 in
set_option maxHeartbeats 0 in
theorem PySem.Challenge.cw_LID_holds : PySem.Challenge.rw_LID.Holds := by
 w_on; o_law; k_head; (case hw => w_witness2)
 k_fill
 refine L2.walk_of (l := PySem.Challenge.rw_LID) (n := 63) (k := 40) (x := "script") (CX := fun w => ..) (sp := fun _ => My.sp_law) rfl (by decide) rfl ⟨rfl, by decide, by decide⟩ (fun w h Y => PySem.W.kIn_of Y) ?F ?S ?C
 case F =>
  intro w mg fa h KX G hmg
  have T : ∃ t, My.Txt (L2.KOf KX) t := by
   dsimp only [L2.KOf]                          -- K must stand as «<heap const> w.params» for k_is
   refine' My.txt_mk ?e1 ?e2 ?e3 ..
   (case e1 => PySem.W.k_is)                    -- in the order: a name -> its address -> its object -> its parts
   (case e2 => PySem.W.k_is)
   ..
  obtain ⟨t, T⟩ := T
  have e0 := hmg.symm.trans (am0 KX G T.law)
  cases e0                                       -- fa is the law's own address
  exact ⟨_, fun s u => .of_eq rfl, fun base kb nb => My.law_fn T kb nb⟩     -- if «.of_eq rfl» comes too early: refine' ⟨_, ?b, fun base kb nb => My.law_fn T kb nb⟩; exact fun s u => .of_eq rfl
 case S => exact fun w H a ns hl hO hS => ..
 case C => exact ..
(the tactic k_is has no namespace: write k_is) -/
namespace L2
open PySem PySem.Spec PyProof.Rows
def jH (s : Stmt) : Arguments := match s with
 | .FunctionDef _ a _ _ _ _ _ _ _ _ => a
 | _ => { posonlyargs := [], args := [], vararg := none, kwonlyargs := [], kw_defaults := [], kwarg := none, defaults := [] }
def yG (s : Stmt) : List Stmt := match s with
 | .FunctionDef _ _ b _ _ _ _ _ _ _ => b
 | _ => []
def zk (s : Stmt) : Scope := match s with
 | .FunctionDef _ _ _ _ _ _ sc _ _ _ => sc
 | _ => { kind := .function, names := [], isGenerator := false, isCoroutine := false }
abbrev CX0 : CXT := fun _ _ _ _ _ _ => False
abbrev E0 : XK := fun _ _ _ => False
theorem ak1 {X : Cx} : Passes CX0 X E0 := fun _ _ _ _ _ _ _ h => h.elim
structure Fun (K : alE) (x qual : Str) (st : Stmt) (f : Addr) (fd : FuncData) : Prop where
 ex : ∃ (oc : Value) (od : Option Addr) (kV doc pm : Value) (an : Option Addr) (cdv ct : Value) (osl : Array (Option Value)),
  fd = am8 x qual (jH st) (yG st) (zk st) .none kV doc pm an cdv ct /\ K.lookup f = some ⟨oc, od, .func fd, osl⟩ /\ aox K cdv qual = true
 kp : amz K (.ref f) = true
section
variable {P : Program} {w : World} {K : alE} {mg : Str -> Option Value} {base : Heap}
theorem Fun.ok {x qual : Str} {st : Stmt} {f : Addr} {fd : FuncData} {N ps : List Str} {k : Nat} {sp : Sp} (F : Fun K x qual st f fd) (S : FnScope N ps (zk st)) (len : ∀ vs H Q E, sp vs H Q E -> vs.length = ps.length)
  (hbody : ∀ (cdv : Value) (A : Around) (outer : List Env) (s : Shared) (H : Hp) (vs : List V) (Q : VK) (E : XK), Room k (A.deeper (envOfC qual (zk st) s.heap.objs.size f cdv)) -> sp vs H Q E ->
   ∃ t, PSs (zW CX0 P w K mg base N qual (zk st) f cdv A outer s H E).nox (yG st) t /\ t { nx := fun _ H' => Q .non H', rt := Q } (start N vs) H) : FnOk P w K mg base CX0 (k + 1) f fd ps sp := by
 obtain ⟨oc, od, kV, doc, pm, an, cdv, ct, osl, rfl, lk, hcd⟩ := F.ex
 refine ak0 lk hcd S len fun A outer s H vs Q E hr hsp => ?_
 obtain ⟨t, h, q⟩ := hbody cdv A outer s H vs Q E hr hsp
 exact ⟨t, h.nox, q⟩
theorem Fun.binds {x qual : Str} {st : Stmt} {f : Addr} {fd : FuncData} {ps : List Str} (F : Fun K x qual st f fd)
  (h : ∀ (kV doc pm : Value) (an : Option Addr) (cdv ct : Value) (us : List Value), us.length = ps.length -> bindArgs (am8 x qual (jH st) (yG st) (zk st) .none kV doc pm an cdv ct) ⟨us, []⟩ = pure (ps.zip us)) : Binds K fd ps [] := by
 obtain ⟨oc, od, kV, doc, pm, an, cdv, ct, osl, rfl, lk, hcd⟩ := F.ex
 exact .all (h kV doc pm an cdv ct)
theorem adK {x qual : Str} {st : Stmt} {f : Addr} {oc : Value} {od an : Option Addr} {osl : Array (Option Value)} {kV doc pm cdv ct : Value} (l : K.lookup f = some ⟨oc, od, .func (am8 x qual (jH st) (yG st) (zk st) .none kV doc pm an cdv ct), osl⟩)
  (c : aox K cdv qual = true) (k : amz K (.ref f) = true) : Fun K x qual st f (am8 x qual (jH st) (yG st) (zk st) .none kV doc pm an cdv ct) := ⟨⟨oc, od, kV, doc, pm, an, cdv, ct, osl, rfl, l, c⟩, k⟩
end
theorem yl {n : Nat} (h : n <= 1000) : n < sizeLine := aoy h (by decide)
section
variable {X : Cx}
theorem pv (i : Nat) {x : Str} {pos : Pos} (hN : X.N[i]? = some x := by rfl) (hv : Vis X.env.scope x := by first | exact Or.inl rfl | exact Or.inr (Or.inl rfl) | exact Or.inr (Or.inr rfl)) (hd : (x == ("__debug__" : Str)) = false := by decide)
  (hcd : (x == ("__classdict__" : Str)) = false := by decide) : PE X (.Name x pos) (yg i) := ajM hN hv hd hcd
end
def Same (H H' : Hp) : Prop := ∀ b o, H b = some o -> H' b = some o
theorem Same.refl (H : Hp) : Same H H := fun _ _ h => h
theorem Same.trans {H H1 H2 : Hp} (a : Same H H1) (b : Same H1 H2) : Same H H2 := fun c o h => b c o (a c o h)
theorem Same.free {H H' : Hp} (e : Same H H') {l : Addr} (h : H' l = Option.none) : H l = Option.none := by
 cases q : H l with
 | none => rfl
 | some o =>
  rw [e l o q] at h
  cases h
theorem Same.seq {K : alE} {H H' : Hp} {a : Addr} {xs : List V} (e : Same H H') (h : SqL K H a xs) : SqL K H' a xs := by
 rcases h with (h | ⟨o, h⟩) | h
 ·exact .inl (.inl (e _ _ h))
 ·exact .inl (.inr ⟨o, e _ _ h⟩)
 ·exact .inr h
def zY (env : Env) : List (Str × NameKind) -> List (Str × Addr) -> List (Str × Addr)
 | [], acc => acc
 | (x, k) :: r, acc => if k == .free then zY env r ((x, (env.cells.lookup x).getD 0) :: acc) else zY env r acc
theorem adL {sc : Scope} {env : Env} (h : ∀ x, (x, NameKind.free) ∈ sc.names -> ∃ c, env.cells.lookup x = some c) : closureFor sc env = pure (zY env sc.names []) := by
 have key : ∀ (names : List (Str × NameKind)) (acc : List (Str × Addr)), (∀ x, (x, NameKind.free) ∈ names -> ∃ c, env.cells.lookup x = some c) ->
   (forIn names acc fun (x : Str × NameKind) (cs : List (Str × Addr)) => if (x.2 == NameKind.free) = true then (do let c <- cellOf env x.1; pure (ForInStep.yield ((x.1, c) :: cs))) else pure (ForInStep.yield cs)) = (pure (zY env names acc) : Sem (List (Str × Addr))) := by
  intro names
  induction names with
  | nil => intro acc _; rfl
  | cons p r ih =>
   intro acc hh
   obtain ⟨x, k⟩ := p
   rw [anM]
   unfold zY
   by_cases hk : (k == NameKind.free) = true
   ·have hk' : k = .free := by simpa using hk
    subst hk'
    obtain ⟨c, hc⟩ := hh x alL
    simp only [beq_self_eq_true, if_true]
    rw [<- ih _ fun y hy => hh y (alH _ hy)]
    have : cellOf env x = pure c := by unfold cellOf; rw [hc]
    rw [this, hc]
    rfl
   ·simp only [hk, ami, if_false]
    rw [<- ih _ fun y hy => hh y (alH _ hy)]
    rfl
 simp only [closureFor]
 have q := key sc.names [] h
 refine Eq.trans ?_ (Eq.trans (congrArg (fun z => z >>= fun r => pure r) q) ?_)
 ·rfl
 ·rfl
theorem jI {env : Env} : ∀ {names : List (Str × NameKind)} {acc : List (Str × Addr)} {p : Str × Addr}, p ∈ zY env names acc -> p ∈ acc \/ ((p.1, NameKind.free) ∈ names /\ p.2 = (env.cells.lookup p.1).getD 0)
 | [], acc, p, h => .inl h
 | (x, k) :: r, acc, p, h => by
  unfold zY at h
  split at h
  ·rename_i hk
   have hk' : k = .free := by simpa using hk
   subst hk'
   rcases jI h with q | ⟨q, e⟩
   ·rcases alO.mp q with q | q
    ·subst q; exact .inr ⟨alL, rfl⟩
    ·exact .inl q
   ·exact .inr ⟨alH _ q, e⟩
  ·rcases jI h with q | ⟨q, e⟩
   ·exact .inl q
   ·exact .inr ⟨alH _ q, e⟩
theorem jT {α : Type} : ∀ {l : List (Str × α)} {x : Str} {v : α}, (x, v) ∈ l -> ∃ u, l.lookup x = some u
 | (y, u) :: r, x, v, h => by
  rw [amr]
  cases hb : x == y with
  | true => exact ⟨u, rfl⟩
  | false =>
   rcases alO.mp h with e | h
   ·have : x = y := congrArg Prod.fst e
    subst this
    simp at hb
   ·exact jT h
theorem qJ {env : Env} : ∀ {names : List (Str × NameKind)} {acc : List (Str × Addr)} {x : Str}, (x, NameKind.free) ∈ names -> (x, (env.cells.lookup x).getD 0) ∈ zY env names acc
 | (y, k) :: r, acc, x, h => by
  have mono : ∀ (names : List (Str × NameKind)) (acc : List (Str × Addr)) (p : Str × Addr), p ∈ acc -> p ∈ zY env names acc := by
   intro names
   induction names with
   | nil => intro acc p hp; exact hp
   | cons q r ih =>
    intro acc p hp
    obtain ⟨a, b⟩ := q
    unfold zY
    split
    ·exact ih _ _ (alH _ hp)
    ·exact ih _ _ hp
  unfold zY
  rcases alO.mp h with e | h
  ·cases e
   simp only [beq_self_eq_true, if_true]
   exact mono _ _ _ alL
  ·split
   ·exact qJ h
   ·exact qJ h
theorem qz {env : Env} {names : List (Str × NameKind)} {x : Str} {c : Addr} (h : ∀ x, (x, NameKind.free) ∈ names -> ∃ c, env.cells.lookup x = some c) (e : (zY env names []).lookup x = some c) : env.cells.lookup x = some c /\ (x, NameKind.free) ∈ names := by
 rcases jI (mem_of_lookup e) with q | ⟨q, e'⟩
 ·cases q
 ·obtain ⟨c', hc⟩ := h _ q
  dsimp only at hc e'
  rw [hc] at e'
  exact ⟨by rw [hc]; exact congrArg some e'.symm, q⟩
theorem vL {env : Env} {names : List (Str × NameKind)} {x : Str} {c : Addr} (h : ∀ x, (x, NameKind.free) ∈ names -> ∃ c, env.cells.lookup x = some c) (hx : (x, NameKind.free) ∈ names) (e : env.cells.lookup x = some c) : (zY env names []).lookup x = some c := by
 obtain ⟨u, hu⟩ := jT (qJ (env := env) (acc := []) hx)
 have := (qz h hu).1
 rw [this] at e
 rw [hu, e]
theorem yK : ∀ {names : List (Str × NameKind)} {n : Nat} {acc : List (Str × Addr)} {x : Str} {c : Addr}, (cellsFrom n names acc).lookup x = some c -> (n <= c /\ c < n + names.length /\ (x, NameKind.cell) ∈ names) \/ (acc.lookup x = some c /\ (x, NameKind.cell) ∉ names)
 | [], n, acc, x, c, h => .inr ⟨h, by simp⟩
 | (y, k) :: r, n, acc, x, c, h => by
  unfold cellsFrom at h
  split at h
  ·rename_i hk
   have hk' : k = .cell := by simpa using hk
   subst hk'
   rcases yK h with ⟨q1, q2, q3⟩ | ⟨q1, q2⟩
   ·exact .inl ⟨anR q1, al0 q2 (by rw [alV]; omega), alH _ q3⟩
   ·rw [amr] at q1
    cases hb : x == y with
    | true =>
     rw [hb] at q1
     cases q1
     have : x = y := by simpa using hb
     subst this
     exact .inl ⟨alI _, by rw [alV]; exact Nat.lt_add_of_pos_right (aot _), alL⟩
    | false =>
     rw [hb] at q1
     refine .inr ⟨q1, fun z => ?_⟩
     rcases alO.mp z with e | z
     ·have : x = y := congrArg Prod.fst e
      subst this
      simp at hb
     ·exact q2 z
  ·rename_i hk
   rcases yK h with ⟨q1, q2, q3⟩ | ⟨q1, q2⟩
   ·exact .inl ⟨q1, al0 q2 (by rw [alV]; omega), alH _ q3⟩
   ·refine .inr ⟨q1, fun z => ?_⟩
    rcases alO.mp z with e | z
    ·have : k = .cell := (congrArg Prod.snd e).symm
     subst this
     simp at hk
    ·exact q2 z
theorem yS : ∀ (names : List (Str × NameKind)) (n : Nat) (acc : List (Str × Addr)), (acc.Pairwise fun x y => x.2 ≠ y.2) -> (∀ p ∈ acc, p.2 < n) -> (cellsFrom n names acc).Pairwise fun x y => x.2 ≠ y.2
 | [], n, acc, h, _ => h
 | (y, k) :: r, n, acc, h, hl => by
  unfold cellsFrom
  split
  ·refine yS r (n + 1) _ (anN.mpr ⟨fun p hp => ?_, h⟩) fun p hp => ?_
   ·exact anw (hl p hp)
   ·rcases alO.mp hp with e | hp
    ·subst e; exact aoW _
    ·exact amQ (hl p hp)
  ·exact yS r n acc h hl
theorem aaQ {names : List (Str × NameKind)} {n : Nat} {acc : List (Str × Addr)} {x : Str} (h : names.lookup x = some .cell) : ∃ c, (cellsFrom n names acc).lookup x = some c :=
 anH.mp (ank names n acc (.inl h))
theorem qA {names : List (Str × NameKind)} {n : Nat} {acc : List (Str × Addr)} {x : Str} (h : (acc.lookup x).isSome = true) : ∃ c, (cellsFrom n names acc).lookup x = some c :=
 anH.mp (ank names n acc (.inr h))
theorem jw : ∀ (names : List (Str × NameKind)) (h : Heap) (acc : List (Str × Addr)) (x : Str) (c : Addr), (cellsFrom h.objs.size names acc).lookup x = some c -> h.objs.size <= c -> (∀ p ∈ acc, p.2 < h.objs.size) -> (pushCells h names).IsCell c none
 | [], h, acc, x, c, e, hc, hl => absurd (hl _ (mem_of_lookup e)) (Nat.not_lt.mpr hc)
 | (y, k) :: r, h, acc, x, c, e, hc, hl => by
  unfold cellsFrom at e
  unfold pushCells
  split at e
  ·rename_i hk
   rw [if_pos hk]
   by_cases hcc : c = h.objs.size
   ·subst hcc
    exact ⟨_, pushCells_keeps _ _ _ _ (amj _ rfl), rfl⟩
   ·have es : (h.push { cls := .type "cell", data := .cell none }).objs.size = h.objs.size + 1 := aoz ..
    refine jw r _ ((y, h.objs.size) :: acc) x c (by rw [es]; exact e) (by rw [es]; exact Nat.lt_of_le_of_ne hc (amN hcc)) fun p hp => ?_
    rw [es]
    rcases alO.mp hp with e | hp
    ·subst e; exact aoW _
    ·exact amQ (hl p hp)
  ·rename_i hk
   rw [if_neg hk]
   exact jw r h acc x c e hc hl
def zi (X : Cx) (sc : Scope) (N : List Str) (s₀ : Shared) (H₀ : Hp) (ex : List Addr) (pn : List (Addr × Obj)) : Cx :=
 { X with N := N, s₀ := s₀, H₀ := H₀, env := compEnvC sc (cellsFrom (s₀.heap.objs.size + 1) sc.names (zY X.env sc.names [])) s₀.heap.objs.size X.env,
          outer := X.stack, ex := ex, fn := fun x => decide (sc.names.lookup x = some .cell), pn := pn, xe := fun _ _ => False }
structure CompScope (NO : List Str) (scO : Scope) (N : List Str) (sc : Scope) (own : Nat) (fr : List Nat) : Prop where
 kind : sc.kind = .function
 nd : N.Nodup
 snd : (sc.names.map (·.1)).Nodup
 free : ∀ p ∈ sc.names, p.2 = .free -> scO.names.lookup p.1 = some .cell \/ scO.names.lookup p.1 = some .free
 frn : ∀ p ∈ (N.drop own).zip fr, NO[p.2]? = some p.1 /\ sc.names.lookup p.1 = some .free
 len : N.length = own + fr.length
def yT (own : Nat) (fr : List Nat) (σ : St) : St := anf own none ++ fr.map fun j => (σ[j]?).getD none
theorem z5 {α : Type} : ∀ {l : List (Str × α)} {x : Str} {k : α}, (l.map (·.1)).Nodup -> (x, k) ∈ l -> l.lookup x = some k
 | (y, u) :: r, x, k, nd, h => by
  rw [al3] at nd
  obtain ⟨h1, h2⟩ := amF.mp nd
  rw [amr]
  rcases alO.mp h with e | h'
  ·cases e; simp
  ·have : x ≠ y := by
    intro e
    subst e
    exact h1 (al1.mpr ⟨(x, k), h', rfl⟩)
   rw [beq_eq_false_iff_ne.mpr this]
   exact z5 h2 h'
theorem y9 {env : Env} : ∀ {names : List (Str × NameKind)} {x : Str} {k : NameKind}, names.lookup x = some k ->
  (names.map fun (n, k) => if (k == NameKind.free && env.scope.kind == .function && env.kindOf n == some .cell) then (n, NameKind.cell) else (n, k)).lookup x = some (if (k == NameKind.free && env.scope.kind == .function && env.kindOf x == some .cell) then .cell else k)
 | (n, k') :: r, x, k, h => by
  have ih := @y9 env r x k
  show List.lookup x ((if (k' == NameKind.free && env.scope.kind == .function && env.kindOf n == some .cell) = true then (n, NameKind.cell) else (n, k')) :: _) = _
  cases hx : x == n with
  | true =>
   have : x = n := by simpa using hx
   subst this
   simp only [amr, hx] at h
   cases h
   split <;> simp [amr]
  | false =>
   simp only [amr, hx] at h
   split
   ·simp only [amr, hx]; exact ih h
   ·simp only [amr, hx]; exact ih h
theorem yU {env : Env} : ∀ {names : List (Str × NameKind)} {x : Str}, names.lookup x = none ->
  (names.map fun (n, k) => if (k == NameKind.free && env.scope.kind == .function && env.kindOf n == some .cell) then (n, NameKind.cell) else (n, k)).lookup x = none
 | [], _, _ => rfl
 | (n, k') :: r, x, h => by
  have ih := @yU env r x
  show List.lookup x ((if (k' == NameKind.free && env.scope.kind == .function && env.kindOf n == some .cell) = true then (n, NameKind.cell) else (n, k')) :: _) = _
  cases hx : x == n with
  | true => simp only [amr, hx] at h; cases h
  | false =>
   simp only [amr, hx] at h
   split
   ·simp only [amr, hx]; exact ih h
   ·simp only [amr, hx]; exact ih h
section
variable {X : Cx} {pins : List (Addr × Obj)} {σ : St} {H : Hp} {s : Shared} {NO N : List Str} {scO sc : Scope} {own : Nat} {fr : List Nat} {fp : List Addr}
theorem agG {tk : Nat} (S : CompScope NO scO N sc own fr) (hN : X.N = NO) (hsc : X.env.scope = scO) (I : Inv X pins σ H s) (hf : ∀ b ∈ fp, qQ X pins H b) (ho : ∀ b ∈ fp, ∃ o, s.heap.get? b = some o /\ ∀ v, o.data ≠ .cell v) :
  Inv (zi X sc N s H fp (X.pn ++ pins)) [] (yT own fr σ) H { s with heap := pushCells (s.heap.push { cls := .type "dict", data := .dict #[] }) sc.names, toks := tk } := by
 have hfree : ∀ x, (x, NameKind.free) ∈ sc.names -> ∃ c, X.env.cells.lookup x = some c := fun x hx => I.ok.has x (by
  show X.env.scope.names.lookup x = _ \/ X.env.scope.names.lookup x = _
  rw [hsc]
  exact S.free _ hx rfl)
 have hclt : ∀ p ∈ zY X.env sc.names [], p.2 < s.heap.objs.size := fun p hp => by
  rcases jI hp with q | ⟨q, e⟩
  ·cases q
  ·obtain ⟨c, hc⟩ := hfree _ q
   rw [e, hc]
   obtain ⟨v, o, ho, _⟩ := I.cell _ c hc
   exact alT ho
 have hsz : (s.heap.push { cls := .type "dict", data := .dict #[] }).objs.size = s.heap.objs.size + 1 := aoz ..
 have hk : ∀ b o, s.heap.get? b = some o -> (pushCells (s.heap.push { cls := .type "dict", data := .dict #[] }) sc.names).get? b = some o := fun b o e => pushCells_keeps _ _ _ _ (alQ _ e)
 have hcase : ∀ {x : Str} {c : Addr}, (cellsFrom (s.heap.objs.size + 1) sc.names (zY X.env sc.names [])).lookup x = some c -> (s.heap.objs.size + 1 <= c /\ (x, NameKind.cell) ∈ sc.names) \/ (X.env.cells.lookup x = some c /\ (x, NameKind.free) ∈ sc.names) := fun {x c} e => by
  rcases yK e with ⟨q1, _, q3⟩ | ⟨q1, _⟩
  ·exact .inl ⟨q1, q3⟩
  ·exact .inr (qz hfree q1)
 have clap : (zY X.env sc.names []).Pairwise fun x y => x.2 ≠ y.2 := by
  have key : ∀ (names : List (Str × NameKind)) (acc : List (Str × Addr)), (∀ p ∈ acc, X.env.cells.lookup p.1 = some p.2) -> (∀ x, (x, NameKind.free) ∈ names -> ∃ c, X.env.cells.lookup x = some c) -> (acc.Pairwise fun x y => x.2 ≠ y.2) -> (∀ p ∈ acc, (p.1, NameKind.free) ∉ names) -> (names.map (·.1)).Nodup ->
    (zY X.env names acc).Pairwise fun x y => x.2 ≠ y.2 := by
   intro names
   induction names with
   | nil => intro acc _ _ h _ _; exact h
   | cons p r ih =>
    intro acc h1 h2 h3 h4 h5
    obtain ⟨y, k⟩ := p
    rw [al3] at h5
    obtain ⟨n1, n2⟩ := amF.mp h5
    unfold zY
    split
    ·rename_i hk
     have hk' : k = .free := by simpa using hk
     subst hk'
     obtain ⟨c, hc⟩ := h2 y alL
     rw [hc]
     refine ih _ (fun p hp => ?_) (fun x hx => h2 x (alH _ hx)) (anN.mpr ⟨fun p hp => ?_, h3⟩) (fun p hp => ?_) n2
     ·rcases alO.mp hp with e | hp
      ·subst e; exact hc
      ·exact h1 p hp
     ·intro e
      have e' : p.2 = c := e.symm
      have := I.ok.inj _ _ _ hc (e' ▸ h1 p hp)
      exact h4 p hp (this ▸ alL)
     ·rcases alO.mp hp with e | hp
      ·subst e
       intro z
       exact n1 (al1.mpr ⟨_, z, rfl⟩)
      ·intro z; exact h4 p hp (alH _ z)
    ·exact ih acc h1 (fun x hx => h2 x (alH _ hx)) h3 (fun p hp z => h4 p hp (alH _ z)) n2
  exact key sc.names [] (fun p hp => by cases hp) hfree List.Pairwise.nil (fun p hp => by cases hp) S.snd
 have apart := yS sc.names (s.heap.objs.size + 1) _ clap fun p hp => amQ (hclt p hp)
 have hkd : ∀ x, (zi X sc N s H fp (X.pn ++ pins)).env.kindOf x = some .cell \/ (zi X sc N s H fp (X.pn ++ pins)).env.kindOf x = some .free -> (x, NameKind.cell) ∈ sc.names \/ (x, NameKind.free) ∈ sc.names := fun x hx => by
  cases q : sc.names.lookup x with
  | none =>
   have e : (zi X sc N s H fp (X.pn ++ pins)).env.kindOf x = none := yU q
   rw [e] at hx
   rcases hx with z | z <;> cases z
  | some k =>
   have e : (zi X sc N s H fp (X.pn ++ pins)).env.kindOf x = some _ := y9 (env := X.env) q
   rw [e] at hx
   have hm := mem_of_lookup q
   cases k <;> first | exact .inl hm | exact .inr hm | (rcases hx with z | z <;> cases z)
 have cellAt : ∀ x c, (cellsFrom (s.heap.objs.size + 1) sc.names (zY X.env sc.names [])).lookup x = some c -> ∃ v, (pushCells (s.heap.push { cls := .type "dict", data := .dict #[] }) sc.names).IsCell c v := fun x c e => by
  rcases hcase e with ⟨q, _⟩ | ⟨q, _⟩
  ·exact ⟨none, jw _ _ _ x c (by rw [hsz]; exact e) (by rw [hsz]; exact q) fun p hp => by rw [hsz]; exact amQ (hclt p hp)⟩
  ·obtain ⟨v, o, ho, hd⟩ := I.cell x c q
   exact ⟨v, o, hk _ _ ho, hd⟩
 have lt_of_cell : ∀ x c, X.env.cells.lookup x = some c -> c < s.heap.objs.size := fun x c e => by
  obtain ⟨v, o, ho, hd⟩ := I.cell x c e
  exact alT ho
 have lt_of_fp : ∀ b ∈ fp, b < s.heap.objs.size := fun b hb => by
  obtain ⟨o, e, _⟩ := ho b hb
  exact alT e
 have okX : (zi X sc N s H fp (X.pn ++ pins)).Ok := by
  refine ⟨I.mod, S.kind, I.ok.glob, I.ok.blt, alI _, fun x y c h1 h2 => name_of_addr apart (mem_of_lookup h1) (mem_of_lookup h2), fun x hx => ?_, fun x c hx hc => ?_, I.ok.hd, I.ok.frames, .inl rfl, fun b hb => ⟨amd (lt_of_fp b hb), fun x c e => ?_⟩, I.bs, alZ I.ok.bsz I.sz, fun b o e hb => ?_, fun b hb z => ?_, I.stack, I.stkFree⟩
  ·rcases hkd x hx with q | q
   ·exact aaQ (z5 S.snd q)
   ·obtain ⟨c, hc⟩ := hfree x q
    exact qA (by rw [vL hfree q hc]; rfl)
  ·have hx' : sc.names.lookup x = some .cell := of_decide_eq_true hx
   rcases hcase hc with ⟨q, _⟩ | ⟨_, q⟩
   ·exact anR q
   ·rw [z5 S.snd q] at hx'; cases hx'
  ·rcases hcase e with ⟨q, _⟩ | ⟨q, _⟩
   ·exact anw (al0 (lt_of_fp b hb) (anR q))
   ·exact (hf b hb).2.2.2.2.1 x c q
  ·rcases (hf b hb).2.2.2.1 with z | z
   ·exact I.ok.noex b o e z
   ·exact absurd (alT e) (Nat.not_lt.mpr (alZ I.ok.bsz z))
  ·rcases alO.mp (I.stkSub b z) with q | q
   ·exact (hf b hb).2.1 q
   ·exact (hf b hb).2.2.1 q
 refine ⟨okX, rfl, I.bare, Un.kept hk, ⟨fun _ => none, (Heap.Ns.new s.heap (.type "dict")).keeps (pushCells_keeps _ _), fun i x v h1 h2 h3 => ?_⟩, cellAt, I.hok.fresh (alI _), fun x c e => ?_, fun p hp => ?_, I.hok.kept hk, ?_⟩
 ·obtain ⟨m, _, hl⟩ := id I.loc
  have h2' : (yT own fr σ)[i]? = some (some v) := h2
  have hio : own <= i := by
   unfold yT at h2'
   refine Nat.le_of_not_lt fun hi => ?_
   rw [alP (by simpa using hi), ang] at h2'
   split at h2' <;> cases h2'
  obtain ⟨k, rfl⟩ := Nat.exists_eq_add_of_le hio
  have h1' : N[own + k]? = some x := h1
  unfold yT at h2'
  rw [alU (by simp)] at h2'
  simp only [aod, Nat.add_sub_cancel_left, alJ] at h2'
  cases hj : fr[k]? with
  | none => rw [hj] at h2'; cases h2'
  | some j =>
   rw [hj] at h2'
   have h2'' : (σ[j]?).getD none = some v := Option.some.inj h2'
   have hp : (x, j) ∈ (N.drop own).zip fr := by
    refine alN (i := k) ?_
    rw [List.getElem?_zip_eq_some]
    exact ⟨by rw [List.getElem?_drop]; exact h1', hj⟩
   obtain ⟨f1, f2⟩ := S.frn _ hp
   have hσ : σ[j]? = some (some v) := by
    cases q : σ[j]? with
    | none => rw [q] at h2''; cases h2''
    | some w => rw [q] at h2''; exact congrArg some h2''
   have hxf : (x, NameKind.free) ∈ sc.names := mem_of_lookup f2
   have hko := S.free _ hxf rfl
   have hvis : Vis X.env.scope x := by rw [hsc]; exact .inr hko
   obtain ⟨u, ru, q⟩ := hl j x v (by rw [hN]; exact f1) hσ hvis
   refine ⟨u, ru, .inr ⟨?_, ?_⟩⟩
   ·have e : (zi X sc N s H fp (X.pn ++ pins)).env.kindOf x = some _ := y9 (env := X.env) f2
    rw [e]
    split
    ·exact .inl rfl
    ·exact .inr rfl
   ·rcases q with ⟨k1, _⟩ | ⟨_, c, hc, z⟩
    ·have k1' : X.env.scope.names.lookup x = some .local := k1
     rw [hsc] at k1'
     rcases hko with z | z <;> rw [z] at k1' <;> cases k1'
    ·obtain ⟨o, ho, hd⟩ := z
     refine ⟨c, ?_, o, hk _ _ ho, hd⟩
     have hcl := vL hfree hxf hc
     obtain ⟨c', hc'⟩ := qA (names := sc.names) (n := s.heap.objs.size + 1) (acc := zY X.env sc.names []) (x := x) (by rw [hcl]; rfl)
     rcases hcase hc' with ⟨_, z⟩ | ⟨z, _⟩
     ·have := z5 S.snd z
      rw [f2] at this; cases this
     ·rw [hc] at z; cases z; exact hc'
 ·rcases hcase e with ⟨q, _⟩ | ⟨q, _⟩
  ·exact I.hok.fresh (anR q)
  ·exact I.freeC x c q
 ·have hp' : p ∈ X.pn ++ pins := by simpa [zi] using hp
  obtain ⟨e, n, ne, nf, d⟩ := I.pin p hp'
  refine ⟨hk _ _ e, n, amd (alT e), fun z => ?_, d⟩
  rcases alO.mp (I.stkSub _ z) with q | q
  ·exact ne q
  ·exact nf q
 ·show (yT own fr σ).length = N.length
  unfold yT
  rw [S.len]
  simp
end
abbrev TB := St -> Hp -> (St -> Hp -> Prop) -> Prop
def PB (X : Cx) (act : Sem Unit) (t : TB) : Prop :=
 ∀ (pins : List (Addr × Obj)) (s : Shared) (σ : St) (H : Hp) (Q : St -> Hp -> Prop), Inv X pins σ H s -> t σ H Q -> wpAny (model X.prog X.w) X.A act (fun _ s' => ∃ σ' H', Inv X pins σ' H' s' /\ Q σ' H') X.xe s
def PTs (X : Cx) (ifs : List Expr) (t : TT) : Prop :=
 ∀ (pins : List (Addr × Obj)) (s : Shared) (σ : St) (H : Hp) (Q : Bool -> Hp -> Prop), Inv X pins σ H s -> t σ H Q ->
  wpAny (model X.prog X.w) X.A (forIn ifs true fun c r => if r = true then do let ok <- isTrue c X.env (eval c X.env); pure (ForInStep.yield ok) else pure (ForInStep.yield r)) (TP X pins σ Q) X.xe s
def aih : TT := fun _ H Q => Q true H
theorem yh {X : Cx} : PTs X [] aih := fun pins s σ H Q I h => wpAny_tests_nil ⟨H, I, h⟩
theorem vZ {X : Cx} {c : Expr} {t : TT} (hc : PT X c t) : PTs X [c] t := fun pins s σ H Q I h => wpAny_tests_one (hc pins s σ H Q I h)
def acx (J : It) (g : TG) (tt : TT) (tb : TB) : TB := fun σ H Q => ∃ W : Nat -> Nat -> St -> Hp -> Prop, (∃ m, W 0 m σ H) /\ ∀ i m σ H, W i m σ H ->
 (J.stop i H /\ Q σ H) \/ (J.go i H /\ ∀ x H', J.yld i H x H' -> g x σ H' fun σ2 H2 => tt σ2 H2 fun b H3 => if b = true then tb σ2 H3 fun σ' H' => ∃ m', m' < m /\ W (i + 1) m' σ' H' else ∃ m', m' < m /\ W (i + 1) m' σ2 H3)
section
variable {X : Cx} {pins : List (Addr × Obj)} {s : Shared} {σ : St} {H : Hp} {tg : Expr} {e : Expr} {d : Nat} {acc : Value} {ifs : List Expr} {g : TG} {tt : TT} {tb : TB} {act : Sem Unit} {pos : Pos}
theorem acy (hx : ∀ e s, X.xe e s -> False) (hc : X.calm = true) (hg : PG X tg g) (ht : PTs X ifs tt) (hb : PB X act tb)
  (heq : ∀ it, compTurn e d it acc X.env = (do
   standAt pos
   match <- pyNext it with
   | none => pure (.done .next)
   | some v =>
    letOwnedTupleGo tg it v
    assign tg X.env v
    let mut ok := true
    for c in ifs do
     if ok then ok <- isTrue c X.env (eval c X.env)
    if ok then
     act
    again (.compLoop e d it acc X.env)))
  (hqt : ∀ it, (Code.compLoop e d it acc X.env).quiet = true)
  (hden : ∀ it, (model X.prog X.w).den (.compLoop e d it acc X.env) = (compTurn e d it acc X.env).onRaise (fun x => do noteFrame x X.env; theTreesLotGoes x))
  (hund : ∀ it, X.A.under (.compLoop e d it acc X.env) = X.A)
  {it : Addr} {fp : List Addr} {tn : Nat -> Heap -> Prop} {J : It} {Q : St -> Hp -> Prop} {R : Result -> Shared -> Prop} (I : Inv X pins σ H s) (T : Turn X.prog X.w X.K tg J fp it tn) (st : tn 0 s.heap) (f : ∀ b ∈ fp, qQ X pins H b)
  (h : acx J g tt tb σ H Q) (hR : ∀ σ' H' s', Inv X pins σ' H' s' -> (∀ b ∈ fp, H' b = none) -> Q σ' H' -> R (.ok .next) s') : codeAny (model X.prog X.w) X.A (.compLoop e d (.ref it) acc X.env) R s := by
 obtain ⟨W, ⟨m0, w0⟩, turn⟩ := h
 have stat : ∀ {H' : Hp}, (∀ b ∈ fp, H' b = none) -> ∀ b ∈ fp, qQ X pins H' b := fun hn b hb => ⟨hn b hb, (f b hb).2⟩
 refine codeAny_loop (hqt _) (fun n s' => ∃ i σ' H', Inv X pins σ' H' s' /\ tn i s'.heap /\ (∀ b ∈ fp, H' b = none) /\ W i n σ' H') ?_ m0 ⟨0, σ, H, I, st, fun b hb => (f b hb).1, w0⟩
 rintro n s3 ⟨i, σ3, H3, I3, st3, fr3, w3⟩
 rw [hden, hund]
 refine wpAny_noted ?_
 rw [heq]
 have nox : ∀ e' s', X.xe e' s' -> notedBy (model X.prog X.w) X.A X.env (fun e s' => R (.error e) s') e' s' := fun e' s' z => (hx e' s' z).elim
 refine wpAny_bind (wpAny_standAt (wpAny_bind ?_))
 rcases turn i n σ3 H3 w3 with ⟨stop, qn⟩ | ⟨go, step⟩
 ·refine wpAny_mono (T.done X rfl rfl rfl hc i pins s3 σ3 H3 X.xe I3 (stat fr3) st3 stop) (fun r s4 hr4 => ?_) nox
  obtain ⟨hr, I4⟩ := hr4
  subst hr
  exact wpAny_pure (hR σ3 H3 s4 I4 fr3 qn)
 ·refine wpAny_mono (T.item X rfl rfl rfl hc i pins s3 σ3 H3 X.xe I3 (stat fr3) st3 go) (fun r s4 hr4 => ?_) nox
  obtain ⟨u, hr, h4⟩ := hr4
  subst hr
  refine wpAny_bind (wpAny_mono h4 (fun _ s5 h5 => ?_) nox)
  obtain ⟨x, H5, I5, r5, y5, st5, fr5⟩ := h5
  have I5' := I5.pinned (stat fr5) (T.obj _ _ st5)
  refine wpAny_bind (wpAny_mono (hg _ s5 σ3 H5 x u _ I5' r5 (step x H5 y5)) (fun _ s6 h6 => ?_) nox)
  obtain ⟨σ6, H6, I6, q6⟩ := h6
  refine wpAny_bind (wpAny_mono (ht _ s6 σ6 H6 _ I6 q6) (fun ok s7 h7 => ?_) nox)
  obtain ⟨H7, I7, q7⟩ := h7
  have again : ∀ {σ7 : St} {H7 : Hp} {s7 : Shared}, Inv X (pins ++ aai fp s5.heap) σ7 H7 s7 -> (∃ m', m' < n /\ W (i + 1) m' σ7 H7) -> ∃ m, m < n /\ ∃ i σ' H', Inv X pins σ' H' s7 /\ tn i s7.heap /\ (∀ b ∈ fp, H' b = none) /\ W i m σ' H' := fun {σ7 H7 s7} I7 n7 => by
   obtain ⟨m', hm, w7⟩ := n7
   refine ⟨m', hm, i + 1, σ7, H7, I7.unpinned, T.keep _ _ _ st5 fun b hb o e => (I7.pin (b, o) (alX _ (alX _ (jG hb e)))).1, fun b hb => ?_, w7⟩
   obtain ⟨o, e, d⟩ := T.obj _ _ st5 b hb
   exact (I7.pin (b, o) (alX _ (alX _ (jG hb e)))).2.1
  cases ok with
  | false =>
   rw [if_neg alC] at q7
   exact wpAny_pure ⟨rfl, again I7 q7⟩
  | true =>
   rw [if_pos rfl] at q7
   refine wpAny_bind (wpAny_mono (hb _ s7 σ6 H7 _ I7 q7) (fun _ s8 h8 => ?_) nox)
   obtain ⟨σ8, H8, I8, q8⟩ := h8
   exact wpAny_pure ⟨rfl, again I8 q8⟩
theorem abH {D : Addr} {elt : Expr} {te : TE} (he : PE X elt te) : PB X (do let _ <- call (.builtin "list.append") [.ref D, <- eval elt X.env]) (fun σ H Q => te σ H fun y H1 => ∃ xs, H1 D = some (.lst xs) /\ xs.length < sizeLine /\ Q σ (upd H1 D (.lst (xs ++ [y])))) := by
 intro pins s σ H Q I h
 refine wpAny_bind (thn (he pins s σ H _ I h) fun v s1 h1 => ?_)
 obtain ⟨y, H1, I1, r1, xs, hD, hz, q⟩ := h1
 obtain ⟨z, its, n, r, hl, e⟩ := I1.lstM hD
 refine wpAny_bind ?_
 refine call_meets F.slot_list_append ⟨_, e, rfl⟩ apr (apg _ _) (PySem.list_append D its.toArray n v (by rw [alW]; omega)) ⟨e, ?_⟩
 refine wpAny_pure ⟨σ, _, I1.lset (its' := its ++ [v]) hD e (by simp) (r.append (.cons r1 .nil)) ?_, q⟩
 rw [alR, amn]
 omega
theorem acz {M : Model} {A : Around} {E : Value -> Shared -> Prop} {sc : Scope} {gl : Addr} {cl : List (Str × Addr)} {qual : Str} {env : Env} {Q : Env -> Shared -> Prop} {s : Shared}
  (h : Q { scope := sc, locals := s.heap.objs.size, globals := gl, cells := cellsFrom (s.heap.objs.size + 1) sc.names cl, qual := qual, func := none, code := env.code, frame := env.frame, builtins := env.builtins } { s with heap := pushCells (s.heap.push { cls := .type "dict", data := .dict #[] }) sc.names }) :
  wpAny M A (newFunctionEnv sc gl cl [] qual none .none (some env)) Q E s := by
 simp only [newFunctionEnv, Option.isSome_some, if_true]
 refine wpAny_bind (wpAny_alloc ?_)
 refine wpAny_bind (wpAny_layCells _ (fun name kind cells => by cases hkc : kind == NameKind.cell <;> simp [hkc]) _ _ _ _ ?_)
 rw [show ({ s with heap := s.heap.push { cls := .type "dict", data := .dict #[] } } : Shared).heap.objs.size = s.heap.objs.size + 1 from aoz ..]
 refine wpAny_bind ?_
 rw [anS]
 exact wpAny_pure (wpAny_pure h)
theorem comp_back {sc : Scope} {N : List Str} {fp : List Addr} {σ' : St} {H' : Hp} {s' : Shared} {h' : Heap} (I : Inv X pins σ H s) (hf : ∀ b ∈ fp, qQ X pins H b) (J : Inv (zi X sc N s H fp (X.pn ++ pins)) [] σ' H' s') (hs : ani s.heap.objs.size s'.heap h') :
  Inv X pins σ H' { s' with heap := h' } := by
 have u : Un (frs X.stack) fp H H' s.heap s'.heap := J.base
 have ne : ∀ b o, s.heap.get? b = some o -> b ≠ s.heap.objs.size := fun b o e => amd (alT e)
 have hfree : H' s.heap.objs.size = none := J.free
 refine I.call' (s' := { s' with heap := h' }) (ch := fp) J.os ⟨fun b o e n h1 h2 => (hs.2 b (ne b o e)).trans (u.keep b o e n h1 h2), fun b o e n h1 h2 => ?_, u.free, fun b o e h2 => ?_, u.tups, u.frzs, u.tbls⟩ (fun a o e => ?_) J.bare fun b hb => ?_
 ·obtain ⟨sl, q⟩ := u.slot b o e n h1 h2
  exact ⟨sl, (hs.2 b (ne b o e)).trans q⟩
 ·obtain ⟨o', q⟩ := u.there b o e h2
  exact ⟨o', (hs.2 b (ne b o e)).trans q⟩
 ·refine (J.hok a o e).stay (fun c v hc q => (hs.2 c ?_).trans q) (fun _ q => q) fun _ _ q => q
  intro z
  subst z
  rcases hc with hc | hc
  ·rw [<- hc] at e
   rw [hfree] at e; cases e
  ·rw [hfree] at hc; cases hc
 ·exact ⟨(hf b hb).2.2.2.1, (hf b hb).2.1, (hf b hb).2.2.2.2⟩
end
def qB (D : Addr) (te : TE) : TB := fun σ H Q => te σ H fun y H1 => ∃ xs, H1 D = some (.lst xs) /\ xs.length < sizeLine /\ Q σ (upd H1 D (.lst (xs ++ [y])))
def jz (wi : TI) (own : Nat) (fr : List Nat) (g : TG) (tt : TT) (tb : Addr -> TB) : TE := fun σ H Q => wi σ H fun J H1 => ∀ D, H1 D = none ->
 acx J g tt (tb D) (yT own fr σ) (upd H1 D (.lst [])) fun _ H2 => Q (.ref D) H2
section
variable {X : Cx} {pins : List (Addr × Obj)} {s : Shared} {σ : St} {H : Hp} {tg elt iter : Expr} {ifs : List Expr} {rest : List Comprehension} {sc scO : Scope} {NO N : List Str} {own : Nat} {fr : List Nat} {wi : TI} {g : TG} {tt : TT} {tb : Addr -> TB} {pos : Pos}
theorem acA {RR : Value -> Addr -> Result -> Shared -> Prop} {it : Addr} {fp : List Addr} {tn : Nat -> Heap -> Prop} {J : It} {Q : VK} (S : CompScope NO scO N sc own fr) (hN : X.N = NO) (hsc : X.env.scope = scO) (hc : X.calm = true)
  (hg : ∀ s₀ H₀ ex pn, PG (zi X sc N s₀ H₀ ex pn) tg g) (ht : ∀ s₀ H₀ ex pn, PTs (zi X sc N s₀ H₀ ex pn) ifs tt)
  (hb : ∀ D s₀ H₀ ex pn, ∃ act, PB (zi X sc N s₀ H₀ ex pn) act (tb D) /\ ∀ it, compTurn (.ListComp elt (⟨tg, iter, ifs, 0⟩ :: rest) sc pos) 0 it (.ref D) (zi X sc N s₀ H₀ ex pn).env = (do
   standAt iter.pos
   match <- pyNext it with
   | none => pure (.done .next)
   | some v =>
    letOwnedTupleGo tg it v
    assign tg (zi X sc N s₀ H₀ ex pn).env v
    let mut ok := true
    for c in ifs do
     if ok then ok <- isTrue c (zi X sc N s₀ H₀ ex pn).env (eval c (zi X sc N s₀ H₀ ex pn).env)
    if ok then
     act
    again (.compLoop (.ListComp elt (⟨tg, iter, ifs, 0⟩ :: rest) sc pos) 0 it (.ref D) (zi X sc N s₀ H₀ ex pn).env)))
  (I : Inv X pins σ H s) (T : Turn X.prog X.w X.K tg J fp it tn) (st : tn 0 s.heap) (f : ∀ b ∈ fp, qQ X pins H b)
  (h : ∀ D, H D = none -> acx J g tt (tb D) (yT own fr σ) (upd H D (.lst [])) fun _ H2 => Q (.ref D) H2)
  (hRR : ∀ (D C : Addr) (s' : Shared) (H' : Hp), (∃ m, s'.heap.Ns C m) -> C ≠ X.env.locals -> (∀ x c, X.env.cells.lookup x = some c -> c ≠ C) -> H' C = none -> X.s₀.heap.objs.size <= C -> (∀ p ∈ X.pn ++ pins, p.1 ≠ C) -> Inv X pins σ H' s' -> Q (.ref D) H' -> RR (.ref D) C (.ok .next) s') :
  wpAny (model X.prog X.w) X.A (newList []) (fun acc s₃ => wpAny (model X.prog X.w) X.A (newFunctionEnv sc X.env.globals (zY X.env sc.names []) [] X.env.qual none .none (some X.env)) (fun cenv s₄ =>
   codeAny (model X.prog X.w) X.A (.compStart (.ListComp elt (⟨tg, iter, ifs, 0⟩ :: rest) sc pos) 0 (.ref it) acc { cenv with scope := relabel sc X.env }) (RR acc cenv.locals) s₄) X.xe s₃) X.xe s := by
 refine wpAny_newObj_type (acz ?_)
 have fpsz : ∀ b ∈ fp, b < s.heap.objs.size := fun b hb => by
  obtain ⟨o, e, _⟩ := T.obj _ _ st b hb
  exact alT e
 have I3 := I.lnew (its := []) (ys := []) (t' := s.toks) .nil (ama _)
 have f3 : ∀ b ∈ fp, qQ X pins (upd H s.heap.objs.size (.lst [])) b := fun b hb => ⟨by rw [zz (amd (fpsz b hb))]; exact (f b hb).1, (f b hb).2⟩
 have st3 : tn 0 (s.heap.push { cls := .type "list", data := .seq ([] : List Value).toArray }) := T.keep _ _ _ st fun b _ o e => alQ _ e
 have I4 := agG (tk := s.toks) S hN hsc I3 f3 (T.obj _ _ st3)
 obtain ⟨act, pb, heq⟩ := hb s.heap.objs.size _ _ _ _
 have st4 := T.keep _ _ (pushCells ((s.heap.push { cls := .type "list", data := .seq ([] : List Value).toArray }).push { cls := .type "dict", data := .dict #[] }) sc.names) st3 fun b _ o e => pushCells_keeps _ _ _ _ (alQ _ e)
 have cells_lt : ∀ x c, X.env.cells.lookup x = some c -> c < s.heap.objs.size := fun x c e => by
  obtain ⟨v, o, ho, hd⟩ := I.cell x c e
  exact alT ho
 have esz : (s.heap.push { cls := .type "list", data := .seq ([] : List Value).toArray }).objs.size = s.heap.objs.size + 1 := aoz ..
 have loop := acy (X := zi X sc N { s with heap := s.heap.push { cls := .type "list", data := .seq ([] : List Value).toArray } } (upd H s.heap.objs.size (.lst [])) fp (X.pn ++ pins)) (R := RR (.ref s.heap.objs.size) (s.heap.push { cls := .type "list", data := .seq ([] : List Value).toArray }).objs.size) (fun _ _ z => z) hc (hg _ _ _ _) (ht _ _ _ _) pb heq (fun _ => rfl) (fun _ => rfl) (fun _ => rfl) I4 T st4
  (fun b hb => ⟨(f3 b hb).1, I4.ok.exf b hb |>.1, I4.ok.exfs b hb, .inl hb, I4.ok.exf b hb |>.2, fun p hp => by
   have hp' : p ∈ X.pn ++ pins := by simpa [zi] using hp
   exact (f b hb).2.2.2.2.2 p hp'⟩) (h _ I.fresh)
  (fun σ' H' s' J' fr' q' => hRR _ _ s' H' (let ⟨m, hm, _⟩ := J'.loc; ⟨m, hm⟩) (by rw [esz]; exact anw (amQ I.lt)) (fun x c e => by rw [esz]; exact amd (amQ (cells_lt x c e))) J'.free (by rw [esz]; exact Nat.le_succ_of_le I.sz) (fun p hp => by rw [esz]; exact amd (amQ (alT (I.pin p hp).1))) (comp_back (h' := s'.heap) I3 f3 J' (Heap.SameBut.refl ..)) q')
 exact codeAny_compStart_list loop (T.self X.A 0 _ _ _ st4 loop)
theorem Inv.touch {C : Addr} {h' : Heap} (I : Inv X pins σ H s) (hs : ani C s.heap h') (hn : H C = none) (h0 : C ≠ X.env.locals) (h1 : ∀ x c, X.env.cells.lookup x = some c -> c ≠ C) (h2 : X.s₀.heap.objs.size <= C) (h3 : ∀ p ∈ X.pn ++ pins, p.1 ≠ C) :
  Inv X pins σ H { s with heap := h' } :=
 I.turned (t' := s.toks) (fun b o hb e => (hs.2 b hb).trans e) hn h0 (.inr h2) h1 h3
theorem aaR {prog : Program} {w : World} {A : Around} {R : Result -> Shared -> Prop} {s : Shared} {elt' : Expr} {g0 : Comprehension} {tg' it' : Expr} {ifs' : List Expr} {sc' : Scope} {pos' : Pos} {itv acc : Value} {env : Env}
  (here : codeAny (model prog w) A (.compLoop (.ListComp elt' [g0, ⟨tg', it', ifs', 0⟩] sc' pos') 1 itv acc env) R s)
  (once : wpAny (model prog w) A (pyIter itv) (fun j s1 => codeAny (model prog w) A (.compLoop (.ListComp elt' [g0, ⟨tg', it', ifs', 0⟩] sc' pos') 1 j acc env) R s1) (notedBy (model prog w) A env fun x s1 => R (.error x) s1) s) :
  codeAny (model prog w) A (.compStart (.ListComp elt' [g0, ⟨tg', it', ifs', 0⟩] sc' pos') 1 itv acc env) R s := by
 apply codeAny_of_tree
 show wpAny _ _ ((compStart (.ListComp elt' [g0, ⟨tg', it', ifs', 0⟩] sc' pos') 1 itv acc env).onRaise (fun z => do noteFrame z env; standAt theWindowsPlace)) _ _ s
 apply wpAny_notedAt
 unfold compStart
 show wpAny _ _ (ask >>= _) _ _ s
 apply wpAny_bind
 apply wpAny_askSetting
 apply wpAny_ite
 split
 ·first
   | exact wpAny_bind (wpAny_pure (wpAny_pure (And.intro rfl here)))
   | exact wpAny_pure (And.intro rfl here)
 ·apply wpAny_bind
  apply wpAny_rule
  show wpAny _ _ (standAt it'.pos >>= _) _ _ s
  exact wpAny_bind (wpAny_standAt (wpAny_bind (wpAny_mono once (fun j s1 q => wpAny_pure (And.intro rfl q)) fun _ _ z => z)))
section
variable {elt2 : Expr} {te : TE} {tg2 iter2 : Expr} {ifs2 : List Expr} {wi2 : TI} {g2 : TG} {tt2 : TT} {tb2 : TB} {y : Str} {i : Nat} {py spos : Pos}
def tIn (wi2 : TI) (g2 : TG) (tt2 : TT) (tb2 : TB) : TB := fun σ H Q => wi2 σ H fun J H1 => acx J g2 tt2 tb2 σ H1 Q
theorem ajo {D : Addr} (hx : ∀ e s, X.xe e s -> False) (hc : X.calm = true) (hi : PI X tg2 iter2 wi2) (hg : PG X tg2 g2) (ht : PTs X ifs2 tt2) (he : PE X elt te)
  (hs : ∀ x, foldedSetIterable iter2 X.env x = pure x) :
  PB X (do
   let x <- eval iter2 X.env
   standAt iter2.pos
   let x <- foldedSetIterable iter2 X.env x
   let _ <- runOwn (.compStart (.ListComp elt [⟨tg, iter, ifs, 0⟩, ⟨tg2, iter2, ifs2, 0⟩] sc pos) 1 (<- holding [x] (pyIter x)) (.ref D) X.env) X.env) (tIn wi2 g2 tt2 (qB D te)) := by
 intro pins s σ H Q I h
 refine wpAny_bind (thn (hi pins s σ H _ I h) fun v s1 h1 => ?_)
 refine wpAny_bind (wpAny_standAt ?_)
 refine wpAny_bind (wpAny_of_eq (hs v) ?_)
 refine wpAny_bind (wpAny_holding (thn h1 fun itv s2 h2 => ?_))
 obtain ⟨it, fp, tn, J, H2, e, I2, T, st2, f2, q⟩ := h2
 subst e
 refine wpAny_bind (wpAny_runOwn ?_)
 have loop := acy (e := .ListComp elt [⟨tg, iter, ifs, 0⟩, ⟨tg2, iter2, ifs2, 0⟩] sc pos) (d := 1) (pos := iter2.pos)
  (R := fun r s' => match r with | .ok f => wpAny (model X.prog X.w) X.A (pure ()) (fun _ s' => ∃ σ' H', Inv X pins σ' H' s' /\ Q σ' H') X.xe s' | .error e => cameBackBy (model X.prog X.w) X.A X.env X.xe e s')
  hx hc hg ht (abH (D := D) he) (fun _ => rfl) (fun _ => rfl) (fun _ => rfl) (fun _ => rfl) I2 T st2 f2 q (fun σ' H' s' J' _ q' => wpAny_pure ⟨σ', H', J', q'⟩)
 exact aaR loop (T.self X.A 0 _ _ _ st2 loop)
theorem aeu (S : CompScope NO scO N sc own fr) (hsc : X.env.scope = scO) (ok : X.Ok) : closureFor sc X.env = pure (zY X.env sc.names []) :=
 adL fun x hx => ok.has x (by
  show X.env.scope.names.lookup x = _ \/ X.env.scope.names.lookup x = _
  rw [hsc]
  exact S.free _ hx rfl)
theorem aev (S : CompScope NO scO N sc own fr) (hc : X.calm = true) (hi : PI X tg iter wi) (hg : ∀ s₀ H₀ ex pn, PG (zi X sc N s₀ H₀ ex pn) tg g) (ht : ∀ s₀ H₀ ex pn, PTs (zi X sc N s₀ H₀ ex pn) ifs tt)
  (hb : ∀ D s₀ H₀ ex pn, ∃ act, PB (zi X sc N s₀ H₀ ex pn) act (tb D) /\ ∀ it, compTurn (.ListComp elt (⟨tg, iter, ifs, 0⟩ :: rest) sc pos) 0 it (.ref D) (zi X sc N s₀ H₀ ex pn).env = (do
   standAt iter.pos
   match <- pyNext it with
   | none => pure (.done .next)
   | some v =>
    letOwnedTupleGo tg it v
    assign tg (zi X sc N s₀ H₀ ex pn).env v
    let mut ok := true
    for c in ifs do
     if ok then ok <- isTrue c (zi X sc N s₀ H₀ ex pn).env (eval c (zi X sc N s₀ H₀ ex pn).env)
    if ok then
     act
    again (.compLoop (.ListComp elt (⟨tg, iter, ifs, 0⟩ :: rest) sc pos) 0 it (.ref D) (zi X sc N s₀ H₀ ex pn).env)))
  (hN : X.N = NO) (hsc : X.env.scope = scO) (hs : ∀ x, foldedSetIterable iter X.env x = pure x) :
  PE X (.ListComp elt (⟨tg, iter, ifs, 0⟩ :: rest) sc pos) (jz wi own fr g tt tb) := by
 intro pins s σ H Q I h
 rw [eval_ListComp]
 refine wpAny_comprehension_free (use := none) rfl hs (aeu S hsc I.ok) S.kind (fun p hp hl => z5 S.snd (k := .local) (by rw [<- hl]; exact hp)) (thn (hi pins s σ H _ I h) fun v s1 h1 => thn h1 fun itv s2 h2 => ?_)
 obtain ⟨it, fp, tn, J, H2, e, I2, T, st2, f2, q⟩ := h2
 subst e
 refine acA (RR := fun acc C => compPost (model X.prog X.w) X.A X.xe none (EP X pins σ Q) acc C) S hN hsc hc hg ht hb I2 T st2 f2 q ?_
 rintro D C s' H' ⟨m, hm⟩ c0 c1 c2 c3 c4 J' q'
 exact ⟨m, hm, fun h' hs' => ⟨.ref D, H', J'.touch hs' c2 c0 c1 c3 c4, rfl, q'⟩⟩
theorem aao (S : CompScope NO scO N sc own fr) (hc : X.calm = true) (hNd : X.N.Nodup) (hiN : X.N[i]? = some y) (hy : Loc X.env.scope y) (hi : PI X tg iter wi) (hg : ∀ s₀ H₀ ex pn, PG (zi X sc N s₀ H₀ ex pn) tg g) (ht : ∀ s₀ H₀ ex pn, PTs (zi X sc N s₀ H₀ ex pn) ifs tt)
  (hb : ∀ D s₀ H₀ ex pn, ∃ act, PB (zi X sc N s₀ H₀ ex pn) act (tb D) /\ ∀ it, compTurn (.ListComp elt (⟨tg, iter, ifs, 0⟩ :: rest) sc pos) 0 it (.ref D) (zi X sc N s₀ H₀ ex pn).env = (do
   standAt iter.pos
   match <- pyNext it with
   | none => pure (.done .next)
   | some v =>
    letOwnedTupleGo tg it v
    assign tg (zi X sc N s₀ H₀ ex pn).env v
    let mut ok := true
    for c in ifs do
     if ok then ok <- isTrue c (zi X sc N s₀ H₀ ex pn).env (eval c (zi X sc N s₀ H₀ ex pn).env)
    if ok then
     act
    again (.compLoop (.ListComp elt (⟨tg, iter, ifs, 0⟩ :: rest) sc pos) 0 it (.ref D) (zi X sc N s₀ H₀ ex pn).env)))
  (hN : X.N = NO) (hsc : X.env.scope = scO) (hs : ∀ x, foldedSetIterable iter X.env x = pure x) (hf : X.fn y = true \/ X.env.scope.names.lookup y = some .local)
  (hsw : swapsWith (.ListComp elt (⟨tg, iter, ifs, 0⟩ :: rest) sc pos) (some (.Name y py)) spos.line X.env = pure true) :
  PS X (.Assign [.Name y py] (.ListComp elt (⟨tg, iter, ifs, 0⟩ :: rest) sc pos) spos) (qx (jz wi own fr g tt tb) (yP i)) := by
 intro pins s σ H D I h
 rw [exec_Assign_Name_used _ _ _ _ hsw]
 refine wpAny_bind (wpAny_standAt (wpAny_bind ?_))
 show wpAny _ X.A (do let _ <- comprehension (.ListComp elt (⟨tg, iter, ifs, 0⟩ :: rest) sc pos) sc X.env _ (newList []) false (eval iter X.env) (some (assign (.Name y py) X.env))) _ _ s
 refine wpAny_bind (wpAny_mono (wpAny_comprehension_free (use := some (assign (.Name y py) X.env)) (Q := fun _ s' => SP X pins D .next s') rfl hs (aeu S hsc I.ok) S.kind (fun p hp hl => z5 S.snd (k := .local) (by rw [<- hl]; exact hp))
  (thn (hi pins s σ H _ I h) fun v s1 h1 => thn h1 fun itv s2 h2 => ?_)) (fun _ s' hq => wpAny_pure (wpAny_pure hq)) fun _ _ e => e)
 obtain ⟨it, fp, tn, J, H2, e, I2, T, st2, f2, q⟩ := h2
 subst e
 refine acA (Q := fun x H1 => yP i x σ H1 D.nx) (RR := fun acc C => compPost (model X.prog X.w) X.A X.xe (some (assign (.Name y py) X.env)) (fun _ s' => SP X pins D .next s') acc C) S hN hsc hc hg ht hb I2 T st2 f2 q ?_
 rintro A' C s' H' ⟨m, hm⟩ c0 c1 c2 c3 c4 J' q'
 show wpAny _ X.A (assign (.Name y py) X.env (.ref A')) _ _ _
 refine wpAny_assign_Name (aaY (v := .ref A') J' hNd hiN hy rfl (fun s2' I2' hsb => ?_) hf)
 obtain ⟨a, hs2, ha⟩ := hsb
 have hCa : C ≠ a := by
  rcases ha with ha | ha
  ·rw [ha]; exact c0
  ·exact amN (c1 _ _ ha)
 exact ⟨m, hm.sameBut hs2 hCa, fun h' hs' => ⟨_, H', I2'.touch hs' c2 c0 c1 c3 c4, q'⟩⟩
end
end
section
variable {X : Cx} {tg elt iter tg2 iter2 : Expr} {ifs ifs2 : List Expr} {sc scO : Scope} {NO N : List Str} {own : Nat} {fr : List Nat} {wi wi2 : TI} {g g2 : TG} {tt tt2 : TT} {te : TE} {pos py spos : Pos} {y : Str} {i : Nat}
theorem yp (S : CompScope NO scO N sc own fr) (hc : X.calm = true) (hi : PI X tg iter wi) (hg : ∀ s₀ H₀ ex pn, PG (zi X sc N s₀ H₀ ex pn) tg g) (ht : ∀ s₀ H₀ ex pn, PTs (zi X sc N s₀ H₀ ex pn) ifs tt) (he : ∀ s₀ H₀ ex pn, PE (zi X sc N s₀ H₀ ex pn) elt te)
  (hN : X.N = NO) (hsc : X.env.scope = scO) (hs : ∀ x, foldedSetIterable iter X.env x = pure x) : PE X (.ListComp elt [⟨tg, iter, ifs, 0⟩] sc pos) (jz wi own fr g tt fun D => qB D te) :=
 aev S hc hi hg ht (fun D s₀ H₀ ex pn => ⟨_, abH (D := D) (he s₀ H₀ ex pn), fun _ => rfl⟩) hN hsc hs
theorem vM (S : CompScope NO scO N sc own fr) (hc : X.calm = true) (hNd : X.N.Nodup) (hiN : X.N[i]? = some y) (hy : Loc X.env.scope y) (hi : PI X tg iter wi) (hg : ∀ s₀ H₀ ex pn, PG (zi X sc N s₀ H₀ ex pn) tg g) (ht : ∀ s₀ H₀ ex pn, PTs (zi X sc N s₀ H₀ ex pn) ifs tt) (he : ∀ s₀ H₀ ex pn, PE (zi X sc N s₀ H₀ ex pn) elt te)
  (hN : X.N = NO) (hsc : X.env.scope = scO) (hs : ∀ x, foldedSetIterable iter X.env x = pure x) (hf : X.fn y = true \/ X.env.scope.names.lookup y = some .local)
  (hsw : swapsWith (.ListComp elt [⟨tg, iter, ifs, 0⟩] sc pos) (some (.Name y py)) spos.line X.env = pure true) :
  PS X (.Assign [.Name y py] (.ListComp elt [⟨tg, iter, ifs, 0⟩] sc pos) spos) (qx (jz wi own fr g tt fun D => qB D te) (yP i)) :=
 aao S hc hNd hiN hy hi hg ht (fun D s₀ H₀ ex pn => ⟨_, abH (D := D) (he s₀ H₀ ex pn), fun _ => rfl⟩) hN hsc hs hf hsw
end
theorem acB {elt tg iter tg2 iter2 : Expr} {ifs ifs2 : List Expr} {sc : Scope} {pos : Pos} {it acc : Value} {env : Env} :
  compTurn (.ListComp elt [⟨tg, iter, ifs, 0⟩, ⟨tg2, iter2, ifs2, 0⟩] sc pos) 0 it acc env = (do
   standAt iter.pos
   match <- pyNext it with
   | none => pure (.done .next)
   | some v =>
    letOwnedTupleGo tg it v
    assign tg env v
    let mut ok := true
    for c in ifs do
     if ok then ok <- isTrue c env (eval c env)
    if ok then
     (do
      let x <- eval iter2 env
      standAt iter2.pos
      let x <- foldedSetIterable iter2 env x
      let _ <- runOwn (.compStart (.ListComp elt [⟨tg, iter, ifs, 0⟩, ⟨tg2, iter2, ifs2, 0⟩] sc pos) 1 (<- holding [x] (pyIter x)) acc env) env)
    again (.compLoop (.ListComp elt [⟨tg, iter, ifs, 0⟩, ⟨tg2, iter2, ifs2, 0⟩] sc pos) 0 it acc env)) := by
 unfold compTurn
 simp only [bind_assoc, pure_bind]
 rfl
section
variable {X : Cx} {tg elt iter tg2 iter2 : Expr} {ifs ifs2 : List Expr} {sc scO : Scope} {NO N : List Str} {own : Nat} {fr : List Nat} {wi wi2 : TI} {g g2 : TG} {tt tt2 : TT} {te : TE} {pos py spos : Pos} {y : Str} {i : Nat}
theorem acC (S : CompScope NO scO N sc own fr) (hc : X.calm = true) (hi : PI X tg iter wi) (hg : ∀ s₀ H₀ ex pn, PG (zi X sc N s₀ H₀ ex pn) tg g) (ht : ∀ s₀ H₀ ex pn, PTs (zi X sc N s₀ H₀ ex pn) ifs tt)
  (hi2 : ∀ s₀ H₀ ex pn, PI (zi X sc N s₀ H₀ ex pn) tg2 iter2 wi2) (hg2 : ∀ s₀ H₀ ex pn, PG (zi X sc N s₀ H₀ ex pn) tg2 g2) (ht2 : ∀ s₀ H₀ ex pn, PTs (zi X sc N s₀ H₀ ex pn) ifs2 tt2)
  (he : ∀ s₀ H₀ ex pn, PE (zi X sc N s₀ H₀ ex pn) elt te) (hN : X.N = NO) (hsc : X.env.scope = scO) (hs : ∀ x, foldedSetIterable iter X.env x = pure x) (hs2 : ∀ s₀ H₀ ex pn x, foldedSetIterable iter2 (zi X sc N s₀ H₀ ex pn).env x = pure x) :
  PE X (.ListComp elt [⟨tg, iter, ifs, 0⟩, ⟨tg2, iter2, ifs2, 0⟩] sc pos) (jz wi own fr g tt fun D => tIn wi2 g2 tt2 (qB D te)) :=
 aev S hc hi hg ht (fun D s₀ H₀ ex pn => ⟨_, ajo (D := D) (fun _ _ z => z) hc (hi2 s₀ H₀ ex pn) (hg2 s₀ H₀ ex pn) (ht2 s₀ H₀ ex pn) (he s₀ H₀ ex pn) (hs2 s₀ H₀ ex pn), fun it => acB⟩) hN hsc hs
theorem acD (S : CompScope NO scO N sc own fr) (hc : X.calm = true) (hNd : X.N.Nodup) (hiN : X.N[i]? = some y) (hy : Loc X.env.scope y) (hi : PI X tg iter wi) (hg : ∀ s₀ H₀ ex pn, PG (zi X sc N s₀ H₀ ex pn) tg g) (ht : ∀ s₀ H₀ ex pn, PTs (zi X sc N s₀ H₀ ex pn) ifs tt)
  (hi2 : ∀ s₀ H₀ ex pn, PI (zi X sc N s₀ H₀ ex pn) tg2 iter2 wi2) (hg2 : ∀ s₀ H₀ ex pn, PG (zi X sc N s₀ H₀ ex pn) tg2 g2) (ht2 : ∀ s₀ H₀ ex pn, PTs (zi X sc N s₀ H₀ ex pn) ifs2 tt2)
  (he : ∀ s₀ H₀ ex pn, PE (zi X sc N s₀ H₀ ex pn) elt te) (hN : X.N = NO) (hsc : X.env.scope = scO) (hs : ∀ x, foldedSetIterable iter X.env x = pure x) (hs2 : ∀ s₀ H₀ ex pn x, foldedSetIterable iter2 (zi X sc N s₀ H₀ ex pn).env x = pure x)
  (hf : X.fn y = true \/ X.env.scope.names.lookup y = some .local)
  (hsw : swapsWith (.ListComp elt [⟨tg, iter, ifs, 0⟩, ⟨tg2, iter2, ifs2, 0⟩] sc pos) (some (.Name y py)) spos.line X.env = pure true) :
  PS X (.Assign [.Name y py] (.ListComp elt [⟨tg, iter, ifs, 0⟩, ⟨tg2, iter2, ifs2, 0⟩] sc pos) spos) (qx (jz wi own fr g tt fun D => tIn wi2 g2 tt2 (qB D te)) (yP i)) :=
 aao S hc hNd hiN hy hi hg ht (fun D s₀ H₀ ex pn => ⟨_, ajo (D := D) (fun _ _ z => z) hc (hi2 s₀ H₀ ex pn) (hg2 s₀ H₀ ex pn) (ht2 s₀ H₀ ex pn) (he s₀ H₀ ex pn) (hs2 s₀ H₀ ex pn), fun it => acB⟩) hN hsc hs hf hsw
end
section
variable {X : Cx} {pins : List (Addr × Obj)} {σ : St} {H : Hp} {s : Shared} {h' : Heap} {fp : List Addr}
theorem Inv.turnedAll {t' : Nat} (I : Inv X pins σ H s) (hf : ∀ b ∈ fp, qQ X pins H b) (k : ∀ b o, b ∉ fp -> s.heap.get? b = some o -> h'.get? b = some o) : Inv X pins σ H { s with heap := h', toks := t' } := by
 refine I.step (g' := s.gens) (d' := s.drawn) (ch := fp) (fun b hb => ⟨(hf b hb).2.2.2.1, (hf b hb).2.1, (hf b hb).2.2.2.2⟩) (fun b o _ _ hc e _ => k b o hc e) (fun b o _ _ hc e _ => ⟨o.slots, k b o hc e⟩) (fun _ _ _ _ n => n)
  (fun b o hc e => ⟨o, k b o hc e⟩) (fun _ _ e => e) (fun _ _ _ e => e) (fun b ps e => ⟨#[], by rw [e]; simp⟩) (fun m hm => ?_) (fun b u e => ?_) I.bare
 ·obtain ⟨o, es, ep, ho, r⟩ := hm
  exact ⟨o, es, ep, k _ o (fun z => (hf _ z).2.1 rfl) ho, r⟩
 ·refine (I.hok b u e).stay (fun c v hc q => k c v (fun z => ?_) q) (fun _ q => q) fun _ _ q => q
  have hn := (hf c z).1
  rcases hc with hc | hc
  ·subst hc; rw [e] at hn; cases hn
  ·rw [hc] at hn; cases hn
theorem Inv.turnedNew {t' : Nat} {t : Addr} {o : HO} (I : Inv X pins σ H s) (hf : ∀ b ∈ fp, qQ X pins H b) (k : ∀ b o, b ∉ fp -> s.heap.get? b = some o -> h'.get? b = some o) (ht : s.heap.objs.size <= t) (new : ObjOk X.prog X.w (upd H t o) h' t o) :
  Inv X pins σ (upd H t o) { s with heap := h', toks := t' } := by
 have hn : H t = none := I.hok.fresh ht
 have ne : ∀ b ob, s.heap.get? b = some ob -> b ≠ t := fun b ob e => amd (al0 (alT e) ht)
 refine I.step (g' := s.gens) (d' := s.drawn) (ch := fp) (fun b hb => ⟨(hf b hb).2.2.2.1, (hf b hb).2.1, (hf b hb).2.2.2.2⟩) (fun b o _ _ hc e _ => k b o hc e) (fun b o _ _ hc e _ => ⟨o.slots, k b o hc e⟩) (fun b ob _ e n => by rw [zz (ne b ob e)]; exact n)
  (fun b o hc e => ⟨o, k b o hc e⟩) (fun b xs e => by rw [zz (zK e hn)]; exact e) (fun b ob u e => by rw [zz (zK e hn)]; exact e) (fun b ps e => ⟨#[], by rw [zz (zK e hn), e]; simp⟩) (fun m hm => ?_) (fun b u e => ?_) I.bare
 ·obtain ⟨o, es, ep, ho, r⟩ := hm
  exact ⟨o, es, ep, k _ o (fun z => (hf _ z).2.1 rfl) ho, r⟩
 ·by_cases hb : b = t
  ·subst hb; rw [zE] at e; cases e; exact new
  ·rw [zz hb] at e
   refine (I.hok b u e).stay (fun c v hc q => k c v (fun z => ?_) q) (fun c q => by rw [zz (zK q hn)]; exact q) fun c xs q => by rw [zz (zK q hn)]; exact q
   have hn' := (hf c z).1
   rcases hc with hc | hc
   ·subst hc; rw [e] at hn'; cases hn'
   ·rw [hc] at hn'; cases hn'
end
def Ite (K : alE) (a : Addr) : It :=
 ⟨fun i H => ∃ xs x, SqL K H a xs /\ xs[i]? = some x, fun i H x H' => ∃ t y, x = .ref t /\ H t = none /\ H' = upd H t (.tup [.int i, y]) /\ ∀ xs, SqL K H a xs -> xs[i]? = some y, fun i H => ∃ xs, SqL K H a xs /\ xs.length <= i⟩
theorem afB {P : Program} {w : World} {K : alE} {es : List Expr} {k : Nat} {pos : Pos} (a e it : Addr) (hne : e ≠ it) : Turn P w K (.Tuple es k pos) (Ite K a) [e, it] e (fun i h => (∃ old, IsEnum h e it i old) /\ h.IsListIter it a i) where
 mem := by simp
 obj := fun i h st b hb => by
  obtain ⟨⟨old, se⟩, o, eo, c, d⟩ := st
  rcases alO.mp hb with z | z
  ·subst z
   exact ⟨_, se, fun v z => by
    have z' : Data.fields _ = Data.cell v := z
    cases z'⟩
  ·have z : b = it := by simpa using z
   subst z
   exact ⟨o, eo, fun v z => by rw [d] at z; cases z⟩
 keep := fun i h h' st kk => ⟨let ⟨old, se⟩ := st.1; ⟨old, kk e (by simp) _ se⟩, st.2.at fun o eo => kk it (by simp) o eo⟩
 item := by
  intro X hP hw hK hc i pins s σ H E I hf st hg
  subst hP hw hK
  obtain ⟨xs, x, hq, hx⟩ := hg
  obtain ⟨its, rv, p, hz⟩ := I.list hq
  obtain ⟨u, hu, ru⟩ := rv.get hx
  obtain ⟨⟨old, se⟩, si⟩ := st
  refine wpAny_pyNext_enum_item se si p.isList (x := u) (by simpa using hu) hne fun h' so si' tp sz kp => ?_
  refine ⟨_, rfl, ?_⟩
  refine wpAny_letOwnedTupleGo_enum (s := { s with heap := h', toks := s.toks + 1 }) so fun h2 se2 sb => ?_
  have hlt : e < s.heap.objs.size := alT se
  obtain ⟨oi, eoi, _, _⟩ := id si
  have hlt2 : it < s.heap.objs.size := alT eoi
  have kk : ∀ b o, b ∉ [e, it] -> s.heap.get? b = some o -> h2.get? b = some o := fun b o hb eb => by
   have h1 : b ≠ e := fun z => hb (by simp [z])
   have h2' : b ≠ it := fun z => hb (by simp [z])
   exact (sb.2 b h1).trans (kp b o h1 h2' eb)
  have I2 : Inv X pins σ (upd H s.heap.objs.size (.tup [.int i, x])) { s with heap := h2, toks := s.toks + 1 } := I.turnedNew hf kk (alI _)
   ⟨by show 2 <= sizeLine; decide, [.int i s.toks, u], .cons ⟨_, rfl⟩ (.cons ru .nil), ⟨_, (sb.2 _ (anw hlt)).trans tp, rfl, _, rfl⟩⟩
  refine ⟨.ref s.heap.objs.size, _, I2, rfl, ⟨_, x, rfl, I.fresh, rfl, fun ys hy => by rw [I.list_inj hy hq]; exact hx⟩, ⟨⟨_, se2⟩, ?_⟩, fun b hb => ?_⟩
  ·exact si'.at fun o eo => (sb.2 it (amN hne)).trans eo
  ·rw [zz]
   ·exact (hf b hb).1
   ·rcases alO.mp hb with z | z
    ·subst z; exact amd hlt
    ·have z : b = it := by simpa using z
     subst z; exact amd hlt2
 done := by
  intro X hP hw hK hc i pins s σ H E I hf st hg
  subst hP hw hK
  obtain ⟨xs, hq, hx⟩ := hg
  obtain ⟨its, rv, p, hz⟩ := I.list hq
  obtain ⟨⟨old, se⟩, si⟩ := st
  have hl := rv.length
  exact wpAny_pyNext_enum_end (I.ok.hd hc) se si p.isList (by simp; omega) fun h' eb => ⟨rfl, I.turnedAll (t' := s.toks) hf fun b o hb e' => eb b o (fun z => hb (by simp [z])) e'⟩
 self := fun _ _ _ _ _ st h => let ⟨_, se⟩ := st.1; wpAny_pyIter_enum se h
section
variable {X : Cx} {es : List Expr} {k : Nat} {tpos : Pos}
def agH (K : alE) (ta : TA) : TI := fun σ H R => ta σ H fun vs H1 => ∃ a, vs = [.ref a] /\ (∃ xs, SqL K H1 a xs) /\ R (Ite K a) H1
theorem aii {a : Expr} {ta : TA} {p pos : Pos} (hg : Gl X "enumerate") (hm : X.mg "enumerate" = none) (ha : PA X [a] ta) (hs : starEach [a] X.env = [(false, eval a X.env)] := by rfl) : PI X (.Tuple es k tpos) (.Call (.Name "enumerate" p) [a] [] pos) (agH X.K ta) := by
 intro pins s σ H R I h
 refine Call_ (vt I hg hm boot_enumerate (anp (thn (ha pos pins s σ H _ I h) fun us s1 ⟨vs, H1, I1, r1, q1⟩ => ?_) hs rfl))
 obtain ⟨l, e, ⟨xs, hq⟩, q⟩ := q1
 subst e
 cases r1 with
 | cons r rr =>
  cases rr
  cases r
  obtain ⟨its, rv, p, hz⟩ := I1.list hq
  refine call_enumerate_list p.isList fun h' he hi hsz kp => ?_
  refine wpAny_pyIter_enum he ?_
  have hne : s1.heap.objs.size + 1 ≠ s1.heap.objs.size := Nat.succ_ne_self _
  refine ⟨s1.heap.objs.size + 1, [s1.heap.objs.size + 1, s1.heap.objs.size], _, _, H1, rfl, I1.kept (t' := s1.toks) kp, afB l _ _ hne, ⟨⟨_, he⟩, hi⟩, fun b hb => ?_, q⟩
  rcases alO.mp hb with z | z
  ·subst z; exact I1.fpOk (apA _) (I1.hok.fresh (apA _))
  ·have z : b = s1.heap.objs.size := by simpa using z
   subst z; exact I1.fpOk (alI _) (I1.hok.fresh (alI _))
end
theorem agI {K : alE} {a : Addr} {xs : List V} {g : TG} {tb : TS} {D : Ends} {σ : St} {H : Hp} (Pv : Nat -> St -> Hp -> Prop) (h0 : Pv 0 σ H) (hl : ∀ i σ H, i <= xs.length -> Pv i σ H -> SqL K H a xs)
  (hs : ∀ i x σ H t, xs[i]? = some x -> Pv i σ H -> H t = none -> g (.ref t) σ (upd H t (.tup [.int i, x])) fun σ2 H2 => tb { D with nx := Pv (i + 1), ct := Pv (i + 1), bk := D.nx } σ2 H2) (hd : ∀ σ H, Pv xs.length σ H -> D.nx σ H) :
  ∃ W : Nat -> Nat -> St -> Hp -> Prop, (∃ m, W 0 m σ H) /\ ∀ i m σ H, W i m σ H ->
   ((Ite K a).stop i H /\ D.nx σ H) \/ ((Ite K a).go i H /\ ∃ N : St -> Hp -> Prop, (∀ σ' H', N σ' H' -> ∃ m', m' < m /\ W (i + 1) m' σ' H') /\ ∀ x H', (Ite K a).yld i H x H' -> g x σ H' fun σ2 H2 => tb { D with nx := N, ct := N, bk := D.nx } σ2 H2) := by
 refine ⟨fun i m σ H => Pv i σ H /\ i <= xs.length /\ m + i = xs.length, ⟨xs.length, h0, ama _, rfl⟩, fun i m σ H ⟨p, hi, hm⟩ => ?_⟩
 have q := hl i σ H hi p
 by_cases hlt : i < xs.length
 ·refine .inr ⟨⟨xs, xs[i], q, alB hlt⟩, Pv (i + 1), fun σ' H' n => ⟨m - 1, by omega, n, hlt, by omega⟩, fun x H' hy => ?_⟩
  obtain ⟨t, y, rfl, ht, rfl, hy⟩ := hy
  exact hs i y σ H t (hy xs q) p ht
 ·have e : i = xs.length := by omega
  subst e
  exact .inl ⟨⟨xs, q, alI _⟩, hd σ H p⟩
mutual
def Rep (K : alE) (H : Hp) : PyData -> V -> Prop
 | .none, v => v = .non
 | .bool b, v => v = .bl b
 | .int i, v => v = .int i
 | .str x, v => v = .str x
 | .list ds, v => ∃ a xs, v = .ref a /\ SqL K H a xs /\ Reps K H ds xs
 | .tuple ds, v => ∃ a xs, v = .ref a /\ SqT K H a xs /\ Reps K H ds xs
 | .dict _, _ => False
def Reps (K : alE) (H : Hp) : List PyData -> List V -> Prop
 | [], xs => xs = []
 | d :: ds, xs => ∃ x r, xs = x :: r /\ Rep K H d x /\ Reps K H ds r
end
theorem Same.seqT {K : alE} {H H' : Hp} {a : Addr} {xs : List V} (e : Same H H') (h : SqT K H a xs) : SqT K H' a xs := by
 rcases h with (h | ⟨o, h⟩) | h
 ·exact .inl (.inl (e _ _ h))
 ·exact .inl (.inr ⟨o, e _ _ h⟩)
 ·exact .inr h
mutual
theorem Rep.mono {K : alE} {H H' : Hp} (e : Same H H') : ∀ (d : PyData) (v : V), Rep K H d v -> Rep K H' d v
 | .none, _, h => by rw [Rep] at h ⊢; exact h
 | .bool _, _, h => by rw [Rep] at h ⊢; exact h
 | .int _, _, h => by rw [Rep] at h ⊢; exact h
 | .str _, _, h => by rw [Rep] at h ⊢; exact h
 | .list ds, v, h => by
  rw [Rep] at h ⊢
  obtain ⟨a, xs, h1, h2, h3⟩ := h
  exact ⟨a, xs, h1, e.seq h2, Reps.mono e ds xs h3⟩
 | .tuple ds, v, h => by
  rw [Rep] at h ⊢
  obtain ⟨a, xs, h1, h2, h3⟩ := h
  exact ⟨a, xs, h1, e.seqT h2, Reps.mono e ds xs h3⟩
 | .dict _, _, h => by rw [Rep] at h; exact h.elim
theorem Reps.mono {K : alE} {H H' : Hp} (e : Same H H') : ∀ (ds : List PyData) (xs : List V), Reps K H ds xs -> Reps K H' ds xs
 | [], _, h => by rw [Reps] at h ⊢; exact h
 | d :: ds, xs, h => by
  rw [Reps] at h ⊢
  obtain ⟨x, r, h1, h2, h3⟩ := h
  exact ⟨x, r, h1, Rep.mono e d x h2, Reps.mono e ds r h3⟩
end
theorem rep_int {K : alE} {H : Hp} {i : Int} {v : V} : Rep K H (.int i) v ↔ v = .int i := by rw [Rep]
theorem rep_bool {K : alE} {H : Hp} {b : Bool} {v : V} : Rep K H (.bool b) v ↔ v = .bl b := by rw [Rep]
theorem rep_none {K : alE} {H : Hp} {v : V} : Rep K H .none v ↔ v = .non := by rw [Rep]
theorem rep_str {K : alE} {H : Hp} {x : Str} {v : V} : Rep K H (.str x) v ↔ v = .str x := by rw [Rep]
theorem rep_list {K : alE} {H : Hp} {ds : List PyData} {v : V} : Rep K H (.list ds) v ↔ ∃ a xs, v = .ref a /\ SqL K H a xs /\ Reps K H ds xs := by rw [Rep]
theorem rep_tuple {K : alE} {H : Hp} {ds : List PyData} {v : V} : Rep K H (.tuple ds) v ↔ ∃ a xs, v = .ref a /\ SqT K H a xs /\ Reps K H ds xs := by rw [Rep]
theorem reps_nil {K : alE} {H : Hp} {xs : List V} : Reps K H [] xs ↔ xs = [] := by rw [Reps]
theorem reps_cons {K : alE} {H : Hp} {d : PyData} {ds : List PyData} {xs : List V} : Reps K H (d :: ds) xs ↔ ∃ x r, xs = x :: r /\ Rep K H d x /\ Reps K H ds r := by rw [Reps]
theorem Reps.nil' {K : alE} {H : Hp} : Reps K H [] [] := reps_nil.mpr rfl
theorem Reps.cons' {K : alE} {H : Hp} {d : PyData} {ds : List PyData} {x : V} {r : List V} (h : Rep K H d x) (t : Reps K H ds r) : Reps K H (d :: ds) (x :: r) := reps_cons.mpr ⟨x, r, rfl, h, t⟩
theorem Reps.length {K : alE} {H : Hp} : ∀ {ds : List PyData} {xs : List V}, Reps K H ds xs -> xs.length = ds.length
 | [], xs, h => by rw [reps_nil.mp h]; rfl
 | d :: ds, xs, h => by
  obtain ⟨x, r, rfl, _, h3⟩ := reps_cons.mp h
  rw [alV, alV, Reps.length h3]
theorem Reps.get {K : alE} {H : Hp} : ∀ {ds : List PyData} {xs : List V} {i : Nat} {d : PyData}, Reps K H ds xs -> ds[i]? = some d -> ∃ x, xs[i]? = some x /\ Rep K H d x
 | [], _, _, _, _, e => by simp at e
 | d :: ds, xs, 0, d', h, e => by
  obtain ⟨x, r, rfl, h2, _⟩ := reps_cons.mp h
  simp at e; subst e
  exact ⟨x, rfl, h2⟩
 | d :: ds, xs, i + 1, d', h, e => by
  obtain ⟨x, r, rfl, _, h3⟩ := reps_cons.mp h
  obtain ⟨y, h1, h2⟩ := Reps.get (i := i) h3 (by simpa using e)
  exact ⟨y, by simpa using h1, h2⟩
theorem Reps.snoc {K : alE} {H : Hp} {d : PyData} {x : V} (h : Rep K H d x) : ∀ {ds : List PyData} {xs : List V}, Reps K H ds xs -> Reps K H (ds ++ [d]) (xs ++ [x])
 | [], xs, t => by rw [reps_nil.mp t]; exact .cons' h .nil'
 | d' :: ds, xs, t => by
  obtain ⟨y, r, rfl, h2, h3⟩ := reps_cons.mp t
  exact .cons' h2 (Reps.snoc h h3)
theorem Reps.append {K : alE} {H : Hp} : ∀ {ds es : List PyData} {xs ys : List V}, Reps K H ds xs -> Reps K H es ys -> Reps K H (ds ++ es) (xs ++ ys)
 | [], es, xs, ys, t, u => by rw [reps_nil.mp t]; exact u
 | d' :: ds, es, xs, ys, t, u => by
  obtain ⟨y, r, rfl, h2, h3⟩ := reps_cons.mp t
  exact .cons' h2 (Reps.append h3 u)
theorem Reps.ints {K : alE} {H : Hp} : ∀ {ns : List Int} {xs : List V}, Reps K H (ns.map .int) xs -> xs = ns.map V.int
 | [], xs, h => reps_nil.mp h
 | n :: ns, xs, h => by
  obtain ⟨x, r, rfl, h2, h3⟩ := reps_cons.mp h
  rw [rep_int.mp h2, Reps.ints h3]; rfl
theorem Reps.ints' {K : alE} {H : Hp} : ∀ (ns : List Int), Reps K H (ns.map .int) (ns.map V.int)
 | [] => .nil'
 | n :: ns => .cons' (rep_int.mpr rfl) (Reps.ints' ns)
section
variable {X : Cx} {pins : List (Addr × Obj)} {σ : St} {H : Hp} {s : Shared}
mutual
theorem yH (I : Inv X pins σ H s) : ∀ (d : PyData) (v : V) (u : Value), Rep X.K H d v -> RelV v u -> ∃ as, Reads s.heap u d as
 | .none, v, u, h, r => by rw [rep_none.mp h] at r; cases r; exact ⟨_, .none⟩
 | .bool b, v, u, h, r => by rw [rep_bool.mp h] at r; cases r; exact ⟨_, .bool b⟩
 | .int i, v, u, h, r => by rw [rep_int.mp h] at r; obtain ⟨t, rfl⟩ := r; exact ⟨_, .int i t⟩
 | .str x, v, u, h, r => by rw [rep_str.mp h] at r; obtain ⟨t, rfl⟩ := r; exact ⟨_, .str x t⟩
 | .list ds, v, u, h, r => by
  obtain ⟨a, xs, rfl, h2, h3⟩ := rep_list.mp h
  cases r
  obtain ⟨its, rv, p, _⟩ := I.list h2
  obtain ⟨o, ho, hc, n, hd⟩ := p.isList
  obtain ⟨as, ra⟩ := ji I ds xs its h3 rv
  exact ⟨_, .list ho hc hd (by simpa using ra)⟩
 | .tuple ds, v, u, h, r => by
  obtain ⟨a, xs, rfl, h2, h3⟩ := rep_tuple.mp h
  cases r
  obtain ⟨its, rv, p, _⟩ := I.tuple h2
  obtain ⟨o, ho, hc, n, hd⟩ := p
  obtain ⟨as, ra⟩ := ji I ds xs its h3 rv
  exact ⟨_, .tuple ho hc hd (by simpa using ra)⟩
 | .dict _, _, _, h, _ => by rw [Rep] at h; exact h.elim
theorem ji (I : Inv X pins σ H s) : ∀ (ds : List PyData) (xs : List V) (us : List Value), Reps X.K H ds xs -> Vals xs us -> ∃ as, ReadsAll s.heap us ds as
 | [], xs, us, h, r => by rw [reps_nil.mp h] at r; cases r; exact ⟨_, .nil⟩
 | d :: ds, xs, us, h, r => by
  obtain ⟨x, q, rfl, h2, h3⟩ := reps_cons.mp h
  cases r with
  | cons r1 r2 =>
   obtain ⟨as, ra⟩ := yH I d x _ h2 r1
   obtain ⟨bs, rb⟩ := ji I ds q _ h3 r2
   exact ⟨_, .cons ra rb⟩
end
def afC (K : alE) (neg : Bool) : R2 := fun x y H Q => ∃ d d', Rep K H d x /\ Rep K H d' y /\ d.canLay0 = true /\ d'.canLay0 = true /\ min d.depth d'.depth <= 60 /\ Q (.bl (if neg then !al4 d d' else al4 d d')) H
theorem aj5 (hu : X.A.units + 64 < cLine) : OpR X (compareOp .Eq) (afC X.K false) := by
 intro pins s σ H x y v u Q I rx ry h
 obtain ⟨d, d', h1, h2, c1, c2, hm, q⟩ := h
 obtain ⟨as, ra⟩ := yH I d x v h1 rx
 obtain ⟨bs, rb⟩ := yH I d' y u h2 ry
 exact SeqAt.compareEq_reads ra rb c1 c2 (by omega) ⟨.bl (al4 d d'), H, I, rfl, q⟩
theorem aj6 (hu : X.A.units + 64 < cLine) : OpR X (compareOp .NotEq) (afC X.K true) := by
 intro pins s σ H x y v u Q I rx ry h
 obtain ⟨d, d', h1, h2, c1, c2, hm, q⟩ := h
 obtain ⟨as, ra⟩ := yH I d x v h1 rx
 obtain ⟨bs, rb⟩ := yH I d' y u h2 ry
 exact SeqAt.compareNe_reads ra rb c1 c2 (by omega) ⟨.bl (!al4 d d'), H, I, rfl, q⟩
theorem afD (hc : X.calm = true) : yf X (.builtin "min") (fun xs H Q => ∃ a ns, xs = [.ref a] /\ SqL X.K H a (ns.map V.int) /\ ns ≠ [] /\ ∀ M, M ∈ ns -> (∀ b ∈ ns, M <= b) -> Q (.int M) H) := by
 intro pins s σ H xs us Q I r h
 obtain ⟨a, ns, rfl, hq, hne, q⟩ := h
 obtain ⟨u, rfl, r1⟩ := vals1 r
 cases r1
 obtain ⟨its, rv, p, _⟩ := I.list hq
 obtain ⟨m, F⟩ := I.fr
 have hi := intsAre_of rv
 obtain ⟨ys, e⟩ := hi.allInts.items
 have hns : ns = ys.toList.map (·.1) := by rw [<- hi.numsOf, <- nums_intItems, <- e]
 have hsz : 0 < ys.size := by
  have h3 : 0 < ns.length := aps.mpr hne
  rw [hns, alD, alS] at h3; exact h3
 have hl := p.isList
 rw [e] at hl
 refine min_intList (I.ok.hd hc) hl hsz fun v h' tk hv hk => ?_
 obtain ⟨t, rfl⟩ := intItems_at hv
 obtain ⟨_, h2⟩ := argBest_lt (numAt ys) (ys.size - 1)
 refine ⟨.int _, H, I.kept (t' := tk) hk, ⟨t, rfl⟩, q _ ?_ fun b hb => ?_⟩
 ·rw [hns, numAt_eq]; exact getD_mem (by rw [alD, alS]; omega)
 ·rw [hns] at hb
  obtain ⟨j, hj, rfl⟩ := mem_getD hb
  rw [alD, alS] at hj
  rw [<- numAt_eq]; exact h2 j (by omega)
theorem afE (hc : X.calm = true) : yf X (.builtin "max") (fun xs H Q => ∃ a ns, xs = [.ref a] /\ SqL X.K H a (ns.map V.int) /\ ns ≠ [] /\ ∀ M, M ∈ ns -> (∀ b ∈ ns, b <= M) -> Q (.int M) H) := by
 intro pins s σ H xs us Q I r h
 obtain ⟨a, ns, rfl, hq, hne, q⟩ := h
 obtain ⟨u, rfl, r1⟩ := vals1 r
 cases r1
 obtain ⟨its, rv, p, _⟩ := I.list hq
 have hi := intsAre_of rv
 obtain ⟨ys, e⟩ := hi.allInts.items
 have hns : ns = ys.toList.map (·.1) := by rw [<- hi.numsOf, <- nums_intItems, <- e]
 have hsz : 0 < ys.size := by
  have h3 : 0 < ns.length := aps.mpr hne
  rw [hns, alD, alS] at h3; exact h3
 have hl := p.isList
 rw [e] at hl
 refine max_intList (I.ok.hd hc) hl hsz fun v h' tk hv hk => ?_
 obtain ⟨t, rfl⟩ := intItems_at hv
 obtain ⟨_, h2⟩ := argBest_gt (numAt ys) (ys.size - 1)
 refine ⟨.int _, H, I.kept (t' := tk) hk, ⟨t, rfl⟩, q _ ?_ fun b hb => ?_⟩
 ·rw [hns, numAt_eq]; exact getD_mem (by rw [alD, alS]; omega)
 ·rw [hns] at hb
  obtain ⟨j, hj, rfl⟩ := mem_getD hb
  rw [alD, alS] at hj
  rw [<- numAt_eq]; exact h2 j (by omega)
end
inductive DV where
 | dat (d : PyData)
 | feed
 | own (k : Nat)
 | exc (C : Value)
 | mon (φ : Hp -> V -> Prop)
abbrev zq := List (Option DV)
structure Fx where
 f : Option Addr
 M : List Addr
def hide (H : Hp) (f : Fx) : Hp := fun b => if f.f = some b \/ b ∈ f.M then none else H b
structure FOk (f : Fx) (H : Hp) : Prop where
 fd : ∀ p, f.f = some p -> ∃ a b : Int, H p = some (.lst [.int a, .int b]) /\ 0 <= a /\ 0 <= b /\ b < 2147483647
 mm : ∀ b ∈ f.M, ∃ o, H b = some o
 nm : ∀ p, f.f = some p -> p ∉ f.M
def RepV (K : alE) (f : Fx) (H : Hp) : DV -> V -> Prop
 | .dat d, v => Rep K (hide H f) d v
 | .feed, v => ∃ p, f.f = some p /\ v = .ref p
 | .own k, v => ∃ p, f.M.reverse[k]? = some p /\ v = .ref p
 | .exc C, v => ∃ a, v = .ref a /\ hide H f a = some (.ext fun h => ∃ o, h.get? a = some o /\ o.cls = C)
 | .mon φ, v => ∀ H', Same (hide H f) H' -> φ H' v
structure Goes (f : Fx) (H H' : Hp) : Prop where
 sm : Same (hide H f) (hide H' f)
 ok : FOk f H'
 kp : ∀ b ∈ f.M, H' b = H b
structure EnvOk (K : alE) (f : Fx) (ρ : zq) (σ : St) (H : Hp) : Prop where
 len : ρ.length = σ.length
 get : ∀ (i : Nat) x, ρ[i]? = some (some x) -> ∃ v, σ[i]? = some (some v) /\ RepV K f H x v
 fd : FOk f H
theorem yD (H : Hp) : hide H ⟨none, []⟩ = H := by funext b; unfold hide; rw [if_neg (by rintro (h | h) <;> cases h)]
theorem zm (H : Hp) (f : Fx) : Same (hide H f) H := fun b o h => by
 unfold hide at h
 split at h
 ·cases h
 ·exact h
theorem zM {H : Hp} {f : Fx} {b : Addr} {o : HO} (h : hide H f b = some o) : ¬ (f.f = some b \/ b ∈ f.M) /\ H b = some o := by
 unfold hide at h
 split at h
 ·cases h
 ·rename_i n; exact ⟨n, h⟩
theorem zC {H : Hp} {f : Fx} {b : Addr} {o : HO} (n : ¬ (f.f = some b \/ b ∈ f.M)) (h : H b = some o) : hide H f b = some o := by unfold hide; rw [if_neg n]; exact h
theorem Goes.refl {f : Fx} {H : Hp} (h : FOk f H) : Goes f H H := ⟨Same.refl _, h, fun _ _ => rfl⟩
theorem Goes.trans {f : Fx} {H H1 H2 : Hp} (a : Goes f H H1) (b : Goes f H1 H2) : Goes f H H2 := ⟨a.1.trans b.1, b.2, fun x hx => (b.kp x hx).trans (a.kp x hx)⟩
theorem Goes.of_same {f : Fx} {H H' : Hp} (s : Same H H') (h : FOk f H) : Goes f H H' :=
 ⟨fun b o e => zC (zM e).1 (s b o (zM e).2), ⟨fun p e => let ⟨a, b, h1, h2⟩ := h.fd p e; ⟨a, b, s _ _ h1, h2⟩, fun b hb => let ⟨o, e⟩ := h.mm b hb; ⟨o, s _ _ e⟩, h.nm⟩, fun b hb => let ⟨o, e⟩ := h.mm b hb; (s _ _ e).trans e.symm⟩
theorem yd {H : Hp} {p : Addr} (h : H p = none) (o : HO) : Same H (upd H p o) := fun b u q => by rw [zz (zK q h)]; exact q
theorem RepV.mono {K : alE} {f : Fx} {H H' : Hp} (g : Goes f H H') : ∀ {x : DV} {v : V}, RepV K f H x v -> RepV K f H' x v
 | .dat d, v, h => Rep.mono g.1 d v h
 | .feed, v, h => h
 | .own _, v, h => h
 | .exc _, v, h => let ⟨a, e, q⟩ := h; ⟨a, e, g.1 _ _ q⟩
 | .mon _, v, h => fun H' s => h H' (g.1.trans s)
theorem EnvOk.mono {K : alE} {f : Fx} {ρ : zq} {σ : St} {H H' : Hp} (e : EnvOk K f ρ σ H) (g : Goes f H H') : EnvOk K f ρ σ H' :=
 ⟨e.len, fun i x h => let ⟨v, h1, h2⟩ := e.get i x h; ⟨v, h1, h2.mono g⟩, g.2⟩
theorem EnvOk.set {K : alE} {f : Fx} {ρ : zq} {σ : St} {H : Hp} {x : DV} {v : V} (e : EnvOk K f ρ σ H) (i : Nat) (r : RepV K f H x v) : EnvOk K f (ρ.set i (some x)) (σ.set i (some v)) H := by
 refine ⟨by rw [anL, anL]; exact e.len, fun j y h => ?_, e.fd⟩
 by_cases hj : i = j
 ·subst hj
  by_cases hi : i < ρ.length
  ·rw [amV hi] at h
   cases h
   exact ⟨v, by rw [amV (by rw [<- e.len]; exact hi)], r⟩
  ·rw [al5 (by rw [anL]; omega)] at h; cases h
 ·rw [anr hj] at h ⊢
  exact e.get j y h
theorem fresh_ne {f : Fx} {H : Hp} {p : Addr} (h : FOk f H) (n : H p = none) : ¬ (f.f = some p \/ p ∈ f.M) := fun e => by
 rcases e with e | e
 ·obtain ⟨a, b, h1, _⟩ := h.fd p e
  rw [n] at h1; cases h1
 ·obtain ⟨o, h1⟩ := h.mm p e
  rw [n] at h1; cases h1
inductive RepVs (K : alE) (f : Fx) (H : Hp) : List DV -> List V -> Prop where
 | nil : RepVs K f H [] []
 | cons {x v xs vs} : RepV K f H x v -> RepVs K f H xs vs -> RepVs K f H (x :: xs) (v :: vs)
theorem RepVs.mono {K : alE} {f : Fx} {H H' : Hp} (g : Goes f H H') : ∀ {xs : List DV} {vs : List V}, RepVs K f H xs vs -> RepVs K f H' xs vs
 | _, _, .nil => .nil
 | _, _, .cons r t => .cons (r.mono g) (t.mono g)
theorem RepVs.length {K : alE} {f : Fx} {H : Hp} : ∀ {xs : List DV} {vs : List V}, RepVs K f H xs vs -> vs.length = xs.length
 | _, _, .nil => rfl
 | _, _, .cons _ t => by rw [alV, alV, t.length]
section
variable (K : alE) (f : Fx)
def PEd (te : TE) (ρ : zq) (P : PyData -> Prop) : Prop := ∀ (σ : St) (H : Hp) (Q : VK), EnvOk K f ρ σ H -> (∀ d v H', Goes f H H' -> Rep K (hide H' f) d v -> P d -> Q v H') -> te σ H Q
def PTd (tt : TT) (ρ : zq) (P : Bool -> Prop) : Prop := ∀ (σ : St) (H : Hp) (Q : Bool -> Hp -> Prop), EnvOk K f ρ σ H -> (∀ b H', Goes f H H' -> P b -> Q b H') -> tt σ H Q
def PAd (ta : TA) (ρ : zq) (P : List DV -> Prop) : Prop := ∀ (σ : St) (H : Hp) (Q : List V -> Hp -> Prop), EnvOk K f ρ σ H -> (∀ xs vs H', Goes f H H' -> RepVs K f H' xs vs -> P xs -> Q vs H') -> ta σ H Q
structure DEnds where
 nx : zq -> Prop
 rt : PyData -> Prop
 bk : zq -> Prop := fun _ => False
 ct : zq -> Prop := fun _ => False
def PSd (ts : TS) (ρ : zq) (D : DEnds) : Prop := ∀ (σ : St) (H : Hp) (E : Ends), EnvOk K f ρ σ H -> (∀ ρ' σ' H', Goes f H H' -> EnvOk K f ρ' σ' H' -> D.nx ρ' -> E.nx σ' H') -> (∀ d v H', Goes f H H' -> Rep K (hide H' f) d v -> D.rt d -> E.rt v H') ->
 (∀ ρ' σ' H', Goes f H H' -> EnvOk K f ρ' σ' H' -> D.bk ρ' -> E.bk σ' H') -> (∀ ρ' σ' H', Goes f H H' -> EnvOk K f ρ' σ' H' -> D.ct ρ' -> E.ct σ' H') -> ts E σ H
def spD {γ : Type} (n : Nat) (pre : γ -> List DV -> Prop) (post : γ -> PyData -> Prop) : Sp := fun vs H Q _ => ∃ f xs c, RepVs K f H xs vs /\ xs.length = n /\ FOk f H /\ pre c xs /\ ∀ r v H', Goes f H H' -> Rep K (hide H' f) r v -> post c r -> Q v H'
end
section
variable {K : alE} {f : Fx} {ρ : zq} {P : PyData -> Prop} {te ta tb tc : TE}
theorem zl {i : Nat} {d : PyData} (h : ρ[i]? = some (some (.dat d))) (p : P d) : PEd K f (yg i) ρ P := fun σ H Q e q => by
 obtain ⟨v, h1, h2⟩ := e.get i _ h
 exact ⟨v, h1, q d v H (.refl e.fd) h2 p⟩
theorem yk {i : Int} (p : P (.int i)) : PEd K f (tC (.int i)) ρ P := fun σ H Q e q => q (.int i) _ H (.refl e.fd) (rep_int.mpr rfl) p
theorem aj7 {i : Bool} (p : P (.bool i)) : PEd K f (tC (.bl i)) ρ P := fun σ H Q e q => q (.bool i) _ H (.refl e.fd) (rep_bool.mpr rfl) p
theorem ajp {i : Str} (p : P (.str i)) : PEd K f (tC (.str i)) ρ P := fun σ H Q e q => q (.str i) _ H (.refl e.fd) (rep_str.mpr rfl) p
theorem ajq (p : P .none) : PEd K f (tC .non) ρ P := fun σ H Q e q => q .none _ H (.refl e.fd) (rep_none.mpr rfl) p
theorem PEd.imp {P' : PyData -> Prop} (h : PEd K f te ρ P) (i : ∀ d, P d -> P' d) : PEd K f te ρ P' := fun σ H Q e q => h σ H Q e fun d v H' g r p => q d v H' g r (i d p)
theorem afF {r : R2} (h : PEd K f ta ρ fun x => PEd K f tb ρ fun y => ∀ (v w : V) (H : Hp) (Q : VK), FOk f H -> Rep K (hide H f) x v -> Rep K (hide H f) y w -> (∀ d u H', Goes f H H' -> Rep K (hide H' f) d u -> P d -> Q u H') -> r v w H Q) : PEd K f (tOp r ta tb) ρ P := fun σ H Q e q =>
 h σ H _ e fun x v H1 g1 r1 p1 => p1 σ H1 _ (e.mono g1) fun y w H2 g2 r2 p2 => p2 v w H2 Q g2.2 (Rep.mono g2.1 x v r1) r2 fun d u H' g' r' p' => q d u H' (g1.trans (g2.trans g')) r' p'
theorem alw {r : V -> Hp -> VK -> Prop} (h : PEd K f ta ρ fun x => ∀ (v : V) (H : Hp) (Q : VK), FOk f H -> Rep K (hide H f) x v -> (∀ d u H', Goes f H H' -> Rep K (hide H' f) d u -> P d -> Q u H') -> r v H Q) : PEd K f (tUn r ta) ρ P := fun σ H Q e q =>
 h σ H _ e fun x v H1 g1 r1 p1 => p1 v H1 Q g1.2 r1 fun d u H' g' r' p' => q d u H' (g1.trans g') r' p'
theorem yx {g : Int -> Int -> Int} (h : PEd K f ta ρ fun x => ∃ i, x = .int i /\ PEd K f tb ρ fun y => ∃ j, y = .int j /\ P (.int (g i j))) : PEd K f (tOp (rI0 fun i j => .int (g i j)) ta tb) ρ P :=
 afF (h.imp fun x ⟨i, ex, h2⟩ => h2.imp fun y ⟨j, ey, p⟩ v w H Q fo rx ry q => by
  subst ex ey
  exact ⟨i, j, rep_int.mp rx, rep_int.mp ry, q _ _ H (.refl fo) (rep_int.mpr rfl) p⟩)
theorem z9 {C : Int -> Int -> Prop} {g : Int -> Int -> Int} (h : PEd K f ta ρ fun x => ∃ i, x = .int i /\ PEd K f tb ρ fun y => ∃ j, y = .int j /\ C i j /\ P (.int (g i j))) : PEd K f (tOp (rI C fun i j => .int (g i j)) ta tb) ρ P :=
 afF (h.imp fun x ⟨i, ex, h2⟩ => h2.imp fun y ⟨j, ey, c, p⟩ v w H Q fo rx ry q => by
  subst ex ey
  exact ⟨i, j, rep_int.mp rx, rep_int.mp ry, c, q _ _ H (.refl fo) (rep_int.mpr rfl) p⟩)
theorem aew {g : Int -> Int -> Bool} (h : PEd K f ta ρ fun x => ∃ i, x = .int i /\ PEd K f tb ρ fun y => ∃ j, y = .int j /\ P (.bool (g i j))) : PEd K f (tOp (rI0 fun i j => .bl (g i j)) ta tb) ρ P :=
 afF (h.imp fun x ⟨i, ex, h2⟩ => h2.imp fun y ⟨j, ey, p⟩ v w H Q fo rx ry q => by
  subst ex ey
  exact ⟨i, j, rep_int.mp rx, rep_int.mp ry, q _ _ H (.refl fo) (rep_bool.mpr rfl) p⟩)
theorem jU {neg : Bool} (h : PEd K f ta ρ fun x => PEd K f tb ρ fun y => x.canLay0 = true /\ y.canLay0 = true /\ min x.depth y.depth <= 60 /\ P (.bool (if neg then !al4 x y else al4 x y))) : PEd K f (tOp (afC K neg) ta tb) ρ P :=
 afF (h.imp fun x h2 => h2.imp fun y ⟨c1, c2, c3, p⟩ v w H Q fo rx ry q =>
  ⟨x, y, Rep.mono (zm _ _) x v rx, Rep.mono (zm _ _) y w ry, c1, c2, c3, q _ _ H (.refl fo) (rep_bool.mpr rfl) p⟩)
theorem yQ (h : PEd K f ta ρ fun x => ∃ ds, x = .list ds /\ PEd K f tb ρ fun y => ∃ k, y = .int k /\ ∃ d, atI ds k = some d /\ P d) : PEd K f (tOp (afy K) ta tb) ρ P :=
 afF (h.imp fun x ⟨ds, ex, h2⟩ => h2.imp fun y ⟨k, ey, d, a, p⟩ v w H Q fo rx ry q => by
  subst ex ey
  obtain ⟨l, xs, rfl, hs, hr⟩ := rep_list.mp rx
  unfold atI at a
  cases hi : ixN ds.length k with
  | none => rw [hi] at a; cases a
  | some j =>
   rw [hi] at a
   obtain ⟨u, hu, ru⟩ := hr.get a
   exact ⟨l, xs, k, u, rfl, rep_int.mp ry, (zm H f).seq hs, by unfold atI; rw [hr.length, hi]; exact hu, q d u H (.refl fo) ru p⟩)
theorem agJ (h : PEd K f ta ρ fun x => ∃ ds, x = .tuple ds /\ PEd K f tb ρ fun y => ∃ k, y = .int k /\ ∃ d, atI ds k = some d /\ P d) : PEd K f (tOp (aj0 K) ta tb) ρ P :=
 afF (h.imp fun x ⟨ds, ex, h2⟩ => h2.imp fun y ⟨k, ey, d, a, p⟩ v w H Q fo rx ry q => by
  subst ex ey
  obtain ⟨l, xs, rfl, hs, hr⟩ := rep_tuple.mp rx
  unfold atI at a
  cases hi : ixN ds.length k with
  | none => rw [hi] at a; cases a
  | some j =>
   rw [hi] at a
   obtain ⟨u, hu, ru⟩ := hr.get a
   exact ⟨l, xs, k, u, rfl, rep_int.mp ry, (zm H f).seqT hs, by unfold atI; rw [hr.length, hi]; exact hu, q d u H (.refl fo) ru p⟩)
theorem ajr {i : Nat} (hi : ρ[i]? = some (some .feed)) (h : PEd K f tb ρ fun y => (y = .int 0 /\ ∀ a : Int, 0 <= a -> P (.int a)) \/ (y = .int 1 /\ ∀ b : Int, 0 <= b -> b < 2147483647 -> P (.int b))) : PEd K f (tOp (afy K) (yg i) tb) ρ P := fun σ H Q e q => by
 obtain ⟨v, h1, p, ef, ev⟩ := e.get i _ hi
 refine ⟨v, h1, h σ H _ e fun y w H' g r c => ?_⟩
 obtain ⟨a, b, hf, c1, c2, c3⟩ := g.2.fd p ef
 rcases c with ⟨rfl, c⟩ | ⟨rfl, c⟩
 ·exact ⟨p, _, 0, .int a, ev, rep_int.mp r, SqL.of hf, rfl, q (.int a) _ H' g (rep_int.mpr rfl) (c a c1)⟩
 ·exact ⟨p, _, 1, .int b, ev, rep_int.mp r, SqL.of hf, rfl, q (.int b) _ H' g (rep_int.mpr rfl) (c b c2 c3)⟩
theorem ya {R : List DV -> Prop} (p : R []) : PAd K f jX ρ R := fun σ H Q e q => q [] [] H (.refl e.fd) .nil p
theorem zy {R : List DV -> Prop} {u : TA} (h : PEd K f te ρ fun x => PAd K f u ρ fun xs => R (.dat x :: xs)) : PAd K f (yc te u) ρ R := fun σ H Q e q =>
 h σ H _ e fun x v H1 g1 r1 p1 => p1 σ H1 _ (e.mono g1) fun xs vs H2 g2 r2 p2 => q (.dat x :: xs) (v :: vs) H2 (g1.trans g2) (.cons (RepV.mono (x := .dat x) g2 r1) r2) p2
theorem jY {R : List DV -> Prop} {u : TA} {i : Nat} (hi : ρ[i]? = some (some .feed)) (h : PAd K f u ρ fun xs => R (.feed :: xs)) : PAd K f (yc (yg i) u) ρ R := fun σ H Q e q => by
 obtain ⟨v, h1, h2⟩ := e.get i _ hi
 exact ⟨v, h1, h σ H _ e fun xs vs H2 g2 r2 p2 => q (.feed :: xs) (v :: vs) H2 g2 (.cons (RepV.mono (x := .feed) g2 h2) r2) p2⟩
def jJ : List DV -> Option (List PyData)
 | [] => some []
 | .dat d :: r => (jJ r).map (d :: ·)
 | .feed :: _ => none
 | .own _ :: _ => none
 | .exc _ :: _ => none
 | .mon _ :: _ => none
theorem qk {H : Hp} : ∀ {xs : List DV} {vs : List V} {ds : List PyData}, RepVs K f H xs vs -> jJ xs = some ds -> Reps K (hide H f) ds vs
 | _, _, ds, .nil, e => by cases e; exact .nil'
 | .dat d :: xs, v :: vs, ds, .cons r t, e => by
  unfold jJ at e
  cases q : jJ xs with
  | none => rw [q] at e; cases e
  | some es => rw [q] at e; cases e; exact .cons' r (qk t q)
 | .feed :: xs, _, ds, .cons r t, e => by cases e
 | .own _ :: xs, _, ds, .cons r t, e => by cases e
 | .exc _ :: xs, _, ds, .cons r t, e => by cases e
 | .mon _ :: xs, _, ds, .cons r t, e => by cases e
theorem acE {t : TA} (h : PAd K f t ρ fun xs => ∃ ds, jJ xs = some ds /\ ds.length <= 1000 /\ P (.list ds)) : PEd K f (agD t) ρ P := fun σ H Q e q =>
 h σ H _ e fun xs vs H1 g1 r1 ⟨ds, ea, hl, p⟩ => by
  have rs := qk r1 ea
  refine ⟨by rw [rs.length]; exact amM (yl hl), fun l hn => ?_⟩
  have sm := yd hn (.lst vs)
  have g2 : Goes f H1 (upd H1 l (.lst vs)) := .of_same sm g1.2
  exact q (.list ds) _ _ (g1.trans g2) (rep_list.mpr ⟨l, vs, rfl, .of (zC (fresh_ne g1.2 hn) zE), Reps.mono g2.1 ds vs rs⟩) p
theorem jV {t : TA} (h : PAd K f t ρ fun xs => ∃ ds, jJ xs = some ds /\ ds.length <= 1000 /\ P (.tuple ds)) : PEd K f (akZ t) ρ P := fun σ H Q e q =>
 h σ H _ e fun xs vs H1 g1 r1 ⟨ds, ea, hl, p⟩ => by
  have rs := qk r1 ea
  refine ⟨by rw [rs.length]; exact amM (yl hl), fun l hn => ?_⟩
  have sm := yd hn (.tup vs)
  have g2 : Goes f H1 (upd H1 l (.tup vs)) := .of_same sm g1.2
  exact q (.tuple ds) _ _ (g1.trans g2) (rep_tuple.mpr ⟨l, vs, rfl, .of (zC (fresh_ne g1.2 hn) zE), Reps.mono g2.1 ds vs rs⟩) p
theorem zp {γ : Type} {n : Nat} {pre : γ -> List DV -> Prop} {post : γ -> PyData -> Prop} {E : XK} {t : TA} (c : γ) (h : PAd K f t ρ fun xs => xs.length = n /\ pre c xs /\ ∀ r, post c r -> P r) : PEd K f (aa2 (spD K n pre post) [] E t) ρ P := fun σ H Q e q =>
 h σ H _ e fun xs vs H1 g1 r1 ⟨hl, hp, k⟩ => by
  refine ⟨f, xs, c, by rw [amq]; exact r1, hl, g1.2, hp, fun r v H' g' r' p' => q r v H' (g1.trans g') r' (k r p')⟩
theorem adM {r : List V -> Hp -> VK -> Prop} {t : TA} (h : PAd K f t ρ fun xs => ∃ ds, jJ xs = some ds /\ ∀ (vs : List V) (H : Hp) (Q : VK), FOk f H -> Reps K (hide H f) ds vs -> (∀ d u H', Goes f H H' -> Rep K (hide H' f) d u -> P d -> Q u H') -> r vs H Q) : PEd K f (tCB r t) ρ P := fun σ H Q e q =>
 h σ H _ e fun xs vs H1 g1 r1 ⟨ds, ea, k⟩ => k vs H1 Q g1.2 (qk r1 ea) fun d u H' g' r' p' => q d u H' (g1.trans g') r' p'
end
section
variable {K : alE} {f : Fx} {ρ : zq} {P : PyData -> Prop} {B : Bool -> Prop} {te ta tb tc : TE} {tt tu : TT}
theorem PTd.imp {B' : Bool -> Prop} (h : PTd K f tt ρ B) (i : ∀ d, B d -> B' d) : PTd K f tt ρ B' := fun σ H Q e q => h σ H Q e fun d H' g p => q d H' g (i d p)
theorem yv (h : PEd K f te ρ fun d => ∃ k, d = .bool k /\ B k) : PTd K f (aep te) ρ B := fun σ H Q e q => h σ H _ e fun d v H' g r ⟨k, ed, p⟩ => by
 subst ed
 exact ⟨k, rep_bool.mp r, q k H' g p⟩
theorem t_b (h : PEd K f te ρ fun d => ∃ k, d = .bool k /\ B k) : PTd K f (tB te) ρ B := fun σ H Q e q => h σ H _ e fun d v H' g r ⟨k, ed, p⟩ => by
 subst ed
 exact ⟨k, rep_bool.mp r, q k H' g p⟩
theorem agK (h : PTd K f tt ρ fun c => if c = true then PTd K f tu ρ B else B false) : PTd K f (akU tt tu) ρ B := fun σ H Q e q => h σ H _ e fun c H1 g p => by
 cases c with
 | true =>
  rw [if_pos rfl] at p ⊢
  exact p σ H1 Q (e.mono g) fun b H2 g2 p2 => q b H2 (g.trans g2) p2
 | false =>
  rw [if_neg alC] at p ⊢
  exact q false H1 g p
theorem adN (h : PTd K f tt ρ fun c => if c = true then B true else PTd K f tu ρ B) : PTd K f (tOr tt tu) ρ B := fun σ H Q e q => h σ H _ e fun c H1 g p => by
 cases c with
 | true =>
  rw [if_pos rfl] at p ⊢
  exact q true H1 g p
 | false =>
  rw [if_neg alC] at p ⊢
  exact p σ H1 Q (e.mono g) fun b H2 g2 p2 => q b H2 (g.trans g2) p2
theorem aa8 (h : PTd K f tt ρ fun c => B (!c)) : PTd K f (akV tt) ρ B := fun σ H Q e q => h σ H _ e fun c H1 g p => q (!c) H1 g p
def alx : PyData -> Option Bool
 | .none => some false
 | .bool b => some b
 | .int i => some (i != 0)
 | .list ds => some (!ds.isEmpty)
 | .tuple ds => some (!ds.isEmpty)
 | _ => none
def aj8 (K : alE) (ta : TE) : TT := fun σ H Q => ta σ H fun x H' => ∃ k, ajX K x H' k /\ Q k H'
theorem aj9 {X : Cx} {a : Expr} (ha : PE X a ta) (he : ∀ whole, isTrue a X.env whole = (do let v <- whole; standAt a.pos; holding [v] (truthy v))) : PT X a (aj8 X.K ta) := agC ha he
theorem yV (h : PEd K f ta ρ fun d => ∃ k, alx d = some k /\ B k) : PTd K f (aj8 K ta) ρ B := fun σ H Q e q => h σ H _ e fun d v H' g r ⟨k, ed, p⟩ => by
 refine ⟨k, ?_, q k H' g p⟩
 cases d with
 | none => rw [rep_none.mp r]; cases ed; rfl
 | bool b => rw [rep_bool.mp r]; cases ed; rfl
 | int i => rw [rep_int.mp r]; cases ed; rfl
 | str x => cases ed
 | list ds =>
  obtain ⟨a, xs, rfl, h1, h2⟩ := rep_list.mp r
  cases ed
  refine .inl ⟨xs, (zm _ _).seq h1, ?_⟩
  cases ds with
  | nil => rw [reps_nil.mp h2]; rfl
  | cons d ds => obtain ⟨x, r, rfl, _⟩ := reps_cons.mp h2; rfl
 | tuple ds =>
  obtain ⟨a, xs, rfl, h1, h2⟩ := rep_tuple.mp r
  cases ed
  refine .inr (.inl ⟨xs, (zm _ _).seqT h1, ?_⟩)
  cases ds with
  | nil => rw [reps_nil.mp h2]; rfl
  | cons d ds => obtain ⟨x, r, rfl, _⟩ := reps_cons.mp h2; rfl
 | dict _ => cases ed
theorem aij (h : PTd K f tt ρ fun c => if c = true then PEd K f ta ρ P else PEd K f tb ρ P) : PEd K f (tIf tt ta tb) ρ P := fun σ H Q e q => h σ H _ e fun c H1 g p => by
 cases c with
 | true => rw [if_pos rfl] at p ⊢; exact p σ H1 Q (e.mono g) fun d v H2 g2 r2 p2 => q d v H2 (g.trans g2) r2 p2
 | false => rw [if_neg alC] at p ⊢; exact p σ H1 Q (e.mono g) fun d v H2 g2 r2 p2 => q d v H2 (g.trans g2) r2 p2
theorem adO (h : PEd K f ta ρ fun x => ∃ c, x = .bool c /\ if c = true then PEd K f tb ρ P else P (.bool false)) : PEd K f (ajl ta tb) ρ P := fun σ H Q e q => h σ H _ e fun x v H1 g r ⟨c, ex, p⟩ => by
 subst ex
 refine ⟨c, rep_bool.mp r, ?_⟩
 cases c with
 | true => rw [if_pos rfl] at p ⊢; exact p σ H1 Q (e.mono g) fun d v H2 g2 r2 p2 => q d v H2 (g.trans g2) r2 p2
 | false => rw [if_neg alC] at p ⊢; exact q _ _ H1 g (rep_bool.mpr rfl) p
theorem agL (h : PEd K f ta ρ fun x => ∃ c, x = .bool c /\ P (.bool !c)) : PEd K f (ajm ta) ρ P := fun σ H Q e q => h σ H _ e fun x v H1 g r ⟨c, ex, p⟩ => by
 subst ex
 exact ⟨c, rep_bool.mp r, q _ _ H1 g (rep_bool.mpr rfl) p⟩
theorem aex {g g' : Int -> Int -> Bool} (h : PEd K f ta ρ fun x => ∃ i, x = .int i /\ PEd K f tb ρ fun y => ∃ j, y = .int j /\ if g i j = true then PEd K f tc ρ fun z => ∃ k, z = .int k /\ P (.bool (g' j k)) else P (.bool false)) :
  PEd K f (agB (rI0 fun i j => .bl (g i j)) (rI0 fun i j => .bl (g' i j)) ta tb tc) ρ P := fun σ H Q e q => h σ H _ e fun x v H1 g1 r1 ⟨i, ex, p1⟩ => p1 σ H1 _ (e.mono g1) fun y w H2 g2 r2 ⟨j, ey, p2⟩ => by
 subst ex ey
 refine ⟨i, j, rep_int.mp r1, rep_int.mp r2, g i j, rfl, ?_⟩
 by_cases hg : g i j = true
 ·rw [if_pos hg] at p2 ⊢
  exact p2 σ H2 _ ((e.mono g1).mono g2) fun z u H3 g3 r3 ⟨k, ez, p3⟩ => by
   subst ez
   exact ⟨j, k, rep_int.mp r2, rep_int.mp r3, q _ _ H3 (g1.trans (g2.trans g3)) (rep_bool.mpr rfl) p3⟩
 ·rw [if_neg hg] at p2 ⊢
  exact q _ _ H2 (g1.trans g2) (rep_bool.mpr rfl) p2
theorem aey {t : TA} (h : PAd K f t ρ fun xs => (∃ ds, xs = [.dat (.list ds)] /\ P (.int ds.length)) \/ (∃ ds, xs = [.dat (.tuple ds)] /\ P (.int ds.length))) :
  PEd K f (tCB (fun xs H Q => ∃ p ys, xs = [.ref p] /\ (SqL K H p ys \/ SqT K H p ys) /\ Q (.int ys.length) H) t) ρ P :=
 adM fun σ H Q e q => h σ H Q e fun xs vs H' g r p => by
  rcases p with ⟨ds, rfl, p⟩ | ⟨ds, rfl, p⟩
  ·refine q _ vs H' g r ⟨_, rfl, fun vs H Q fo rs k => ?_⟩
   obtain ⟨x, r, rfl, h2, h3⟩ := reps_cons.mp rs
   rw [reps_nil.mp h3]
   obtain ⟨a, ys, rfl, s1, s2⟩ := rep_list.mp h2
   exact ⟨a, ys, rfl, .inl ((zm _ _).seq s1), k (.int ds.length) _ H (.refl fo) (rep_int.mpr (by rw [s2.length])) p⟩
  ·refine q _ vs H' g r ⟨_, rfl, fun vs H Q fo rs k => ?_⟩
   obtain ⟨x, r, rfl, h2, h3⟩ := reps_cons.mp rs
   rw [reps_nil.mp h3]
   obtain ⟨a, ys, rfl, s1, s2⟩ := rep_tuple.mp h2
   exact ⟨a, ys, rfl, .inr ((zm _ _).seqT s1), k (.int ds.length) _ H (.refl fo) (rep_int.mpr (by rw [s2.length])) p⟩
theorem agM {t : TA} (h : PAd K f t ρ fun xs => ∃ ns : List Int, xs = [.dat (.list (ns.map .int))] /\ ns ≠ [] /\ ∀ M, M ∈ ns -> (∀ b ∈ ns, M <= b) -> P (.int M)) :
  PEd K f (tCB (fun xs H Q => ∃ a ns, xs = [.ref a] /\ SqL K H a (ns.map V.int) /\ ns ≠ [] /\ ∀ M, M ∈ ns -> (∀ b ∈ ns, M <= b) -> Q (.int M) H) t) ρ P :=
 adM fun σ H Q e q => h σ H Q e fun xs vs H' g r ⟨ns, ex, hne, p⟩ => by
  subst ex
  refine q _ vs H' g r ⟨_, rfl, fun vs H Q fo rs k => ?_⟩
  obtain ⟨x, r, rfl, h2, h3⟩ := reps_cons.mp rs
  rw [reps_nil.mp h3]
  obtain ⟨a, ys, rfl, s1, s2⟩ := rep_list.mp h2
  rw [s2.ints] at s1
  exact ⟨a, ns, rfl, (zm _ _).seq s1, hne, fun M h1 h2 => k (.int M) _ H (.refl fo) (rep_int.mpr rfl) (p M h1 h2)⟩
theorem agN {t : TA} (h : PAd K f t ρ fun xs => ∃ ns : List Int, xs = [.dat (.list (ns.map .int))] /\ ns ≠ [] /\ ∀ M, M ∈ ns -> (∀ b ∈ ns, b <= M) -> P (.int M)) :
  PEd K f (tCB (fun xs H Q => ∃ a ns, xs = [.ref a] /\ SqL K H a (ns.map V.int) /\ ns ≠ [] /\ ∀ M, M ∈ ns -> (∀ b ∈ ns, b <= M) -> Q (.int M) H) t) ρ P :=
 adM fun σ H Q e q => h σ H Q e fun xs vs H' g r ⟨ns, ex, hne, p⟩ => by
  subst ex
  refine q _ vs H' g r ⟨_, rfl, fun vs H Q fo rs k => ?_⟩
  obtain ⟨x, r, rfl, h2, h3⟩ := reps_cons.mp rs
  rw [reps_nil.mp h3]
  obtain ⟨a, ys, rfl, s1, s2⟩ := rep_list.mp h2
  rw [s2.ints] at s1
  exact ⟨a, ns, rfl, (zm _ _).seq s1, hne, fun M h1 h2 => k (.int M) _ H (.refl fo) (rep_int.mpr rfl) (p M h1 h2)⟩
theorem agO {g : Int -> Int -> Int} {t : TA} (h : PAd K f t ρ fun xs => ∃ i j, xs = [.dat (.int i), .dat (.int j)] /\ P (.int (g i j))) : PEd K f (tCB (fun xs H Q => ∃ i j, xs = [.int i, .int j] /\ Q (.int (g i j)) H) t) ρ P :=
 adM fun σ H Q e q => h σ H Q e fun xs vs H' g' r ⟨i, j, ex, p⟩ => by
  subst ex
  refine q _ vs H' g' r ⟨_, rfl, fun vs H Q fo rs k => ?_⟩
  obtain ⟨x, r, rfl, h2, h3⟩ := reps_cons.mp rs
  obtain ⟨y, r', rfl, h4, h5⟩ := reps_cons.mp h3
  rw [reps_nil.mp h5, rep_int.mp h2, rep_int.mp h4]
  exact ⟨i, j, rfl, k _ _ H (.refl fo) (rep_int.mpr rfl) p⟩
theorem agP {g : Int -> Int} {t : TA} (h : PAd K f t ρ fun xs => ∃ i, xs = [.dat (.int i)] /\ P (.int (g i))) : PEd K f (tCB (fun xs H Q => ∃ i, xs = [.int i] /\ Q (.int (g i)) H) t) ρ P :=
 adM fun σ H Q e q => h σ H Q e fun xs vs H' g' r ⟨i, ex, p⟩ => by
  subst ex
  refine q _ vs H' g' r ⟨_, rfl, fun vs H Q fo rs k => ?_⟩
  obtain ⟨x, r, rfl, h2, h3⟩ := reps_cons.mp rs
  rw [reps_nil.mp h3, rep_int.mp h2]
  exact ⟨i, rfl, k _ _ H (.refl fo) (rep_int.mpr rfl) p⟩
theorem acF {t : TA} (h : PAd K f t ρ fun xs => (∃ ds, xs = [.dat (.list ds)] /\ P (.list ds)) \/ (∃ ds, xs = [.dat (.tuple ds)] /\ P (.list ds))) :
  PEd K f (tCB (fun xs H Q => ∃ p ys, xs = [.ref p] /\ (SqL K H p ys \/ SqT K H p ys) /\ ∀ l, H l = none -> Q (.ref l) (upd H l (.lst ys))) t) ρ P :=
 adM fun σ H Q e q => h σ H Q e fun xs vs H' g r p => by
  rcases p with ⟨ds, rfl, p⟩ | ⟨ds, rfl, p⟩
  ·refine q _ vs H' g r ⟨_, rfl, fun vs H Q fo rs k => ?_⟩
   obtain ⟨x, r, rfl, h2, h3⟩ := reps_cons.mp rs
   rw [reps_nil.mp h3]
   obtain ⟨a, ys, rfl, s1, s2⟩ := rep_list.mp h2
   refine ⟨a, ys, rfl, .inl ((zm _ _).seq s1), fun l hn => ?_⟩
   have g2 : Goes f H (upd H l (.lst ys)) := .of_same (yd hn _) fo
   exact k (.list ds) _ _ g2 (rep_list.mpr ⟨l, ys, rfl, .of (zC (fresh_ne fo hn) zE), Reps.mono g2.1 ds ys s2⟩) p
  ·refine q _ vs H' g r ⟨_, rfl, fun vs H Q fo rs k => ?_⟩
   obtain ⟨x, r, rfl, h2, h3⟩ := reps_cons.mp rs
   rw [reps_nil.mp h3]
   obtain ⟨a, ys, rfl, s1, s2⟩ := rep_tuple.mp h2
   refine ⟨a, ys, rfl, .inr ((zm _ _).seqT s1), fun l hn => ?_⟩
   have g2 : Goes f H (upd H l (.lst ys)) := .of_same (yd hn _) fo
   exact k (.list ds) _ _ g2 (rep_list.mpr ⟨l, ys, rfl, .of (zC (fresh_ne fo hn) zE), Reps.mono g2.1 ds ys s2⟩) p
end
section
variable {K : alE} {f : Fx} {ρ : zq} {D : DEnds} {te ta tb : TE} {tt : TT} {ts tu : TS}
theorem jZ (p : D.nx ρ) : PSd K f ael ρ D := fun σ H E e n _ _ _ => n ρ σ H (.refl e.fd) e p
theorem zQ (h : PSd K f ts ρ { D with nx := fun ρ' => PSd K f tu ρ' D }) : PSd K f (vT ts tu) ρ D := fun σ H E e n r b c =>
 h σ H { E with nx := tu E } e (fun ρ' σ' H' g e' p => p σ' H' E e' (fun ρ'' σ'' H'' g' e'' p' => n ρ'' σ'' H'' (g.trans g') e'' p') (fun d v H'' g' r' p' => r d v H'' (g.trans g') r' p') (fun ρ'' σ'' H'' g' e'' p' => b ρ'' σ'' H'' (g.trans g') e'' p') (fun ρ'' σ'' H'' g' e'' p' => c ρ'' σ'' H'' (g.trans g') e'' p')) r b c
theorem yy (h : PEd K f te ρ D.rt) : PSd K f (afq te) ρ D := fun σ H E e n r b c => h σ H _ e r
theorem vw (h : PEd K f te ρ fun _ => D.nx ρ) : PSd K f (aem te) ρ D := fun σ H E e n r b c => h σ H _ e fun d v H' g _ p => n ρ σ H' g (e.mono g) p
theorem aaS (h : PTd K f tt ρ fun b => if b = true then PSd K f ts ρ D else PSd K f tu ρ D) : PSd K f (afr tt ts tu) ρ D := fun σ H E e n r b c => h σ H _ e fun k H1 g p => by
 cases k with
 | true =>
  rw [if_pos rfl] at p ⊢
  exact p σ H1 E (e.mono g) (fun ρ'' σ'' H'' g' e'' p' => n ρ'' σ'' H'' (g.trans g') e'' p') (fun d v H'' g' r' p' => r d v H'' (g.trans g') r' p') (fun ρ'' σ'' H'' g' e'' p' => b ρ'' σ'' H'' (g.trans g') e'' p') (fun ρ'' σ'' H'' g' e'' p' => c ρ'' σ'' H'' (g.trans g') e'' p')
 | false =>
  rw [if_neg alC] at p ⊢
  exact p σ H1 E (e.mono g) (fun ρ'' σ'' H'' g' e'' p' => n ρ'' σ'' H'' (g.trans g') e'' p') (fun d v H'' g' r' p' => r d v H'' (g.trans g') r' p') (fun ρ'' σ'' H'' g' e'' p' => b ρ'' σ'' H'' (g.trans g') e'' p') (fun ρ'' σ'' H'' g' e'' p' => c ρ'' σ'' H'' (g.trans g') e'' p')
def PGd (K : alE) (f : Fx) (g : TG) (d : PyData) (ρ : zq) (R : zq -> Prop) : Prop := ∀ (σ : St) (H : Hp) (v : V) (Q : St -> Hp -> Prop), EnvOk K f ρ σ H -> Rep K (hide H f) d v -> (∀ ρ' σ' H', Goes f H H' -> EnvOk K f ρ' σ' H' -> R ρ' -> Q σ' H') -> g v σ H Q
def agQ (K : alE) (f : Fx) (g : TGs) (ds : List PyData) (ρ : zq) (R : zq -> Prop) : Prop := ∀ (σ : St) (H : Hp) (vs : List V) (Q : St -> Hp -> Prop), EnvOk K f ρ σ H -> Reps K (hide H f) ds vs -> (∀ ρ' σ' H', Goes f H H' -> EnvOk K f ρ' σ' H' -> R ρ' -> Q σ' H') -> g vs σ H Q
theorem zj {i : Nat} {d : PyData} {R : zq -> Prop} (h : R (ρ.set i (some (.dat d)))) : PGd K f (yP i) d ρ R := fun σ H v Q e r q => q _ _ H (.refl e.fd) (e.set i (x := .dat d) r) h
theorem zZ {R : zq -> Prop} (h : R ρ) : agQ K f ah7 [] ρ R := fun σ H vs Q e r q => ⟨reps_nil.mp r, q ρ σ H (.refl e.fd) e h⟩
theorem zr {g : TG} {gs : TGs} {d : PyData} {ds : List PyData} {R : zq -> Prop} (h : PGd K f g d ρ fun ρ' => agQ K f gs ds ρ' R) : agQ K f (aah g gs) (d :: ds) ρ R := fun σ H vs Q e r q => by
 obtain ⟨x, r', rfl, h2, h3⟩ := reps_cons.mp r
 exact ⟨x, r', rfl, h σ H x _ e h2 fun ρ' σ' H' g' e' p => p σ' H' r' Q e' (Reps.mono g'.1 ds r' h3) fun ρ'' σ'' H'' g'' e'' p' => q ρ'' σ'' H'' (g'.trans g'') e'' p'⟩
theorem yE {n : Nat} {gs : TGs} {ds : List PyData} {R : zq -> Prop} (hn : ds.length = n) (h : agQ K f gs ds ρ R) : PGd K f (agu K n gs) (.tuple ds) ρ R := fun σ H v Q e r q => by
 obtain ⟨a, xs, rfl, h1, h2⟩ := rep_tuple.mp r
 exact ⟨a, xs, rfl, (zm _ _).seqT h1, by rw [h2.length]; exact hn, h σ H xs Q e h2 q⟩
theorem zJ {g : TG} (h : PEd K f te ρ fun d => PGd K f g d ρ D.nx) : PSd K f (qx te g) ρ D := fun σ H E e n r b c =>
 h σ H _ e fun d v H1 g1 r1 p1 => p1 σ H1 v _ (e.mono g1) r1 fun ρ' σ' H' g' e' p' => n ρ' σ' H' (g1.trans g') e' p'
end
section
variable {K : alE} {f : Fx} {ρ : zq} {D : DEnds} {te ta tb : TE} {tt : TT} {ts tu : TS} {g : TG}
theorem adP {t : TA} (h : PAd K f t ρ fun xs => ∃ ds, xs = [.dat (.list ds)] /\ ∃ J : Nat -> zq -> Prop, J 0 ρ /\
   (∀ (i : Nat) d ρ', ds[i]? = some d -> J i ρ' -> PGd K f g (.tuple [.int i, d]) ρ' fun ρ2 => PSd K f ts ρ2 { D with nx := J (i + 1), ct := J (i + 1), bk := D.nx }) /\ ∀ ρ', J ds.length ρ' -> D.nx ρ') :
  PSd K f (ah9 (agH K t) g ts) ρ D := fun σ H E e n r b c => h σ H _ e fun xs vs H1 g1 r1 ⟨ds, ex, J, j0, js, jd⟩ => by
 subst ex
 cases r1 with
 | cons rx r' =>
  cases r'
  obtain ⟨a, xs, rfl, h1, h2⟩ := rep_list.mp rx
  have hl := h2.length
  refine ⟨a, rfl, ⟨xs, (zm _ _).seq h1⟩, agI (K := K) (a := a) (xs := xs) (fun i σ' H' => ∃ ρ', EnvOk K f ρ' σ' H' /\ Goes f H H' /\ Goes f H1 H' /\ J i ρ') ⟨ρ, e.mono g1, g1, .refl g1.2, j0⟩ (fun i σ' H' _ ⟨ρ', e', g', g1', p⟩ => (zm _ _).seq (g1'.1.seq h1)) (fun i y σ' H' tp hy ⟨ρ', e', g', g1', p⟩ hn => ?_) fun σ' H' ⟨ρ', e', g', _, p⟩ => n ρ' σ' H' g' e' (jd ρ' (by rw [<- hl]; exact p))⟩
  have hi : i < ds.length := by rw [<- hl]; exact (alG.mp hy).1
  obtain ⟨z, hz, rz⟩ := h2.get (alB hi)
  rw [hy] at hz
  cases hz
  have gn : Goes f H' (upd H' tp (.tup [.int i, y])) := .of_same (yd hn _) e'.fd
  have rt : Rep K (hide (upd H' tp (.tup [.int i, y])) f) (.tuple [.int i, ds[i]]) (.ref tp) := rep_tuple.mpr ⟨tp, _, rfl, .of (zC (fresh_ne e'.fd hn) zE), .cons' (rep_int.mpr rfl) (.cons' (Rep.mono gn.1 _ _ (Rep.mono g1'.1 _ _ rz)) .nil')⟩
  refine js i _ ρ' (alB hi) p σ' _ _ _ (e'.mono gn) rt fun ρ2 σ2 H2 g2' e2 p2 => ?_
  have g2 := gn.trans g2'
  exact p2 σ2 H2 _ e2 (fun ρ3 σ3 H3 g3 e3 p3 => ⟨ρ3, e3, g'.trans (g2.trans g3), g1'.trans (g2.trans g3), p3⟩) (fun d v H3 g3 r3 p3 => r d v H3 (g'.trans (g2.trans g3)) r3 p3) (fun ρ3 σ3 H3 g3 e3 p3 => n ρ3 σ3 H3 (g'.trans (g2.trans g3)) e3 p3) (fun ρ3 σ3 H3 g3 e3 p3 => ⟨ρ3, e3, g'.trans (g2.trans g3), g1'.trans (g2.trans g3), p3⟩)
end
def frD (fr : List Nat) (ρ : zq) : zq := fr.map fun j => (ρ[j]?).getD none
def vx (own : Nat) (fr : List Nat) (ρ : zq) : zq := anf own none ++ frD fr ρ
abbrev Fx.with (f : Fx) (D : Addr) : Fx := ⟨f.f, D :: f.M⟩
section
variable {K : alE} {f : Fx} {ρ : zq} {σ : St} {H H' : Hp} {D : Addr} {o : HO}
theorem afG {own : Nat} {fr : List Nat} (e : EnvOk K f ρ σ H) : EnvOk K f (vx own fr ρ) (yT own fr σ) H := by
 refine ⟨by unfold vx yT frD; simp, fun i x h => ?_, e.fd⟩
 unfold vx frD at h
 unfold yT
 by_cases hi : i < own
 ·rw [alP (by simpa using hi), ang] at h
  split at h <;> cases h
 ·rw [alU (by simpa using hi)] at h ⊢
  simp only [aod, alJ] at h ⊢
  cases hj : fr[i - own]? with
  | none => rw [hj] at h; cases h
  | some j =>
   rw [hj] at h
   have h' : (ρ[j]?).getD none = some x := Option.some.inj h
   have hρ : ρ[j]? = some (some x) := by
    cases q : ρ[j]? with
    | none => rw [q] at h'; cases h'
    | some w => rw [q] at h'; exact congrArg some h'
   obtain ⟨v, h1, h2⟩ := e.get j x hρ
   exact ⟨v, by simp [h1], h2⟩
theorem yz : hide (upd H D o) (f.with D) = hide H (f.with D) := by
 funext b
 unfold hide
 by_cases hb : f.f = some b \/ b ∈ D :: f.M
 ·rw [if_pos hb, if_pos hb]
 ·rw [if_neg hb, if_neg hb]
  have : b ≠ D := fun z => hb (.inr (z ▸ alL))
  exact zz this
theorem ql : Same (hide H (f.with D)) (hide H f) := fun b o h => by
 obtain ⟨h1, h2⟩ := zM h
 exact zC (fun z => h1 (z.elim .inl fun z => .inr (alH _ z))) h2
theorem qT (hn : H D = none) : Same (hide H f) (hide (upd H D o) (f.with D)) := fun b u h => by
 obtain ⟨h1, h2⟩ := zM h
 have hb : b ≠ D := zK h2 hn
 exact zC (fun z => z.elim (fun z => h1 (.inl z)) fun z => (alO.mp z).elim hb fun z => h1 (.inr z)) (by rw [zz hb]; exact h2)
theorem aka (h : FOk f H) (hn : H D = none) : FOk (f.with D) (upd H D o) :=
 ⟨fun p e => let ⟨a, b, h1, h2⟩ := h.fd p e; ⟨a, b, by rw [zz (zK h1 hn)]; exact h1, h2⟩, fun b hb => by
  rcases alO.mp hb with rfl | hb
  ·exact ⟨_, zE⟩
  ·obtain ⟨o', h1⟩ := h.mm b hb
   exact ⟨o', by rw [zz (zK h1 hn)]; exact h1⟩, fun p e hp => by
  rcases alO.mp hp with rfl | hp
  ·exact fresh_ne h hn (.inl e)
  ·exact h.nm p e hp⟩
theorem akb (e : EnvOk K f ρ σ H) (hn : H D = none) : EnvOk K (f.with D) ρ σ (upd H D o) :=
 ⟨e.len, fun i x h => let ⟨v, h1, h2⟩ := e.get i x h; ⟨v, h1, by
  cases x with
  | dat d => exact Rep.mono (qT hn) d v h2
  | feed => exact h2
  | own k =>
   obtain ⟨p, h3, h4⟩ := h2
   refine ⟨p, ?_, h4⟩
   show (D :: f.M).reverse[k]? = some p
   rw [aoN, alP (alG.mp h3).1]
   exact h3
  | exc C =>
   obtain ⟨a, h3, h4⟩ := h2
   exact ⟨a, h3, qT hn _ _ h4⟩
  | mon φ => exact fun H' s => h2 H' ((qT hn).trans s)⟩, aka e.fd hn⟩
theorem aik (hD : f.f ≠ some D) (e : EnvOk K (f.with D) ρ σ H) : EnvOk K (f.with D) ρ σ (upd H D o) :=
 ⟨e.len, fun i x h => let ⟨v, h1, h2⟩ := e.get i x h; ⟨v, h1, by
  cases x with
  | dat d =>
   have h2' : Rep K (hide H (f.with D)) d v := h2
   show Rep K (hide (upd H D o) (f.with D)) d v
   rw [yz]; exact h2'
  | feed => exact h2
  | own k => exact h2
  | exc C =>
   obtain ⟨a, h3, h4⟩ := h2
   refine ⟨a, h3, ?_⟩
   rw [yz]
   exact h4
  | mon φ =>
   intro H' s
   rw [yz] at s
   exact h2 H' s⟩, ⟨fun p ep => let ⟨a, b, h1, h2⟩ := e.fd.fd p ep; ⟨a, b, by rw [zz (fun z => hD (by rw [<- z]; exact ep))]; exact h1, h2⟩, fun b hb => by
   by_cases hb' : b = D
   ·subst hb'; exact ⟨_, zE⟩
   ·rw [zz hb']; exact e.fd.mm b hb, e.fd.nm⟩⟩
end
section
variable {K : alE} {f : Fx} {ρ : zq} {P : PyData -> Prop} {te tl : TE} {tt : TT} {g : TG} {own : Nat} {fr : List Nat}
structure CSt (K : alE) (f : Fx) (D : Addr) (H2 : Hp) (ρ' : zq) (es : List PyData) (σ : St) (H : Hp) : Prop where
 env : EnvOk K (f.with D) ρ' σ H
 sm : Same (hide H2 (f.with D)) (hide H (f.with D))
 kp : ∀ b ∈ f.M, H b = H2 b
 lst : ∃ vs, H D = some (.lst vs) /\ Reps K (hide H (f.with D)) es vs
theorem CSt.go {D : Addr} {H2 H H' : Hp} {ρ' : zq} {es : List PyData} {σ : St} (c : CSt K f D H2 ρ' es σ H) (gg : Goes (f.with D) H H') {ρ2 : zq} {σ2 : St} (e2 : EnvOk K (f.with D) ρ2 σ2 H') : CSt K f D H2 ρ2 es σ2 H' :=
 ⟨e2, c.sm.trans gg.sm, fun b hb => (gg.kp b (alH _ hb)).trans (c.kp b hb), let ⟨vs, h1, h2⟩ := c.lst; ⟨vs, (gg.kp D alL).trans h1, Reps.mono gg.sm es vs h2⟩⟩
theorem CSt.put {D : Addr} {H2 H : Hp} {ρ' : zq} {es : List PyData} {σ : St} {d : PyData} {v : V} {vs : List V} (hD : f.f ≠ some D) (hM : D ∉ f.M) (c : CSt K f D H2 ρ' es σ H) (h1 : H D = some (.lst vs)) (h2 : Reps K (hide H (f.with D)) es vs) (r : Rep K (hide H (f.with D)) d v) :
  CSt K f D H2 ρ' (es ++ [d]) σ (upd H D (.lst (vs ++ [v]))) :=
 ⟨aik hD c.env, by rw [yz]; exact c.sm, fun b hb => (zz (fun (z : b = D) => hM (z ▸ hb))).trans (c.kp b hb), ⟨_, zE, by rw [yz]; exact h2.snoc r⟩⟩
theorem afH {D : Addr} {H2 H : Hp} {ρ' : zq} {es : List PyData} {σ : St} {d : PyData} {v : V} {W : St -> Hp -> Prop} {R : zq -> List PyData -> Prop} (hD : f.f ≠ some D) (hM : D ∉ f.M) (c : CSt K f D H2 ρ' es σ H) (hl : es.length < 1000) (r : Rep K (hide H (f.with D)) d v)
  (h : PGd K (f.with D) g d ρ' fun ρ2 => PTd K (f.with D) tt ρ2 fun b => if b = true then PEd K (f.with D) te ρ2 fun e => R ρ2 (es ++ [e]) else R ρ2 es)
  (hW : ∀ ρ2 es2 σ2 H', CSt K f D H2 ρ2 es2 σ2 H' -> R ρ2 es2 -> W σ2 H') :
  g v σ H fun σ2 H3 => tt σ2 H3 fun b H4 => if b = true then qB D te σ2 H4 W else W σ2 H4 := by
 refine h σ H v _ c.env r fun ρ2 σ2 H3 g3 e3 p3 => ?_
 have c3 := c.go g3 e3
 refine p3 σ2 H3 _ e3 fun b H4 g4 p4 => ?_
 have c4 := c3.go g4 (e3.mono g4)
 cases b with
 | false =>
  rw [if_neg alC] at p4 ⊢
  exact hW _ _ _ _ c4 p4
 | true =>
  rw [if_pos rfl] at p4 ⊢
  refine p4 σ2 H4 _ (e3.mono g4) fun e u H5 g5 r5 p5 => ?_
  have c5 := c4.go g5 ((e3.mono g4).mono g5)
  obtain ⟨vs, h1, h2⟩ := c5.lst
  exact ⟨vs, h1, yl (by rw [h2.length]; omega), hW _ _ _ _ (c5.put hD hM h1 h2 r5) p5⟩
theorem acG {D : Addr} {H1 H : Hp} {ρ' : zq} {es : List PyData} {σ σ' : St} (hn : H1 D = none) (fo : FOk f H1) (c : CSt K f D (upd H1 D (.lst [])) ρ' es σ H) : Goes f H1 H /\ Rep K (hide H f) (.list es) (.ref D) := by
 obtain ⟨vs, h1, h2⟩ := c.lst
 have nD := fresh_ne fo hn
 refine ⟨⟨((qT hn).trans c.sm).trans ql, ⟨c.env.fd.fd, fun b hb => c.env.fd.mm b (alH _ hb), fun p e hp => c.env.fd.nm p e (alH _ hp)⟩, fun b hb => ?_⟩, rep_list.mpr ⟨D, vs, rfl, .of (zC nD h1), Reps.mono ql es vs h2⟩⟩
 rw [c.kp b hb, zz]
 obtain ⟨o, h3⟩ := fo.mm b hb
 exact zK h3 hn
theorem aap {D : Addr} {H1 : Hp} {σ : St} (hn : H1 D = none) (e : EnvOk K f ρ σ H1) : CSt K f D (upd H1 D (.lst [])) (vx own fr ρ) [] (yT own fr σ) (upd H1 D (.lst [])) :=
 ⟨akb (afG e) hn, Same.refl _, fun _ _ => rfl, ⟨[], zE, .nil'⟩⟩
theorem ail {t : TA} (h : PAd K f t ρ fun xs => ∃ j : Int, xs = [.dat (.int j)] /\ j <= 1000 /\ -1000 <= j /\ ∃ R : Nat -> zq -> List PyData -> Prop, R 0 (vx own fr ρ) [] /\
   (∀ D (i : Nat) ρ' es, (i : Int) < j -> R i ρ' es -> PGd K (f.with D) g (.int i) ρ' fun ρ2 => PTd K (f.with D) tt ρ2 fun b => if b = true then PEd K (f.with D) te ρ2 fun e => R (i + 1) ρ2 (es ++ [e]) else R (i + 1) ρ2 es) /\
   (∀ i ρ' es, R i ρ' es -> es.length <= i) /\ ∀ ρ' es, R j.toNat ρ' es -> P (.list es)) :
  PEd K f (jz (aeo t) own fr g tt fun D => qB D te) ρ P := fun σ H Q e q => h σ H _ e fun xs vs H1 g1 r1 ⟨j, ex, b1, b2, R, r0, rs, rl, re⟩ => by
 subst ex
 cases r1 with
 | @cons _ v0 _ _ rx r' =>
  cases r'
  have rx' : Rep K (hide H1 f) (.int j) v0 := rx
  refine ⟨j, by rw [rep_int.mp rx'], by omega, by omega, fun D hn => ?_⟩
  have nD := fresh_ne g1.2 hn
  have hD : f.f ≠ some D := fun z => nD (.inl z)
  have hM : D ∉ f.M := fun z => nD (.inr z)
  have e1 := e.mono g1
  refine ⟨fun i m σ' H' => ∃ ρ' es, CSt K f D (upd H1 D (.lst [])) ρ' es σ' H' /\ R i ρ' es /\ i <= j.toNat /\ m + i = j.toNat, ⟨j.toNat, _, [], aap hn e1, r0, ama _, rfl⟩, fun i m σ' H' ⟨ρ', es, c, p, hi, hm⟩ => ?_⟩
  by_cases hlt : i < j.toNat
  ·refine .inr ⟨hlt, fun x H3 hy => ?_⟩
   obtain ⟨rfl, rfl⟩ := hy
   have hz : (0 : Int) + (i : Int) = (i : Int) := Int.zero_add _
   rw [hz]
   refine afH (R := R (i + 1)) hD hM c (by have := rl i ρ' es p; omega) ((rep_int (K := K)).mpr rfl) (rs D i ρ' es (by omega) p) fun ρ2 es2 σ2 H4 c2 p2 => ?_
   exact ⟨m - 1, by omega, ρ2, es2, c2, p2, by omega, by omega⟩
  ·have ei : i = j.toNat := by omega
   subst ei
   obtain ⟨ge, rep⟩ := acG (σ' := σ') hn g1.2 c
   exact .inl ⟨alI _, q _ _ H' (g1.trans ge) rep (re ρ' es p)⟩
theorem acH {t : TA} (h : PAd K f t ρ fun xs => ∃ j : Int, xs = [.dat (.int j)] /\ j <= 1000 /\ -1000 <= j /\ ∃ R : Nat -> PyData -> Prop,
   (∀ D (i : Nat), (i : Int) < j -> PEd K (f.with D) te (some (.dat (.int i)) :: frD fr ρ) (R i)) /\ ∀ es : List PyData, es.length = j.toNat -> (∀ (i : Nat) e, es[i]? = some e -> R i e) -> P (.list es)) :
  PEd K f (jz (aeo t) 1 fr (yP 0) aih fun D => qB D te) ρ P :=
 ail fun σ H Q e q => h σ H Q e fun xs vs H' g' r' ⟨j, ex, b1, b2, R, rs, re⟩ => by
  refine q xs vs H' g' r' ⟨j, ex, b1, b2, fun i ρ' es => (∃ x, ρ' = x :: frD fr ρ) /\ es.length = i /\ ∀ (k : Nat) e, es[k]? = some e -> R k e, ⟨⟨none, rfl⟩, rfl, fun k e h => by simp at h⟩, fun D i ρ' es hi p => ?_, fun i ρ' es p => anz p.2.1, fun ρ' es p => re es p.2.1 p.2.2⟩
  obtain ⟨⟨x, rfl⟩, hl, hp⟩ := p
  refine zj ?_
  intro σ H Q e q
  refine q true H (.refl e.fd) ?_
  dsimp only
  rw [if_pos rfl]
  refine (rs D i hi).imp fun d hd => ⟨⟨_, rfl⟩, by rw [alR, hl]; rfl, fun k e hk => ?_⟩
  by_cases hkl : k < es.length
  ·rw [alP hkl] at hk; exact hp k e hk
  ·rw [alU (by omega)] at hk
   have hk0 : k - es.length = 0 := by
    have := (alG.mp hk).1
    simp at this; omega
   rw [hk0] at hk
   cases hk
   have : k = i := by omega
   subst this
   exact hd
end
section
variable {K : alE} {f : Fx} {ρ : zq} {D : DEnds} {te : TE} {i : Nat}
theorem acI {σ : St} {H : Hp} {p : Addr} {a b : Int} (e : EnvOk K f ρ σ H) (ef : f.f = some p) (h0 : 0 <= a) (h1 : 0 <= b) (h2 : b < 2147483647) : Goes f H (upd H p (.lst [.int a, .int b])) :=
 have hM := e.fd.nm p ef
 ⟨fun x o h => by
  obtain ⟨n, hx⟩ := zM h
  exact zC n (by rw [zz (fun z => n (.inl (by rw [z]; exact ef)))]; exact hx),
 ⟨fun q eq => by
   rw [ef] at eq; cases eq
   exact ⟨a, b, zE, h0, h1, h2⟩, fun x hx => by
   by_cases hxp : x = p
   ·subst hxp; exact absurd hx hM
   ·rw [zz hxp]; exact e.fd.mm x hx, e.fd.nm⟩,
fun x hx => zz (fun z => hM (z ▸ hx))⟩
theorem aez (hi : ρ[i]? = some (some .feed)) (h : PEd K f te ρ fun d => ∃ a : Int, d = .int a /\ 0 <= a /\ D.nx ρ) : PSd K f (qx te (acs (yg i) (tC (.int 0)) aam)) ρ D := fun σ H E e n r b c => h σ H _ e fun d v H1 g1 r1 ⟨a, ed, h0, p⟩ => by
 subst ed
 obtain ⟨u, h1, q, ef, eu⟩ := e.get i _ hi
 obtain ⟨a', b', hf, c1, c2, c3⟩ := g1.2.fd q ef
 refine ⟨u, h1, q, _, 0, 0, eu, rfl, hf, rfl, ?_⟩
 rw [rep_int.mp r1]
 have g2 : Goes f H1 (upd H1 q (.lst [.int a, .int b'])) := acI (e.mono g1) ef h0 c2 c3
 exact n ρ σ _ (g1.trans g2) ((e.mono g1).mono g2) p
theorem aeA (hi : ρ[i]? = some (some .feed)) (h : PEd K f te ρ fun d => ∃ a : Int, d = .int a /\ 0 <= a /\ a < 2147483647 /\ D.nx ρ) : PSd K f (qx te (acs (yg i) (tC (.int 1)) aam)) ρ D := fun σ H E e n r b c => h σ H _ e fun d v H1 g1 r1 ⟨a, ed, h0, h0', p⟩ => by
 subst ed
 obtain ⟨u, h1, q, ef, eu⟩ := e.get i _ hi
 obtain ⟨a', b', hf, c1, c2, c3⟩ := g1.2.fd q ef
 refine ⟨u, h1, q, _, 1, 1, eu, rfl, hf, rfl, ?_⟩
 rw [rep_int.mp r1]
 have g2 : Goes f H1 (upd H1 q (.lst [.int a', .int a])) := acI (e.mono g1) ef c1 h0 h0'
 exact n ρ σ _ (g1.trans g2) ((e.mono g1).mono g2) p
end
theorem qU {X : Cx} {x : Str} {i : Int} {t : Tok} {pos : Pos} (hg : Gl X x) (hm : X.mg x = some (.int i t)) (hd : (x == ("__debug__" : Str)) = false := by decide) : PE X (.Name x pos) (tC (.int i)) := ah4 hg hm ⟨t, rfl⟩ hd
def j7 (N : List Str) (xs : List DV) : zq := xs.map some ++ anf (N.length - xs.length) none
theorem qm {K : alE} {f : Fx} {H : Hp} {N : List Str} {xs : List DV} {vs : List V} (r : RepVs K f H xs vs) (fo : FOk f H) : EnvOk K f (j7 N xs) (start N vs) H := by
 have hl := r.length
 refine ⟨by unfold j7 start; simp [hl], fun i x h => ?_, fo⟩
 unfold j7 at h
 unfold start
 have get : ∀ {xs : List DV} {vs : List V} {i : Nat} {x : DV}, RepVs K f H xs vs -> xs[i]? = some x -> ∃ v, vs[i]? = some v /\ RepV K f H x v := by
  intro xs vs i x r
  induction r generalizing i with
  | nil => intro h; simp at h
  | cons r1 r2 ih =>
   intro h
   cases i with
   | zero => simp at h; subst h; exact ⟨_, rfl, r1⟩
   | succ i => simp at h; obtain ⟨v, h1, h2⟩ := ih h; exact ⟨v, by simpa using h1, h2⟩
 by_cases hi : i < xs.length
 ·rw [alP (by simpa using hi), alJ] at h
  cases q : xs[i]? with
  | none => rw [q] at h; cases h
  | some y =>
   rw [q] at h
   cases h
   obtain ⟨v, h1, h2⟩ := get r q
   exact ⟨v, by rw [alP (by simp; omega), alJ, h1]; rfl, h2⟩
 ·rw [alU (by simpa using hi), ang] at h
  split at h <;> cases h
structure Def (K : alE) (mg : Str -> Option Value) (x : Str) (st : Stmt) (ps : List Str) : Prop where
 ex : ∃ (f : Addr) (fd : FuncData), Fun K x x st f fd /\ Binds K fd ps [] /\ mg x = some (.ref f)
structure FnIn (P : Program) (w : World) (K : alE) (mg : Str -> Option Value) (base : Heap) (k : Nat) (x : Str) (ps : List Str) (sp : Sp) : Prop where
 ex : ∃ (f : Addr) (fd : FuncData), FnOk P w K mg base CX0 k f fd ps sp /\ mg x = some (.ref f) /\ amz K (.ref f) = true /\ Binds K fd ps []
section
variable {P : Program} {w : World} {K : alE} {mg : Str -> Option Value} {base : Heap} {j k n : Nat} {x : Str} {st : Stmt} {ps N : List Str} {γ : Type} {pre : γ -> List DV -> Prop} {post : γ -> PyData -> Prop} {sp : Sp}
theorem FnIn.mono (h : FnIn P w K mg base j x ps sp) (hk : j <= k) : FnIn P w K mg base k x ps sp :=
 let ⟨f, fd, a, b, c, d⟩ := h.ex; ⟨f, fd, a.mono hk, b, c, d⟩
theorem Def.ok (F : Def K mg x st ps) (S : FnScope N ps (zk st)) (hn : ps.length = n)
  (h : ∀ (fa : Addr) (cdv : Value) (A : Around) (outer : List Env) (s : Shared) (H : Hp) (E : XK), Room k (A.deeper (envOfC x (zk st) s.heap.objs.size fa cdv)) ->
   ∃ t, PSs (zW CX0 P w K mg base N x (zk st) fa cdv A outer s H E).nox (yG st) t /\ ∀ (f : Fx) (xs : List DV) (c : γ), xs.length = n -> pre c xs -> PSd K f t (j7 N xs) { nx := fun _ => post c .none, rt := post c }) :
  FnIn P w K mg base (k + 1) x ps (spD K n pre post) := by
 obtain ⟨fa, fd, F1, F2, F3⟩ := F.ex
 refine ⟨fa, fd, F1.ok S (fun vs H Q E h => ?_) (fun cdv A outer s H vs Q E hr hs => ?_), F3, F1.kp, F2⟩
 ·obtain ⟨f, xs, c, r, hl, _⟩ := h
  rw [r.length, hl, hn]
 ·obtain ⟨f, xs, c, r, hl, fo, hp, q⟩ := hs
  obtain ⟨t, h1, h2⟩ := h fa cdv A outer s H E hr
  exact ⟨t, h1, h2 f xs c hl hp (start N vs) H _ (qm r fo) (fun _ _ H' g _ p => q .none _ H' g (rep_none.mpr rfl) p) (fun d v H' g r p => q d v H' g r p) (fun _ _ _ _ _ z => z.elim) (fun _ _ _ _ _ z => z.elim)⟩
theorem Def.raw (F : Def K mg x st ps) (S : FnScope N ps (zk st)) (len : ∀ vs H Q E, sp vs H Q E -> vs.length = ps.length)
  (h : ∀ (fa : Addr) (cdv : Value) (A : Around) (outer : List Env) (s : Shared) (H : Hp) (vs : List V) (Q : VK) (E : XK), Room k (A.deeper (envOfC x (zk st) s.heap.objs.size fa cdv)) -> sp vs H Q E ->
   ∃ t, PSs (zW CX0 P w K mg base N x (zk st) fa cdv A outer s H E).nox (yG st) t /\ t { nx := fun _ H' => Q .non H', rt := Q } (start N vs) H) :
  FnIn P w K mg base (k + 1) x ps sp := by
 obtain ⟨fa, fd, F1, F2, F3⟩ := F.ex
 exact ⟨fa, fd, F1.ok S len (fun cdv A outer s H vs Q E hr hs => h fa cdv A outer s H vs Q E hr hs), F3, F1.kp, F2⟩
theorem ze {X : Cx} {e : Expr} {es : List Expr} {t : TA} {p pos : Pos} (G : FnIn X.prog X.w X.K X.mg X.base k x ps sp) (hr : Room k X.A) (hg : Gl X x) (ha : PA X (e :: es) t) (hdb : (x == ("__debug__" : Str)) = false := by decide)
  (he : starEach (e :: es) X.env = (false, eval e X.env) :: starEach es X.env := by rfl) (hpl : (backTo pos (starEach es X.env)).any (·.1) = false := by rfl) : PE X (.Call (.Name x p) (e :: es) [] pos) (aa2 sp [] E0 t) := by
 obtain ⟨f, fd, a, b, c, d⟩ := G.ex
 exact aie a hr hg b c d .nil ak1 ha hdb he hpl
end
section
variable {K : alE} {f : Fx} {ρ : zq} {σ : St} {H : Hp} {E : Ends} {ts tu : TS} {D : DEnds}
theorem agR (h : PSd K f ts ρ D) (e : EnvOk K f ρ σ H) (hn : ∀ ρ' σ' H', Goes f H H' -> EnvOk K f ρ' σ' H' -> D.nx ρ' -> tu E σ' H') (hr : ∀ d v H', Goes f H H' -> Rep K (hide H' f) d v -> D.rt d -> E.rt v H') (hb : ∀ ρ, ¬ D.bk ρ) (hc : ∀ ρ, ¬ D.ct ρ) : vT ts tu E σ H :=
 h σ H { E with nx := tu E } e hn hr (fun ρ' _ _ _ _ p => (hb ρ' p).elim) (fun ρ' _ _ _ _ p => (hc ρ' p).elim)
theorem agS {ta : TA} {Q : VK} {R : List PyData -> Prop} (h : PAd K f ta ρ fun xs => ∃ ds, jJ xs = some ds /\ ds.length <= 1000 /\ R ds) (e : EnvOk K f ρ σ H)
  (q : ∀ p ds vs H1, Goes f H H1 -> H1 p = none -> Reps K (hide H1 f) ds vs -> R ds -> Q (.ref p) (upd H1 p (.lst vs))) : agD ta σ H Q :=
 h σ H _ e fun xs vs H1 g1 r1 ⟨ds, ea, hl, p⟩ => by
  have rs := qk r1 ea
  exact ⟨by rw [rs.length]; exact amM (yl hl), fun l hn => q l ds vs H1 g1 hn rs p⟩
end
section
variable {K : alE} {f : Fx} {ρ : zq}
theorem Goes.free {H H' : Hp} {p : Addr} (g : Goes f H H') (fo : FOk f H) (h : H' p = none) : H p = none := by
 cases q : H p with
 | none => rfl
 | some o =>
  by_cases hh : f.f = some p \/ p ∈ f.M
  ·rcases hh with hh | hh
   ·obtain ⟨a, b, h1, _⟩ := g.ok.fd p hh
    rw [h] at h1; cases h1
   ·rw [g.kp p hh, q] at h; cases h
  ·have := zM (g.sm p o (zC hh q))
   rw [h] at this; cases this.2
def PEdL (K : alE) (f : Fx) (te : TE) (ρ : zq) (P : List PyData -> Prop) : Prop := ∀ (σ : St) (H : Hp) (Q : VK), EnvOk K f ρ σ H ->
 (∀ es D vs H', Goes f H H' -> H D = none -> H' D = some (.lst vs) -> Reps K (hide H' f) es vs -> P es -> Q (.ref D) H') -> te σ H Q
theorem PEdL.ped {te : TE} {P : PyData -> Prop} (h : PEdL K f te ρ fun es => P (.list es)) : PEd K f te ρ P := fun σ H Q e q => h σ H Q e fun es D vs H' g n h1 r p =>
 q (.list es) _ H' g (rep_list.mpr ⟨D, vs, rfl, .of (zC (fresh_ne e.fd n) h1), r⟩) p
end
structure TabAt (H : Hp) (a : Addr) (as : List Addr) (rows : List (List Int)) : Prop where
 top : H a = some (.lst (as.map .ref))
 nd : (a :: as).Nodup
 len : as.length = rows.length
 row : ∀ (i : Nat) x r, as[i]? = some x -> rows[i]? = some r -> H x = some (.lst (r.map .int))
def aim (K : alE) : List V -> Hp -> VK -> Prop := fun xs H Q => ∃ x n b, xs = [x, .ty n] /\ ((∃ a ys, x = .ref a /\ SqL K H a ys /\ amH K (.type "list") (.type n) = some b) \/ (∃ a ys, x = .ref a /\ SqT K H a ys /\ amH K (.type "tuple") (.type n) = some b) \/ ∃ t, TyOf K H x t /\ amH K t (.type n) = some b) /\ Q (.bl b) H
theorem agT {X : Cx} : yf X (.builtin "isinstance") (aim X.K) := by
 intro pins s σ H xs us Q I r h
 obtain ⟨x, n, b, rfl, hx, q⟩ := h
 obtain ⟨u, w', rfl, rx, rn⟩ := vals2 r
 cases rn
 rcases hx with ⟨a, ys, rfl, hq, hk⟩ | ⟨a, ys, rfl, hq, hk⟩ | ⟨t, ty, hk⟩
 ·cases rx
  obtain ⟨its, _, p, _⟩ := I.list hq
  obtain ⟨o, ho, hc, _⟩ := p.isList
  exact amo aoM I.kIn ⟨o, ho, hc⟩ hk (fun z => nomatch z) fun tk => ⟨.bl b, H, I.tok tk, rfl, q⟩
 ·cases rx
  obtain ⟨its, _, p, _⟩ := I.tuple hq
  obtain ⟨o, ho, hc, _⟩ := p
  exact amo PySem.W.kitx_tuple I.kIn ⟨o, ho, hc⟩ hk (fun z => nomatch z) fun tk => ⟨.bl b, H, I.tok tk, rfl, q⟩
 ·exact afw I rx ty hk fun tk => ⟨.bl b, H, I.tok tk, rfl, q⟩
section
variable {K : alE} {f : Fx} {ρ : zq} {P : PyData -> Prop} {te ta tb : TE}
theorem ak2 {n : String} {b : Bool} (hk : amH K (.type "list") (.type n) = some b) (h : PEd K f te ρ fun d => ∃ ds, d = .list ds /\ P (.bool b)) : PEd K f (tCB (aim K) (yc te (yc (tC (.ty n)) jX))) ρ P := fun σ H Q e q => h σ H _ e fun d v H1 g r ⟨ds, ed, p⟩ => by
 subst ed
 obtain ⟨a, xs, rfl, s1, _⟩ := rep_list.mp r
 exact ⟨_, n, b, rfl, .inl ⟨a, xs, rfl, (zm _ _).seq s1, hk⟩, q _ _ H1 g (rep_bool.mpr rfl) p⟩
end
section
variable {X : Cx} {K : alE}
theorem zx (hK : X.K = K) : IxR X (afy K) := hK ▸ aif
theorem qo (hK : X.K = K) : IxR X (aj0 K) := hK ▸ aj1
theorem ym (hK : X.K = K) : yf X (.builtin "len") (fun xs H Q => ∃ p ys, xs = [.ref p] /\ (SqL K H p ys \/ SqT K H p ys) /\ Q (.int ys.length) H) := hK ▸ abF
theorem aaq (hK : X.K = K) : yf X (.type "list") (fun xs H Q => ∃ p ys, xs = [.ref p] /\ (SqL K H p ys \/ SqT K H p ys) /\ ∀ l, H l = none -> Q (.ref l) (upd H l (.lst ys))) := hK ▸ abG
theorem j8 (hK : X.K = K) : yf X (.type "tuple") (fun xs H Q => ∃ p ys, xs = [.ref p] /\ ((SqL K H p ys /\ ∀ l, H l = none -> Q (.ref l) (upd H l (.tup ys))) \/ (SqT K H p ys /\ Q (.ref p) H))) := hK ▸ aaP
theorem afI (hK : X.K = K) (hc : X.calm = true) : yf X (.builtin "min") (fun xs H Q => ∃ a ns, xs = [.ref a] /\ SqL K H a (ns.map V.int) /\ ns ≠ [] /\ ∀ M, M ∈ ns -> (∀ b ∈ ns, M <= b) -> Q (.int M) H) := hK ▸ afD hc
theorem afJ (hK : X.K = K) (hc : X.calm = true) : yf X (.builtin "max") (fun xs H Q => ∃ a ns, xs = [.ref a] /\ SqL K H a (ns.map V.int) /\ ns ≠ [] /\ ∀ M, M ∈ ns -> (∀ b ∈ ns, b <= M) -> Q (.int M) H) := hK ▸ afE hc
theorem aar (hK : X.K = K) (hu : X.A.units + 64 < cLine) : OpR X (compareOp .Eq) (afC K false) := hK ▸ aj5 hu
theorem j9 (hK : X.K = K) (hu : X.A.units + 64 < cLine) : OpR X (compareOp .NotEq) (afC K true) := hK ▸ aj6 hu
theorem vy (hK : X.K = K) : yf X (.builtin "isinstance") (aim K) := hK ▸ agT
variable {tg l e st : Expr} {tl te ts : TE} {ta : TA} {p pos p2 : Pos}
theorem zO (hK : X.K = K) (hl : PE X l tl) : PI X tg l (aen K tl) := hK ▸ ah8 hl
theorem qV (hK : X.K = K) (hl : PE X l tl) : PI X tg l (ajS K tl) := hK ▸ ajT hl
theorem agU {es : List Expr} {k : Nat} {tpos : Pos} (hK : X.K = K) (hg : Gl X "enumerate") (hm : X.mg "enumerate" = none) (ha : PA X [l] ta) (hs : starEach [l] X.env = [(false, eval l X.env)] := by rfl) : PI X (.Tuple es k tpos) (.Call (.Name "enumerate" p) [l] [] pos) (agH K ta) := hK ▸ aii hg hm ha hs
theorem z3 (hK : X.K = K) (ha : PE X e te) (he : ∀ whole, isTrue e X.env whole = (do let v <- whole; standAt e.pos; holding [v] (truthy v))) : PT X e (aj8 K te) := hK ▸ aj9 ha he
theorem zH {es : List Expr} {k : Nat} {t : TGs} {n : Nat} (hK : X.K = K) (hc : X.calm = true) (h : PGs X es t) (hn : (assignEach es X.env).length = n := by rfl) (hst : (assignEach es X.env).findIdx? (·.1) = none := by rfl) : PG X (.Tuple es k pos) (agu K n t) := hK ▸ ajR hc h hn hst
end
structure ItD (K : alE) (f : Fx) (ds : List PyData) (J : It) (H1 : Hp) : Prop where
 go : ∀ (f' : Fx) (H' : Hp) (i : Nat) d, FOk f' H' -> Same (hide H1 f) (hide H' f') -> ds[i]? = some d -> J.go i H' /\ ∀ x H3, J.yld i H' x H3 -> Goes f' H' H3 /\ Rep K (hide H3 f') d x
 st : ∀ (f' : Fx) (H' : Hp), FOk f' H' -> Same (hide H1 f) (hide H' f') -> J.stop ds.length H'
def PId (K : alE) (f : Fx) (wi : TI) (ρ : zq) (R : List PyData -> Prop) : Prop := ∀ (σ : St) (H : Hp) (C : It -> Hp -> Prop), EnvOk K f ρ σ H ->
 (∀ ds J H1, Goes f H H1 -> ItD K f ds J H1 -> R ds -> C J H1) -> wi σ H C
def qa (n : Nat) : List PyData := (alY n).map fun (i : Nat) => .int (i : Int)
section
variable {K : alE} {f : Fx} {ρ : zq} {R : List PyData -> Prop} {tl : TE} {t : TA}
theorem PId.imp {wi : TI} {R' : List PyData -> Prop} (h : PId K f wi ρ R) (i : ∀ ds, R ds -> R' ds) : PId K f wi ρ R' := fun σ H C e q => h σ H C e fun ds J H1 g it r => q ds J H1 g it (i ds r)
theorem v3 (h : PAd K f t ρ fun xs => ∃ j : Int, xs = [.dat (.int j)] /\ -(2 ^ 62) <= j /\ j < 2 ^ 62 /\ R (qa j.toNat)) : PId K f (aeo t) ρ R := fun σ H C e q => h σ H _ e fun xs vs H1 g1 r1 ⟨j, ex, q1, q2, p⟩ => by
 subst ex
 cases r1 with
 | @cons _ v0 _ _ rx r' =>
  cases r'
  have rx' : Rep K (hide H1 f) (.int j) v0 := rx
  refine ⟨j, by rw [rep_int.mp rx'], q1, q2, q _ _ H1 g1 ⟨fun f' H' i d fo _ hd => ?_, fun f' H' _ _ => ?_⟩ p⟩
  ·unfold qa at hd
   rw [alJ] at hd
   by_cases hi : i < j.toNat
   ·rw [anb hi] at hd
    cases hd
    refine ⟨hi, fun x H3 hy => ?_⟩
    obtain ⟨rfl, rfl⟩ := hy
    exact ⟨.refl fo, rep_int.mpr (by rw [Int.zero_add])⟩
   ·rw [al5 (by rw [amx]; omega)] at hd
    cases hd
  ·show j.toNat <= (qa j.toNat).length
   unfold qa
   rw [alD, amx]
   exact alI _
theorem yi (h : PEd K f tl ρ fun x => ∃ ds, x = .list ds /\ R ds) : PId K f (aen K tl) ρ R := fun σ H C e q => h σ H _ e fun x v H1 g1 r1 ⟨ds, ex, p⟩ => by
 subst ex
 obtain ⟨a, xs, rfl, h1, h2⟩ := rep_list.mp r1
 have hl := h2.length
 refine ⟨a, rfl, ⟨xs, (zm _ _).seq h1⟩, q ds _ H1 g1 ⟨fun f' H' i d fo sm hd => ?_, fun f' H' _ sm => ⟨xs, (zm _ _).seq (sm.seq h1), anz hl⟩⟩ p⟩
 obtain ⟨z, hz, rz⟩ := h2.get hd
 have sq : SqL K H' a xs := (zm _ _).seq (sm.seq h1)
 refine ⟨⟨xs, z, sq, hz⟩, fun x H3 hy => ?_⟩
 obtain ⟨rfl, hy⟩ := hy
 have ez := hy xs sq
 rw [hz] at ez
 cases ez
 exact ⟨.refl fo, Rep.mono sm _ _ rz⟩
theorem acJ (h : PEd K f tl ρ fun x => ∃ ds, x = .tuple ds /\ R ds) : PId K f (ajS K tl) ρ R := fun σ H C e q => h σ H _ e fun x v H1 g1 r1 ⟨ds, ex, p⟩ => by
 subst ex
 obtain ⟨a, xs, rfl, h1, h2⟩ := rep_tuple.mp r1
 have hl := h2.length
 refine ⟨a, rfl, ⟨xs, (zm _ _).seqT h1⟩, q ds _ H1 g1 ⟨fun f' H' i d fo sm hd => ?_, fun f' H' _ sm => ⟨xs, (zm _ _).seqT (sm.seqT h1), anz hl⟩⟩ p⟩
 obtain ⟨z, hz, rz⟩ := h2.get hd
 have sq : SqT K H' a xs := (zm _ _).seqT (sm.seqT h1)
 refine ⟨⟨xs, z, sq, hz⟩, fun x H3 hy => ?_⟩
 obtain ⟨rfl, hy⟩ := hy
 have ez := hy xs sq
 rw [hz] at ez
 cases ez
 exact ⟨.refl fo, Rep.mono sm _ _ rz⟩
end
section
variable {K : alE} {f : Fx} {ρ : zq} {D : DEnds} {wi : TI} {g : TG} {ts : TS}
theorem acK (h : PId K f wi ρ fun ds => ∃ J : Nat -> zq -> Prop, J 0 ρ /\
   (∀ (i : Nat) d ρ', ds[i]? = some d -> J i ρ' -> PGd K f g d ρ' fun ρ2 => PSd K f ts ρ2 { D with nx := J (i + 1), ct := J (i + 1), bk := D.nx }) /\ ∀ ρ', J ds.length ρ' -> D.nx ρ') :
  PSd K f (ah9 wi g ts) ρ D := fun σ H E e n r b c => h σ H _ e fun ds J H1 g1 it ⟨Jv, j0, js, jd⟩ => by
 refine ⟨fun i m σ' H' => ∃ ρ', EnvOk K f ρ' σ' H' /\ Goes f H1 H' /\ Jv i ρ' /\ m + i = ds.length, ⟨ds.length, ρ, e.mono g1, .refl g1.2, j0, rfl⟩, fun i m σ' H' ⟨ρ', e', g', p, hm⟩ => ?_⟩
 by_cases hi : i < ds.length
 ·obtain ⟨hgo, hy⟩ := it.go f H' i _ e'.fd g'.sm (alB hi)
  refine .inr ⟨hgo, fun σ2 H2 => ∃ ρ2, EnvOk K f ρ2 σ2 H2 /\ Goes f H1 H2 /\ Jv (i + 1) ρ2, fun σ2 H2 ⟨ρ2, e2, g2, p2⟩ => ⟨m - 1, by omega, ρ2, e2, g2, p2, by omega⟩, fun x H3 hx => ?_⟩
  obtain ⟨g3, r3⟩ := hy x H3 hx
  refine js i _ ρ' (alB hi) p σ' H3 x _ (e'.mono g3) r3 fun ρ2 σ2 H4 g4 e4 p4 => ?_
  have gg := g'.trans (g3.trans g4)
  exact p4 σ2 H4 _ e4 (fun ρ5 σ5 H5 g5 e5 p5 => ⟨ρ5, e5, gg.trans g5, p5⟩) (fun d v H5 g5 r5 p5 => r d v H5 (g1.trans (gg.trans g5)) r5 p5) (fun ρ5 σ5 H5 g5 e5 p5 => n ρ5 σ5 H5 (g1.trans (gg.trans g5)) e5 p5) (fun ρ5 σ5 H5 g5 e5 p5 => ⟨ρ5, e5, gg.trans g5, p5⟩)
 ·have ei : i = ds.length := by omega
  subst ei
  exact .inl ⟨it.st f H' e'.fd g'.sm, n ρ' σ' H' (g1.trans g') e' (jd ρ' p)⟩
end
section
variable {K : alE} {f : Fx} {ρ : zq} {D : Addr} {wi : TI} {g : TG} {tt : TT} {te : TE}
theorem CSt.self {H2 H : Hp} {es : List PyData} {σ : St} (c : CSt K f D H2 ρ es σ H) : CSt K f D H ρ es σ H := ⟨c.env, Same.refl _, fun _ _ => rfl, c.lst⟩
theorem CSt.trans {H2 H H' : Hp} {es es' : List PyData} {ρ' : zq} {σ σ' : St} (c : CSt K f D H2 ρ es σ H) (d : CSt K f D H ρ' es' σ' H') : CSt K f D H2 ρ' es' σ' H' := ⟨d.env, c.sm.trans d.sm, fun b hb => (d.kp b hb).trans (c.kp b hb), d.lst⟩
def PBd (K : alE) (f : Fx) (D : Addr) (tb : TB) (ρ : zq) (es : List PyData) (R : zq -> List PyData -> Prop) : Prop := f.f ≠ some D -> D ∉ f.M -> ∀ (σ : St) (H H2 : Hp) (W : St -> Hp -> Prop), CSt K f D H2 ρ es σ H ->
 (∀ ρ2 es2 σ2 H', CSt K f D H2 ρ2 es2 σ2 H' -> R ρ2 es2 -> W σ2 H') -> tb σ H W
theorem yC {es : List PyData} {R : zq -> List PyData -> Prop} (hl : es.length < 1000) (h : PEd K (f.with D) te ρ fun e => R ρ (es ++ [e])) : PBd K f D (qB D te) ρ es R := fun hD hM σ H H2 W c q =>
 h σ H _ c.env fun e u H5 g5 r5 p5 => by
  have c5 := c.go g5 (c.env.mono g5)
  obtain ⟨vs, h1, h2⟩ := c5.lst
  exact ⟨vs, h1, yl (by rw [h2.length]; omega), q _ _ _ _ (c5.put hD hM h1 h2 r5) p5⟩
theorem agV {fi : Fx} {Hi H2 H : Hp} {ds es : List PyData} {J : It} {tb : TB} {σ : St} {W : St -> Hp -> Prop} (it : ItD K fi ds J Hi) (hD : f.f ≠ some D) (hM : D ∉ f.M) (c : CSt K f D H2 ρ es σ H) (sm : Same (hide Hi fi) (hide H (f.with D)))
  (Jv : Nat -> zq -> List PyData -> Prop) (j0 : Jv 0 ρ es)
  (js : ∀ (i : Nat) d ρ' es', ds[i]? = some d -> Jv i ρ' es' -> PGd K (f.with D) g d ρ' fun ρ2 => PTd K (f.with D) tt ρ2 fun b => if b = true then PBd K f D tb ρ2 es' (Jv (i + 1)) else Jv (i + 1) ρ2 es')
  (hW : ∀ ρ' es' σ' H', CSt K f D H2 ρ' es' σ' H' -> Jv ds.length ρ' es' -> W σ' H') : acx J g tt tb σ H W := by
 refine ⟨fun i m σ' H' => ∃ ρ' es', CSt K f D H2 ρ' es' σ' H' /\ Same (hide Hi fi) (hide H' (f.with D)) /\ Jv i ρ' es' /\ m + i = ds.length, ⟨ds.length, ρ, es, c, sm, j0, rfl⟩, fun i m σ' H' ⟨ρ', es', c', sm', p, hm⟩ => ?_⟩
 by_cases hi : i < ds.length
 ·obtain ⟨hgo, hy⟩ := it.go (f.with D) H' i _ c'.env.fd sm' (alB hi)
  refine .inr ⟨hgo, fun x H3 hx => ?_⟩
  obtain ⟨g3, r3⟩ := hy x H3 hx
  have c3 := c'.go g3 (c'.env.mono g3)
  refine js i _ ρ' es' (alB hi) p σ' H3 x _ c3.env r3 fun ρ2 σ2 H4 g4 e4 p4 => ?_
  have c4 := c3.go g4 e4
  refine p4 σ2 H4 _ e4 fun b H5 g5 p5 => ?_
  have c5 := c4.go g5 (e4.mono g5)
  have sm5 := ((sm'.trans g3.sm).trans g4.sm).trans g5.sm
  cases b with
  | false =>
   rw [if_neg alC] at p5 ⊢
   exact ⟨m - 1, by omega, ρ2, es', c5, sm5, p5, by omega⟩
  | true =>
   rw [if_pos rfl] at p5 ⊢
   exact p5 hD hM σ2 H5 H5 _ c5.self fun ρ6 es6 σ6 H6 c6 p6 => ⟨m - 1, by omega, ρ6, es6, c5.trans c6, sm5.trans c6.sm, p6, by omega⟩
 ·have ei : i = ds.length := by omega
  subst ei
  exact .inl ⟨it.st (f.with D) H' c'.env.fd sm', hW ρ' es' σ' H' c' p⟩
theorem akc {es : List PyData} {tb : TB} {R : zq -> List PyData -> Prop} (h : PId K (f.with D) wi ρ fun ds => ∃ Jv : Nat -> zq -> List PyData -> Prop, Jv 0 ρ es /\
   (∀ (i : Nat) d ρ' es', ds[i]? = some d -> Jv i ρ' es' -> PGd K (f.with D) g d ρ' fun ρ2 => PTd K (f.with D) tt ρ2 fun b => if b = true then PBd K f D tb ρ2 es' (Jv (i + 1)) else Jv (i + 1) ρ2 es') /\
   ∀ ρ' es', Jv ds.length ρ' es' -> R ρ' es') : PBd K f D (tIn wi g tt tb) ρ es R := fun hD hM σ H H2 W c q =>
 h σ H _ c.env fun ds J H1 g1 it ⟨Jv, j0, js, jd⟩ =>
  agV it hD hM (c.go g1 (c.env.mono g1)) (Same.refl _) Jv j0 js fun ρ' es' σ' H' c' p => q ρ' es' σ' H' c' (jd ρ' es' p)
def PEdO (K : alE) (f : Fx) (te : TE) (ρ : zq) (P : List PyData -> Prop) : Prop := ∀ (σ : St) (H : Hp) (Q : VK), EnvOk K f ρ σ H ->
 (∀ es D vs H', Goes f H H' -> H D = none -> H' D = some (.lst vs) -> Reps K (hide H' (f.with D)) es vs -> P es -> Q (.ref D) H') -> te σ H Q
theorem PEdO.pedl {P : List PyData -> Prop} (h : PEdO K f te ρ P) : PEdL K f te ρ P := fun σ H Q e q => h σ H Q e fun es D vs H' g n h1 r p => q es D vs H' g n h1 (Reps.mono ql es vs r) p
theorem PEdO.ped {P : PyData -> Prop} (h : PEdO K f te ρ fun es => P (.list es)) : PEd K f te ρ P := h.pedl.ped
theorem agW {P : List PyData -> Prop} (h : P []) : PEdO K f (agD jX) ρ P := fun σ H Q e q => ⟨ama _, fun p hn => q [] p [] _ (.of_same (yd hn _) e.fd) hn zE .nil' h⟩
theorem qb {own : Nat} {fr : List Nat} {tb : Addr -> TB} {P : List PyData -> Prop} (h : PId K f wi ρ fun ds => ∃ Jv : Nat -> zq -> List PyData -> Prop, Jv 0 (vx own fr ρ) [] /\
   (∀ D (i : Nat) d ρ' es', ds[i]? = some d -> Jv i ρ' es' -> PGd K (f.with D) g d ρ' fun ρ2 => PTd K (f.with D) tt ρ2 fun b => if b = true then PBd K f D (tb D) ρ2 es' (Jv (i + 1)) else Jv (i + 1) ρ2 es') /\
   ∀ ρ' es', Jv ds.length ρ' es' -> P es') : PEdO K f (jz wi own fr g tt tb) ρ P := fun σ H Q e q =>
 h σ H _ e fun ds J H1 g1 it ⟨Jv, j0, js, jd⟩ D hn => by
  have nD := fresh_ne g1.2 hn
  have hD : f.f ≠ some D := fun z => nD (.inl z)
  have hM : D ∉ f.M := fun z => nD (.inr z)
  refine agV it hD hM (aap hn (e.mono g1)) (qT hn) Jv j0 (js D) fun ρ' es' σ' H' c' p => ?_
  obtain ⟨ge, rep⟩ := acG (σ' := σ') hn g1.2 c'
  obtain ⟨vs, h1, h2⟩ := c'.lst
  exact q es' D vs H' (g1.trans ge) (g1.free e.fd hn) h1 h2 (jd ρ' es' p)
end
section
variable {K : alE} {f : Fx} {ρ : zq} {D : Addr} {wi : TI} {g : TG} {tt : TT} {te : TE}
theorem vz {F : PyData -> List PyData} {ds : List PyData} {i : Nat} {d : PyData} (h : ds[i]? = some d) : (ds.take (i + 1)).flatMap F = (ds.take i).flatMap F ++ F d := by
 rw [amB, h, amw]
 simp
theorem qW {F : PyData -> List PyData} {ds : List PyData} {i : Nat} : ((ds.take i).flatMap F).length <= (ds.flatMap F).length := by
 conv => rhs; rw [<- aof i ds, amw, alR]
 omega
def OwnE (own : Nat) (ρ0 : zq) (ρ' : zq) : Prop := ∃ us : zq, us.length = own /\ ρ' = us ++ ρ0
theorem OwnE.one {ρ0 ρ' : zq} (h : OwnE 1 ρ0 ρ') : ∃ u, ρ' = u :: ρ0 := by
 obtain ⟨us, h1, rfl⟩ := h
 match us, h1 with
 | [u], _ => exact ⟨u, rfl⟩
theorem OwnE.two {ρ0 ρ' : zq} (h : OwnE 2 ρ0 ρ') : ∃ u v, ρ' = u :: v :: ρ0 := by
 obtain ⟨us, h1, rfl⟩ := h
 match us, h1 with
 | [u, v], _ => exact ⟨u, v, rfl⟩
theorem OwnE.mk1 {ρ0 : zq} {u : Option DV} : OwnE 1 ρ0 (u :: ρ0) := ⟨[u], rfl, rfl⟩
theorem OwnE.mk2 {ρ0 : zq} {u v : Option DV} : OwnE 2 ρ0 (u :: v :: ρ0) := ⟨[u, v], rfl, rfl⟩
theorem akd {own : Nat} {fr : List Nat} {tb : Addr -> TB} {P : List PyData -> Prop} (h : PId K f wi ρ fun ds => ∃ F : PyData -> List PyData, (ds.flatMap F).length <= 1000 /\
   (∀ D d ρ' es, d ∈ ds -> OwnE own (frD fr ρ) ρ' -> es.length + (F d).length <= 1000 -> PGd K (f.with D) g d ρ' fun ρ2 => PTd K (f.with D) tt ρ2 fun b => if b = true then PBd K f D (tb D) ρ2 es fun ρ3 es3 => OwnE own (frD fr ρ) ρ3 /\ es3 = es ++ F d else OwnE own (frD fr ρ) ρ2 /\ F d = []) /\
   P (ds.flatMap F)) : PEdO K f (jz wi own fr g tt tb) ρ P :=
 qb (h.imp fun ds ⟨F, hl, hs, hp⟩ => by
  refine ⟨fun i ρ' es => OwnE own (frD fr ρ) ρ' /\ es = (ds.take i).flatMap F, ⟨⟨anf own none, by simp, rfl⟩, by simp⟩, fun D i d ρ' es hd ⟨ho, he⟩ => ?_, fun ρ' es ⟨_, he⟩ => ?_⟩
  ·have hb : es.length + (F d).length <= 1000 := by
    rw [he, <- alR, <- vz hd]
    exact alZ qW hl
   have := hs D d ρ' es (alN hd) ho hb
   intro σ H v Q e r q
   refine this σ H v Q e r fun ρ2 σ2 H2 g2 e2 p2 => q ρ2 σ2 H2 g2 e2 (p2.imp fun b hb2 => ?_)
   cases b with
   | false =>
    rw [if_neg alC] at hb2 ⊢
    exact ⟨hb2.1, by rw [vz hd, hb2.2, amq]; exact he⟩
   | true =>
    rw [if_pos rfl] at hb2 ⊢
    intro h1 h2 σ3 H3 H4 W c k
    exact hb2 h1 h2 σ3 H3 H4 W c fun ρ5 es5 σ5 H5 c5 ⟨o5, p5⟩ => k ρ5 es5 σ5 H5 c5 ⟨o5, by rw [p5, vz hd, he]⟩
  ·rw [he, amg]
   exact hp)
theorem ja {B : Bool -> Prop} (h : B true) : PTd K f aih ρ B := fun σ H Q e q => q true H (.refl e.fd) h
end
structure OEnds where
 nx : zq -> List PyData -> Prop
 rt : PyData -> Prop
 bk : zq -> List PyData -> Prop := fun _ _ => False
 ct : zq -> List PyData -> Prop := fun _ _ => False
section
variable {K : alE} {f : Fx} {ρ : zq} {D : Addr} {wi : TI} {g : TG} {tt : TT} {te : TE} {ts tu : TS} {es : List PyData} {O : OEnds} {i : Nat}
def v5 (n : Nat) : Option DV -> Option DV
 | some (.own k) => if k < n then some (.own k) else none
 | x => x
end
section
variable {K : alE} {f : Fx} {ρ : zq} {P : PyData -> Prop} {te ta tb : TE} {t : TA}
theorem abI (h : PAd K f t ρ fun xs => (∃ ds, xs = [.dat (.list ds)] /\ P (.tuple ds)) \/ (∃ ds, xs = [.dat (.tuple ds)] /\ P (.tuple ds))) :
  PEd K f (tCB (fun xs H Q => ∃ p ys, xs = [.ref p] /\ ((SqL K H p ys /\ ∀ l, H l = none -> Q (.ref l) (upd H l (.tup ys))) \/ (SqT K H p ys /\ Q (.ref p) H))) t) ρ P :=
 adM fun σ H Q e q => h σ H Q e fun xs vs H' g r p => by
  rcases p with ⟨ds, rfl, p⟩ | ⟨ds, rfl, p⟩
  ·refine q _ vs H' g r ⟨_, rfl, fun vs H Q fo rs k => ?_⟩
   obtain ⟨x, r, rfl, h2, h3⟩ := reps_cons.mp rs
   rw [reps_nil.mp h3]
   obtain ⟨a, ys, rfl, s1, s2⟩ := rep_list.mp h2
   refine ⟨a, ys, rfl, .inl ⟨(zm _ _).seq s1, fun l hn => ?_⟩⟩
   have g2 : Goes f H (upd H l (.tup ys)) := .of_same (yd hn _) fo
   exact k (.tuple ds) _ _ g2 (rep_tuple.mpr ⟨l, ys, rfl, .of (zC (fresh_ne fo hn) zE), Reps.mono g2.1 ds ys s2⟩) p
  ·refine q _ vs H' g r ⟨_, rfl, fun vs H Q fo rs k => ?_⟩
   obtain ⟨x, r, rfl, h2, h3⟩ := reps_cons.mp rs
   rw [reps_nil.mp h3]
   obtain ⟨a, ys, rfl, s1, s2⟩ := rep_tuple.mp h2
   exact ⟨a, ys, rfl, .inr ⟨(zm _ _).seqT s1, k (.tuple ds) _ H (.refl fo) (rep_tuple.mpr ⟨a, ys, rfl, s1, s2⟩) p⟩⟩
end
abbrev f0 : Fx := ⟨none, []⟩
theorem fok0 (H : Hp) : FOk f0 H := ⟨(fun p e => by cases e), (fun b hb => by cases hb), (fun p e => by cases e)⟩
theorem ak3 {H H' : Hp} (s : Same H H') : Goes f0 H H' := .of_same s (fok0 H)
theorem same0 {H H' : Hp} (g : Goes f0 H H') : Same H H' := fun b o h => (zM (g.sm b o (by rw [yD]; exact h))).2
def abJ : Option DV -> Option DV
 | some (.dat d) => some (.dat d)
 | _ => none
section
variable {K : alE} {ρ : zq} {te : TE} {tu : TS} {i : Nat}
theorem aas {p : Addr} {σ : St} {H : Hp} (e : EnvOk K ⟨some p, []⟩ ρ σ H) : EnvOk K f0 (ρ.map abJ) σ H := by
 refine ⟨by rw [alD]; exact e.len, fun i x h => ?_, fok0 H⟩
 rw [alJ] at h
 cases eq : ρ[i]? with
 | none => rw [eq] at h; cases h
 | some y =>
  rw [eq] at h
  cases y with
  | none => cases h
  | some y =>
   obtain ⟨v, h1, h2⟩ := e.get i y eq
   cases y with
   | dat d =>
    cases h
    refine ⟨v, h1, ?_⟩
    show Rep K (hide H f0) d v
    rw [yD]
    exact Rep.mono (zm _ _) d v h2
   | feed => cases h
   | own k => cases h
   | exc C => cases h
   | mon φ => cases h
theorem ake {Dn : DEnds} (h : ∀ (σ : St) (H : Hp) (Q : VK), EnvOk K f0 ρ σ H -> (∀ (p : Addr) (x y : Int) (H' : Hp), Same H H' -> H p = none -> H' p = some (.lst [.int x, .int y]) -> 0 <= x -> 0 <= y -> y < 2147483647 -> Q (.ref p) H') -> te σ H Q)
  (hr : ∀ p, PSd K ⟨some p, []⟩ tu (ρ.set i (some .feed)) { nx := fun ρ' => Dn.nx (ρ'.map abJ), rt := Dn.rt, bk := fun ρ' => Dn.bk (ρ'.map abJ), ct := fun ρ' => Dn.ct (ρ'.map abJ) }) :
  PSd K f0 (vT (qx te (yP i)) tu) ρ Dn := fun σ H E e n r b k => h σ H _ e fun p x y H1 sm hn hp x0 y0 y1 => by
 have fo : FOk ⟨some p, []⟩ H1 := ⟨fun p' e => by cases e; exact ⟨x, y, hp, x0, y0, y1⟩, (fun b hb => by cases hb), fun _ _ hb => by cases hb⟩
 have sm0 : Same H (hide H1 ⟨some p, []⟩) := fun b o hb => by
  have nb : b ≠ p := fun e => by rw [e, hn] at hb; cases hb
  refine zC (fun z => ?_) (sm b o hb)
  rcases z with z | z
  ·cases z; exact nb rfl
  ·cases z
 have e1 : EnvOk K ⟨some p, []⟩ ρ σ H1 := by
  refine ⟨e.len, fun j z hz => ?_, fo⟩
  obtain ⟨v, a1, a2⟩ := e.get j z hz
  refine ⟨v, a1, ?_⟩
  cases z with
  | dat d =>
   have a2' : Rep K (hide H f0) d v := a2
   rw [yD] at a2'
   exact Rep.mono sm0 d v a2'
  | feed => obtain ⟨q, hq, _⟩ := a2; cases hq
  | own k => obtain ⟨q, hq, _⟩ := a2; cases hq
  | exc C =>
   obtain ⟨q, h3, h4⟩ := a2
   refine ⟨q, h3, sm0 _ _ ?_⟩
   rw [yD] at h4
   exact h4
  | mon φ =>
   intro H' s
   refine a2 H' (Same.trans ?_ s)
   rw [yD]
   exact sm0
 have gg : ∀ {H' : Hp}, Goes ⟨some p, []⟩ H1 H' -> Goes f0 H H' := fun g => ak3 fun b o hb => zm _ _ b o (g.sm b o (sm0 b o hb))
 refine hr p _ H1 E (e1.set i (x := .feed) ⟨p, rfl, rfl⟩) (fun ρ' σ' H' g' e' p' => n _ σ' H' (gg g') (aas e') p') (fun d v H' g' r' p' => r d v H' (gg g') ?_ p') (fun ρ' σ' H' g' e' p' => b _ σ' H' (gg g') (aas e') p') (fun ρ' σ' H' g' e' p' => k _ σ' H' (gg g') (aas e') p')
 rw [yD]
 exact Rep.mono (zm _ _) d v r'
end
section
variable {X : Cx} {K : alE}
def ak4 (i j : Int) : Prop := 0 < j /\ j < 1152921504606846976
theorem aat : OpR X (binaryOp .FloorDiv) (rI ak4 fun i j => .int (i / j)) := opI fun i j _ _ _ _ _ hc q => by
 obtain ⟨h1, h2⟩ := hc
 rw [<- anu i (Int.le_of_lt h1)] at q
 refine floordiv_int (by omega) q (.inl (aoP ?_))
 have h0 : j.natAbs ≠ 0 := by omega
 have : j.natAbs.log2 < 60 := (apB h0).mpr (by omega)
 omega
end
section
variable {K : alE} {f : Fx} {ρ : zq} {wi : TI} {g : TG} {tt : TT} {own : Nat} {fr : List Nat} {tb : Addr -> TB} {P : List PyData -> Prop}
theorem aau {α : Type} {A B : α -> PyData} (xs : List α) (h : PId K f wi ρ fun ds => ds = xs.map A /\ xs.length <= 1000 /\
   (∀ D x ρ' es, x ∈ xs -> OwnE own (frD fr ρ) ρ' -> es.length < 1000 -> PGd K (f.with D) g (A x) ρ' fun ρ2 => PTd K (f.with D) tt ρ2 fun b => if b = true then PBd K f D (tb D) ρ2 es fun ρ3 es3 => OwnE own (frD fr ρ) ρ3 /\ es3 = es ++ [B x] else False) /\ P (xs.map B)) :
  PEdO K f (jz wi own fr g tt tb) ρ P :=
 qb (h.imp fun ds ⟨ed, hl, hs, hp⟩ => by
  subst ed
  refine ⟨fun i ρ' es => OwnE own (frD fr ρ) ρ' /\ es = (xs.take i).map B, ⟨⟨anf own none, by simp, rfl⟩, by simp⟩, fun D i d ρ' es hd ⟨ho, he⟩ => ?_, fun ρ' es ⟨_, he⟩ => ?_⟩
  ·rw [alJ] at hd
   cases eq : xs[i]? with
   | none => rw [eq] at hd; cases hd
   | some x =>
    rw [eq] at hd
    cases hd
    have hi : i < xs.length := (alG.mp eq).1
    have hb : es.length < 1000 := by
     rw [he, alD, amk]
     omega
    intro σ H v Q e r q
    refine hs D x ρ' es (alN eq) ho hb σ H v Q e r fun ρ2 σ2 H2 g2 e2 p2 => q ρ2 σ2 H2 g2 e2 (p2.imp fun b hb2 => ?_)
    cases b with
    | false =>
     rw [if_neg alC] at hb2
     exact hb2.elim
    | true =>
     rw [if_pos rfl] at hb2 ⊢
     intro h1 h2 σ3 H3 H4 W c k
     exact hb2 h1 h2 σ3 H3 H4 W c fun ρ5 es5 σ5 H5 c5 ⟨o5, p5⟩ => k ρ5 es5 σ5 H5 c5 ⟨o5, by rw [p5, he, amB, eq, al6]; rfl⟩
  ·rw [he, alD, amg]
   exact hp)
end
structure XLie (P : Program) (w : World) (outer : List Env) (H : Hp) (s : Shared) (e : Addr) (C : Value) (H' : Hp) (s' : Shared) : Prop where
 os : s'.os = s.os
 bare : AllBare s'.gens
 un : Un (frs outer) [] H H' s.heap s'.heap
 hok : HOk P w H' s'.heap
 fly : ∃ B a0, Heap.FlyingW B outer e C a0 s'.heap /\ (∀ b o, s.heap.get? b = some o -> b ∉ frs outer -> ∃ o', B.get? b = some o') /\ ∀ b o, H' b = some o -> ∃ o', B.get? b = some o'
 new : s.heap.get? e = none
 free : H' e = none
def CXe (P : Program) (w : World) : CXT := fun outer H s E e s' => ∃ a C H', e = .ref a /\ XLie P w outer H s a C H' s' /\ E C none H'
end L2
end
section
namespace L2
open PySem PySem.Spec PyProof.Rows
end L2
end
section
namespace L2
open PySem PySem.Spec PySem.W PyProof.Rows PySem.Calls PySem.Builtin Builtin Builtin.ObjectAttr Builtin.Getset_descriptor
section
variable {prog : Program} {w : World} {A : Around} {E : Value -> Shared -> Prop} {s : Shared} {K : alE} {a C : Addr}
structure ExcWays (K : alE) (C : Addr) : Prop where
 ga : findIn K (.ref C) "__getattribute__" = some (some (.builtin "BaseException.__getattribute__"))
 gt : findIn K (.ref C) "__getattr__" = some none
 cl : findIn K (.ref C) "__class__" = some (some (.builtin "object.__class__"))
 gs : specialIn K (.builtin "object.__class__") "__get__" = some (some (.builtin "getset_descriptor.__get__"))
 tk : takesIn K (.builtin "object.__class__") = some true
 ob : mroIn K C (.type "object") = some true
 be : mroIn K C (.type "BaseException") = some true
 iz : (clsIn K C).isSome = true
end
structure FnInX (P : Program) (w : World) (K : alE) (mg : Str -> Option Value) (base : Heap) (k : Nat) (x : Str) (ps : List Str) (sp : Sp) : Prop where
 ex : ∃ (f : Addr) (fd : FuncData), FnOk P w K mg base (CXe P w) k f fd ps sp /\ mg x = some (.ref f) /\ amz K (.ref f) = true /\ Binds K fd ps []
end L2
end
section
namespace L2
open PySem PySem.Spec PyProof.Rows
def akf (K : alE) : List V -> Hp -> VK -> Prop := fun xs H Q => ∃ (a : Addr) (bs : List Bool), xs = [.ref a] /\ SqL K H a (bs.map V.bl) /\ Q (.bl (bs.all id)) H
theorem acL : ∀ {bs : List Bool} {us : List Value}, Vals (bs.map V.bl) us -> us = bs.map Value.bool
 | [], us, r => by
  cases r
  rfl
 | b :: bs, us, r => by
  cases r with
  | cons h t =>
   rw [acL t]
   cases (show _ = Value.bool b from h)
   rfl
theorem range_all (bs : List Bool) : (alY bs.length).all (fun i => bs.getD i false) = bs.all id := by
 rw [Bool.eq_iff_iff, aoj, aoj]
 constructor
 ·intro h b hb
  obtain ⟨i, hi, rfl⟩ := List.mem_iff_getElem.mp hb
  have := h i (al8.mpr hi)
  rwa [alF, alB hi] at this
 ·intro h i hi
  have hi' := al8.mp hi
  rw [alF, alB hi']
  exact h _ (al9 hi')
theorem acM (prog : Program) (w : World) (A : Around) (bs : List Bool) : TruthOf prog w A (fun i v => (bs.map Value.bool).toArray[i]? = some v) (fun i => bs.getD i false) := by
 intro i v s Q E hv hq
 rw [List.getElem?_toArray, alJ] at hv
 cases eb : bs[i]? with
 | none => rw [eb] at hv; cases hv
 | some b =>
  rw [eb] at hv
  cases hv
  dsimp only at hq
  rw [alF, eb] at hq
  exact wpAny_pure hq
theorem afK {X : Cx} (hc : X.calm = true) : yf X (.builtin "all") (akf X.K) := by
 intro pins s σ H xs us Q I r h
 obtain ⟨a, bs, rfl, hq, q⟩ := h
 obtain ⟨u, rfl, r1⟩ := vals1 r
 cases r1
 obtain ⟨its, rv, p, _⟩ := I.list hq
 have hl := p.isList
 rw [acL rv] at hl
 have ha : a < s.heap.objs.size := by
  obtain ⟨o, ho, _⟩ := hl
  exact alT ho
 refine call_all_walk (wpAny_pyIter_list hl ?_)
 have hne : a ≠ s.heap.objs.size := amd ha
 refine ⟨s.heap.objs.size, _, _, _, _, _, _, rfl, Walks.list (show (X.A.in1).handled = none from I.ok.hd hc) _ a hne _, ⟨?_, ?_⟩, acM _ _ _ bs, fun h' tk hk => ?_⟩
 ·exact ⟨_, amj _ rfl, rfl, rfl⟩
 ·exact hl.at fun o e => alQ _ e
 ·have kp : ∀ b o, s.heap.get? b = some o -> h'.get? b = some o := fun b o e => hk b o (by
   intro z
   have := alT e
   rw [al7.mp z] at this
   exact amZ _ this) (alQ _ e)
  refine ⟨.bl _, H, I.kept (t' := tk) kp, ?_, q⟩
  show Value.bool _ = Value.bool _
  rw [alW, alD, range_all]
theorem aa9 {X : Cx} {K : alE} (hK : X.K = K) (hc : X.calm = true) : yf X (.builtin "all") (akf K) := hK ▸ afK hc
section
variable {K : alE} {f : Fx} {ρ : zq} {P : PyData -> Prop} {te : TE}
theorem aav {H : Hp} : ∀ {bs : List Bool} {xs : List V}, Reps K H (bs.map .bool) xs -> xs = bs.map V.bl
 | [], xs, r => reps_nil.mp r
 | b :: bs, xs, r => by
  obtain ⟨x, r', rfl, h1, h2⟩ := reps_cons.mp r
  rw [aav h2, rep_bool.mp h1]
  rfl
theorem ajs (h : PEd K f te ρ fun x => ∃ bs : List Bool, x = .list (bs.map .bool) /\ P (.bool (bs.all id))) : PEd K f (tCB (akf K) (yc te jX)) ρ P := fun σ H Q e q => h σ H _ e fun x v H1 g1 r1 ⟨bs, ex, p⟩ => by
 subst ex
 obtain ⟨a, xs, rfl, h1, h2⟩ := rep_list.mp r1
 rw [aav h2] at h1
 exact ⟨a, bs, rfl, (zm _ _).seq h1, q _ _ H1 g1 (rep_bool.mpr rfl) p⟩
end
section
variable {prog : Program} {w : World} {A : Around} {E : Value -> Shared -> Prop}
theorem aba {I : Addr} {fp wr : List Addr} {n : Nat} {P : Nat -> Value -> Prop} {St : Nat -> Heap -> Prop} (W : Walks prog w A I fp wr n P St) : ∀ (k i : Nat) (s : Shared) (Q : List Value -> Shared -> Prop), i + k <= n -> St i s.heap ->
  (∀ vs h' tk, vs.length = k -> (∀ (j : Nat) v, vs[j]? = some v -> P (i + j) v) -> St (i + k) h' -> (∀ b o, b ∉ wr -> s.heap.get? b = some o -> h'.get? b = some o) -> Q vs { s with heap := h', toks := tk }) -> wpAny (model prog w) A (draw (.ref I) k) Q E s
 | 0, i, s, Q, _, st, hQ => wpAny_pure (hQ [] s.heap s.toks rfl (fun j v e => by simp at e) st fun _ _ _ e => e)
 | k + 1, i, s, Q, hle, st, hQ => by
  show wpAny _ _ (pyNext (.ref I) >>= _) Q E s
  refine wpAny_bind (W.item i s _ E (by omega) st fun v h1 tk1 hv st1 k1 => ?_)
  refine wpAny_bind (wpAny_holding (aba W k (i + 1) _ _ (by omega) st1 fun vs h2 tk2 hl hp st2 k2 => wpAny_pure ?_))
  refine hQ (v :: vs) h2 tk2 (by rw [alV, hl]) (fun j u e => ?_) (by rw [show i + (k + 1) = i + 1 + k by omega]; exact st2) fun b o hb e => k2 b o hb (k1 b o hb e)
  cases j with
  | zero => cases e; exact hv
  | succ j =>
   have := hp j u e
   rwa [show i + (j + 1) = i + 1 + j by omega]
theorem adQ {s : Shared} {a : Addr} {items : Array Value} {targets : List (Bool × (Value -> Sem Unit))} {Q : Unit -> Shared -> Prop} (hh : A.handled = none) (hl : s.heap.IsList a items)
  (hn : targets.length = items.size) (hstar : targets.findIdx? (·.1) = none)
  (h : ∀ h' tk, (∀ b o, s.heap.get? b = some o -> h'.get? b = some o) -> wpAny (model prog w) A (assignInOrder (targets.map (·.2)) items.toList) Q E { s with heap := h', toks := tk }) : wpAny (model prog w) A (unpack (.ref a) targets) Q E s := by
 have ha : a < s.heap.objs.size := by
  obtain ⟨o, ho, _⟩ := hl
  exact alT ho
 unfold unpack
 rw [hn, hstar]
 refine wpAny_bind (wpAny_holding ?_)
 unfold unpackItems
 refine wpAny_bind ?_
 unfold notIterableAtAll
 refine wpAny_bind (wpAny_specialOf hl.typeIs slot_list_iter.lookup (wpAny_pure ?_))
 simp only [ami, if_false]
 refine wpAny_bind (wpAny_holding (wpAny_pyIter_list hl ?_))
 have W := Walks.list (prog := prog) (w := w) hh s.heap.objs.size a (amd ha) items
 have fr : ∀ b o, s.heap.get? b = some o -> b ∉ [s.heap.objs.size] := fun b o e z => by
  have := alT e
  rw [al7.mp z] at this
  exact amZ _ this
 refine wpAny_bind (wpAny_holding (aba W items.size 0 _ _ (by omega) ⟨⟨_, amj _ rfl, rfl, rfl⟩, hl.at fun o e => alQ _ e⟩ fun vs h1 tk1 hvl hp st1 k1 => ?_))
 have ev : vs = items.toList := by
  refine anT fun j => ?_
  by_cases hj : j < vs.length
  ·have := hp j _ (alB hj)
   rw [ao2] at this
   rw [alB hj, <- this, apb]
  ·rw [al5 (by omega), al5 (by rw [alS]; omega)]
 subst ev
 rw [if_neg (by simp)]
 rw [ao2] at st1
 refine wpAny_bind (wpAny_holding (W.done _ _ _ st1 fun h2 tk2 k2 => ?_))
 simp only [Option.isSome_none, ami, if_false]
 exact wpAny_pure (h h2 tk2 fun b o e => k2 b o (fr b o e) (k1 b o (fr b o e) (alQ _ e)))
end
def ak5 (K : alE) (n : Nat) (gs : TGs) : TG := fun v σ H Q => ∃ a xs, v = .ref a /\ SqL K H a xs /\ xs.length = n /\ gs xs σ H Q
theorem abK {X : Cx} {K : alE} {es : List Expr} {k : Nat} {t : TGs} {n : Nat} {pos : Pos} (hK : X.K = K) (hc : X.calm = true) (h : PGs X es t)
  (hn : (assignEach es X.env).length = n := by rfl) (hst : (assignEach es X.env).findIdx? (·.1) = none := by rfl) : PG X (.Tuple es k pos) (ak5 K n t) := by
 subst hK
 intro pins s σ H v u Q I r hw
 obtain ⟨a, xs, e1, hq, hl, hw⟩ := hw
 subst e1
 cases r
 obtain ⟨its, rv, p, hz⟩ := I.list hq
 rw [assign_Tuple]
 refine wpAny_bind (wpAny_standAt (adQ (I.ok.hd hc) p.isList (by rw [hn, <- hl, rv.length, alW]) hst fun h' tk kp => ?_))
 exact h pins _ σ H xs _ Q (I.kept (t' := tk) kp) rv hw
section
variable {K : alE} {f : Fx} {ρ : zq}
theorem agX {n : Nat} {gs : TGs} {ds : List PyData} {R : zq -> Prop} (hn : ds.length = n) (h : agQ K f gs ds ρ R) : PGd K f (ak5 K n gs) (.list ds) ρ R := fun σ H v Q e r q => by
 obtain ⟨a, xs, rfl, h1, h2⟩ := rep_list.mp r
 exact ⟨a, xs, rfl, (zm _ _).seq h1, by rw [h2.length]; exact hn, h σ H xs Q e h2 q⟩
end
def akg (K : alE) (neg : Bool) : R2 := fun x y H Q => ∃ d ds, Rep K H d x /\ Rep K H (.list ds) y /\ d.canLay0 = true /\ (∀ e ∈ ds, e.canLay0 = true) /\ d.depth <= 50 /\ Q (.bl (if neg then !ds.any (fun e => al4 e d) else ds.any (fun e => al4 e d))) H
open Classical in
noncomputable def eqR (h : Heap) (d : PyData) (u : Value) : Bool := if z : ∃ e as, Reads h u e as /\ e.canLay0 = true then al4 z.choose d else false
theorem agY {h : Heap} {d e : PyData} {u : Value} {as : List Addr} (r : Reads h u e as) (c : e.canLay0 = true) : eqR h d u = al4 e d := by
 have z : ∃ e as, Reads h u e as /\ e.canLay0 = true := ⟨e, as, r, c⟩
 unfold eqR
 rw [dif_pos z]
 obtain ⟨as', r', c'⟩ := z.choose_spec
 rw [SeqAt.Reads.unique _ _ _ _ _ c' r' r]
section
variable {X : Cx} {pins : List (Addr × Obj)} {σ : St} {H : Hp} {s : Shared}
theorem aeB (I : Inv X pins σ H s) {d : PyData} : ∀ {ds : List PyData} {xs : List V} {us : List Value}, Reps X.K H ds xs -> Vals xs us -> (∀ e ∈ ds, e.canLay0 = true) -> us.any (eqR s.heap d) = ds.any (fun e => al4 e d)
 | [], xs, us, r, v, _ => by
  rw [reps_nil.mp r] at v
  cases v
  rfl
 | e :: ds, xs, us, r, v, c => by
  obtain ⟨x, xs', rfl, h1, h2⟩ := reps_cons.mp r
  cases v with
  | cons r1 r2 =>
   obtain ⟨as, ra⟩ := yH I e x _ h1 r1
   rw [aoO, aoO, agY ra (c e alL), aeB I h2 r2 fun e he => c e (alH _ he)]
theorem acN (I : Inv X pins σ H s) {A : Around} {d : PyData} {v : Value} {bs : List Addr} (rb : Reads s.heap v d bs) (cd : d.canLay0 = true) (dd : d.depth <= 50) (hu : A.units + 60 < cLine) : ∀ {ds : List PyData} {xs : List V} {us : List Value}, Reps X.K H ds xs -> Vals xs us -> (∀ e ∈ ds, e.canLay0 = true) -> ∀ u ∈ us, SeqAt.EqAt A s u v (eqR s.heap d u)
 | [], xs, us, r, w, _ => by
  rw [reps_nil.mp r] at w
  cases w
  intro u hu
  cases hu
 | e :: ds, xs, us, r, w, c => by
  obtain ⟨x, xs', rfl, h1, h2⟩ := reps_cons.mp r
  cases w with
  | cons r1 r2 =>
   intro u hm
   rcases alO.mp hm with rfl | hm
   ·obtain ⟨as, ra⟩ := yH I e x _ h1 r1
    rw [agY ra (c e alL)]
    refine SeqAt.eqAt_reads e d A s _ v as bs ra rb (c e alL) cd ?_
    have := Nat.min_le_right e.depth d.depth
    omega
   ·exact acN I rb cd dd hu h2 r2 (fun e he => c e (alH _ he)) u hm
theorem afL {K : alE} (hK : X.K = K) : OpR X (compareOp .NotIn) (rIn K true) := hK ▸ abE
end
section
variable {K : alE} {f : Fx} {ρ : zq} {P : PyData -> Prop} {te ta tb : TE} {t : TA} {D : DEnds} {i j : Nat}
theorem agZ (h : PEd K f ta ρ fun d => ∃ n : Int, d = .int n /\ PEd K f tb ρ fun y => ∃ ns : List Int, y = .tuple (ns.map .int) /\ P (.bool (!ns.contains n))) : PEd K f (tOp (rIn K true) ta tb) ρ P := fun σ H Q e q =>
 h σ H _ e fun d v H1 g1 r1 ⟨n, ed, p1⟩ => p1 σ H1 _ (e.mono g1) fun y w H2 g2 r2 ⟨ns, ey, p2⟩ => by
  subst ed ey
  obtain ⟨a, xs, rfl, h1, h2⟩ := rep_tuple.mp r2
  have ex := h2.ints
  subst ex
  rw [rep_int.mp r1]
  have e1 : inV (.int n) (ns.map V.int) = ns.contains n := by
   unfold inV
   rw [List.any_map, List.contains_eq_any_beq]
   congr 1
   funext m
   show (m == n) = (n == m)
   exact BEq.comm
  refine ⟨a, _, rfl, .inr ((zm _ _).seqT h1), rfl, ?_, ?_⟩
  ·rw [List.all_map]
   exact aoj.mpr fun _ _ => rfl
  ·rw [if_pos rfl, e1]
   exact q _ _ H2 (g1.trans g2) (rep_bool.mpr rfl) p2
theorem ajt (h : PAd K f t ρ fun xs => ∃ d d', xs = [.dat d, .dat d'] /\ D.nx ((ρ.set i (some (.dat d))).set j (some (.dat d')))) : PSd K f (akW i j t) ρ D := fun σ H E e n r b c =>
 h σ H _ e fun xs vs H1 g1 r1 ⟨d, d', ex, p⟩ => by
  subst ex
  cases r1 with
  | cons ra rs =>
   cases rs with
   | cons rb rs =>
    cases rs
    exact ⟨_, _, rfl, n _ _ H1 g1 (((e.mono g1).set i (x := .dat d) ra).set j (x := .dat d') rb) p⟩
end
section
variable {K : alE} {f : Fx} {ρ : zq} {D : DEnds}
theorem ain {tc : TT} {tb : TS} (J : zq -> Prop) (μ : zq -> Nat) (h0 : J ρ)
  (hs : ∀ ρ', J ρ' -> PTd K f tc ρ' fun b => if b = true then PSd K f tb ρ' { D with nx := fun r => J r /\ μ r < μ ρ', ct := fun r => J r /\ μ r < μ ρ', bk := D.nx } else D.nx ρ') : PSd K f (adE tc tb) ρ D := fun σ H E e n r b c => by
 refine ⟨fun m σ' H' => ∃ ρ', EnvOk K f ρ' σ' H' /\ Goes f H H' /\ J ρ' /\ m = μ ρ', ⟨_, ρ, e, .refl e.fd, h0, rfl⟩, ?_⟩
 rintro m σ1 H1 ⟨ρ1, e1, g1, j1, rfl⟩
 refine hs ρ1 j1 σ1 H1 _ e1 fun t H2 g2 p => ?_
 cases t with
 | true =>
  rw [if_pos rfl] at p ⊢
  refine ⟨fun σ' H' => ∃ ρ', EnvOk K f ρ' σ' H' /\ Goes f H H' /\ J ρ' /\ μ ρ' < μ ρ1, fun σ' H' ⟨ρ', e', g', j', l'⟩ => ⟨_, l', ρ', e', g', j', rfl⟩, ?_⟩
  have gg := g1.trans g2
  exact p σ1 H2 _ (e1.mono g2) (fun ρ5 σ5 H5 g5 e5 p5 => ⟨ρ5, e5, gg.trans g5, p5⟩) (fun d v H5 g5 r5 p5 => r d v H5 (gg.trans g5) r5 p5) (fun ρ5 σ5 H5 g5 e5 p5 => n ρ5 σ5 H5 (gg.trans g5) e5 p5) (fun ρ5 σ5 H5 g5 e5 p5 => ⟨ρ5, e5, gg.trans g5, p5⟩)
 | false =>
  rw [if_neg alC] at p ⊢
  exact n ρ1 σ1 H2 (g1.trans g2) (e1.mono g2) p
end
section
variable {K : alE} {f : Fx} {ρ : zq} {E : XK} {te : TE} {ts tu : TS} {tt : TT} {t : TA} {P : PyData -> Prop} {D : DEnds}
theorem ak6 (h : PEd K f te ρ fun x => ∃ i, x = .int i /\ P (.int (-i))) : PEd K f (tUn (rU fun i => .int (-i)) te) ρ P :=
 alw (h.imp fun x ⟨i, ex, p⟩ v H Q fo r q => by
  subst ex
  exact ⟨i, rep_int.mp r, q _ _ H (.refl fo) (rep_int.mpr rfl) p⟩)
theorem aju {n : String} {b : Bool} (hk : amH K (.type "int") (.type n) = some b) (h : PEd K f te ρ fun d => ∃ i, d = .int i /\ P (.bool b)) : PEd K f (tCB (aim K) (yc te (yc (tC (.ty n)) jX))) ρ P := fun σ H Q e q => h σ H _ e fun d v H1 g r ⟨i, ed, p⟩ => by
 subst ed
 rw [rep_int.mp r]
 exact ⟨_, n, b, rfl, .inr (.inr ⟨_, .int i, hk⟩), q _ _ H1 g (rep_bool.mpr rfl) p⟩
end
section
variable {X : Cx}
theorem afM (hu : X.A.units + 64 < cLine) : OpR X (compareOp .NotIn) (akg X.K true) := by
 intro pins s σ H x y v u Q I rx ry h
 obtain ⟨d, ds, h1, h2, c1, c2, dd, q⟩ := h
 obtain ⟨a, xs, rfl, hq, hr⟩ := rep_list.mp h2
 cases ry
 obtain ⟨bs, rb⟩ := yH I d x v h1 rx
 obtain ⟨its, r, pl, hz⟩ := I.list hq
 refine SeqAt.notIn_listAt (eqR s.heap d) pl.isList (fun w hw => acN I rb c1 dd (show X.A.in1.units + 60 < cLine from by show X.A.units + 1 + 60 < cLine; omega) hr r c2 w (by simpa using hw)) ⟨.bl _, H, I, rfl, ?_⟩
 rw [show its.toArray.any (eqR s.heap d) = its.any (eqR s.heap d) by simp, aeB I hr r c2]
 exact q
theorem adR {K : alE} (hK : X.K = K) (hu : X.A.units + 64 < cLine) : OpR X (compareOp .NotIn) (akg K true) := hK ▸ afM hu
end
section
variable {K : alE} {f : Fx} {ρ : zq} {P : PyData -> Prop} {te ta tb : TE}
theorem ag0 (h : PEd K f ta ρ fun d => PEd K f tb ρ fun y => ∃ ds, y = .list ds /\ d.canLay0 = true /\ (∀ e ∈ ds, e.canLay0 = true) /\ d.depth <= 50 /\ P (.bool (!ds.any fun e => al4 e d))) : PEd K f (tOp (akg K true) ta tb) ρ P := fun σ H Q e q =>
 h σ H _ e fun d v H1 g1 r1 p1 => p1 σ H1 _ (e.mono g1) fun y w H2 g2 r2 ⟨ds, ey, c1, c2, dd, p2⟩ => by
  subst ey
  exact ⟨d, ds, Rep.mono (zm _ _) _ _ (Rep.mono g2.sm _ _ r1), Rep.mono (zm _ _) _ _ r2, c1, c2, dd, q _ _ H2 (g1.trans g2) (rep_bool.mpr rfl) p2⟩
end
end L2
end
section
namespace L2
open PySem PySem.Spec PyProof.Rows
def akh (K : alE) : List V -> Hp -> VK -> Prop := fun xs H Q => ∃ (a : Addr) (ns : List Int), xs = [.ref a] /\ SqL K H a (ns.map V.int) /\ Q (.int ns.sum) H
theorem afN {X : Cx} (hc : X.calm = true) : yf X (.builtin "sum") (akh X.K) := by
 intro pins s σ H xs us Q I r h
 obtain ⟨a, ns, rfl, hq, q⟩ := h
 obtain ⟨u, rfl, r1⟩ := vals1 r
 cases r1
 obtain ⟨its, rv, p, _⟩ := I.list hq
 have hl := p.isList
 have hi : IntsAre its ns := intsAre_of rv
 obtain ⟨zs, ez⟩ := hi.allInts.items
 rw [ez] at hl
 refine sum_intListG (show (X.A).handled = none from I.ok.hd hc) hl fun h' tk t' kp => ⟨.int _, H, I.kept (t' := tk) kp, ⟨_, rfl⟩, ?_⟩
 have e : preSum (numAt zs) zs.size = ns.sum := by
  rw [<- hi.numsOf, show its = its.toArray.toList from rfl, ez, nums_intItems, preSum_eq, List.take_of_length_le (by simp)]
 rw [e]
 exact q
theorem adS {X : Cx} {K : alE} (hK : X.K = K) (hc : X.calm = true) : yf X (.builtin "sum") (akh K) := hK ▸ afN hc
section
variable {K : alE} {f : Fx} {ρ : zq} {P : PyData -> Prop} {te : TE}
theorem ak7 (h : PEd K f te ρ fun x => ∃ ns : List Int, x = .list (ns.map .int) /\ P (.int ns.sum)) : PEd K f (tCB (akh K) (yc te jX)) ρ P := fun σ H Q e q => h σ H _ e fun x v H1 g1 r1 ⟨ns, ex, p⟩ => by
 subst ex
 obtain ⟨a, xs, rfl, h1, h2⟩ := rep_list.mp r1
 rw [h2.ints] at h1
 exact ⟨a, ns, rfl, (zm _ _).seq h1, q _ _ H1 g1 (rep_int.mpr rfl) p⟩
end
section
variable {prog : Program} {w : World} {A : Around} {E : Value -> Shared -> Prop} {s : Shared}
theorem aio {t b : Addr} {vs ws : List Value} {Q : Value -> Shared -> Prop} (ht : PlainL s.heap t vs.toArray) (hb : PlainL s.heap b ws.toArray)
  (h2 : Q (.ref s.heap.objs.size) { s with heap := s.heap.push { cls := .type "list", data := .seq (vs ++ ws).toArray } })
  (hsz : vs.length + ws.length <= sizeLine) : wpAny (model prog w) A (binaryOp .Add (.ref t) (.ref b)) Q E s := by
 obtain ⟨⟨cls, dd, data, sl⟩, n, ho, hc, _, hd⟩ := ht
 obtain ⟨⟨cls2, dd2, data2, sl2⟩, n2, ho2, hc2, _, hd2⟩ := hb
 simp only at hc hd hc2 hd2
 subst hc hd hc2 hd2
 have e : vs.toArray ++ ws.toArray = (vs ++ ws).toArray := by simp
 refine concat_meets ⟨_, ho, rfl⟩ ⟨_, ho2, rfl⟩ noFill_list_add seq_list_add PySem.F.slot_list_add PySem.F.entry_list_add (PySem.F.args_list_add_2 _ _) (list_addW t b vs.toArray ws.toArray n n2 dd dd2 sl sl2 (by rw [alW, alW]; exact hsz)) ⟨ho, ho2, ?_⟩
 rw [e]
 exact h2
end
def ag1 (K : alE) : R2 := fun x y H Q => ∃ l b xs zs, x = .ref l /\ y = .ref b /\ SqL K H l xs /\ SqL K H b zs /\ xs.length + zs.length <= sizeLine /\ ∀ p, H p = none -> Q (.ref p) (upd H p (.lst (xs ++ zs)))
section
variable {X : Cx}
theorem aip : OpR X (binaryOp .Add) (ag1 X.K) := by
 intro pins s σ H x y v u Q I rx ry h
 obtain ⟨l, b, xs, zs, rfl, rfl, ha, hb, hz, q⟩ := h
 cases rx
 cases ry
 obtain ⟨its, r1, p1, _⟩ := I.list ha
 obtain ⟨its2, r2, p2, _⟩ := I.list hb
 refine aio p1 p2 ?_ (by rw [<- r1.length, <- r2.length]; exact hz)
 exact ⟨.ref _, _, I.lnew (t' := s.toks) (r1.append r2) (by rw [alR]; omega), rfl, q _ I.fresh⟩
theorem ag2 {K : alE} (hK : X.K = K) : OpR X (binaryOp .Add) (ag1 K) := hK ▸ aip
end
section
variable {K : alE} {f : Fx} {ρ : zq} {P : PyData -> Prop} {te ta tb : TE} {t : TA}
theorem aki (h : PEd K f ta ρ fun x => ∃ ds, x = .list ds /\ PEd K f tb ρ fun y => ∃ es, y = .list es /\ ds.length + es.length <= 1000 /\ P (.list (ds ++ es))) : PEd K f (tOp (ag1 K) ta tb) ρ P := fun σ H Q e q =>
 h σ H _ e fun x v H1 g1 r1 ⟨ds, ex, p1⟩ => p1 σ H1 _ (e.mono g1) fun y w H2 g2 r2 ⟨es, ey, hl, p2⟩ => by
  subst ex ey
  obtain ⟨a, xs, rfl, h1, h2⟩ := rep_list.mp (Rep.mono g2.sm _ _ r1)
  obtain ⟨b, ys, rfl, h3, h4⟩ := rep_list.mp r2
  have l1 := h2.length
  have l2 := h4.length
  refine ⟨a, b, xs, ys, rfl, rfl, (zm _ _).seq h1, (zm _ _).seq h3, by rw [l1, l2]; exact amM (yl hl), fun p hn => ?_⟩
  have g3 : Goes f H2 (upd H2 p (.lst (xs ++ ys))) := .of_same (yd hn _) g2.ok
  exact q (.list (ds ++ es)) _ _ (g1.trans (g2.trans g3)) (rep_list.mpr ⟨p, _, rfl, .of (zC (fresh_ne g2.ok hn) zE), Reps.mono g3.sm _ _ (h2.append h4)⟩) p2
theorem acO {R : List PyData -> Prop} (h : PAd K f t ρ fun xs => ∃ ds, jJ xs = some ds /\ ds.length <= 1000 /\ R ds) : PEdO K f (agD t) ρ R := fun σ H Q e q =>
 h σ H _ e fun xs vs H1 g1 r1 ⟨ds, ea, hl, p⟩ => by
  have rs := qk r1 ea
  refine ⟨by rw [rs.length]; exact amM (yl hl), fun l hn => ?_⟩
  have g2 : Goes f H1 (upd H1 l (.lst vs)) := .of_same (yd hn _) g1.2
  have nl := fresh_ne g1.2 hn
  refine q ds l vs _ (g1.trans g2) (g1.free e.fd hn) zE (Reps.mono (fun b o hb => ?_) _ _ rs) p
  have hb' := zM hb
  have hbl : b ≠ l := fun z => by
   have := hb'.2
   rw [z, hn] at this
   cases this
  refine zC (fun z => ?_) (by rw [zz hbl]; exact hb'.2)
  rcases z with z | z
  ·exact hb'.1 (.inl z)
  ·rcases alO.mp z with z | z
   ·exact hbl z
   ·exact hb'.1 (.inr z)
end
def spN {γ : Type} (K : alE) (n : Nat) (pre : γ -> List DV -> Prop) (post : γ -> List PyData -> Prop) : Sp := fun vs H Q _ => ∃ f xs c, RepVs K f H xs vs /\ xs.length = n /\ FOk f H /\ pre c xs /\
 ∀ es D vs' H', Goes f H H' -> H D = none -> H' D = some (.lst vs') -> Reps K (hide H' (f.with D)) es vs' -> post c es -> Q (.ref D) H'
def PSn (K : alE) (f : Fx) (ts : TS) (ρ : zq) (R : List PyData -> Prop) : Prop := ∀ (σ : St) (H : Hp) (E : Ends), EnvOk K f ρ σ H ->
 (∀ es D vs H', Goes f H H' -> H D = none -> H' D = some (.lst vs) -> Reps K (hide H' (f.with D)) es vs -> R es -> E.rt (.ref D) H') -> ts E σ H
section
variable {K : alE} {f : Fx} {ρ : zq} {R : List PyData -> Prop} {te : TE} {ts tu : TS} {tt : TT} {t : TA} {i : Nat} {D : Addr} {es : List PyData} {O : OEnds}
theorem abb (h : PEdO K f te ρ R) : PSn K f (afq te) ρ R := fun σ H E e q => h σ H E.rt e q
theorem qX (h : PSd K f ts ρ { nx := fun ρ' => PSn K f tu ρ' R, rt := fun _ => False }) : PSn K f (vT ts tu) ρ R := fun σ H E e q =>
 h σ H _ e (fun ρ' σ' H' g' e' p => p σ' H' E e' fun es D vs H2 g2 hn h1 rs r => q es D vs H2 (g'.trans g2) (g'.free e.fd hn) h1 rs r) (fun _ _ _ _ _ z => z.elim) (fun _ _ _ _ _ z => z.elim) (fun _ _ _ _ _ z => z.elim)
theorem ajv (h : PTd K f tt ρ fun b => if b = true then PEdO K f te ρ R else PSn K f tu ρ R) : PSn K f (vT (afr tt (afq te) ael) tu) ρ R := fun σ H E e q =>
 h σ H _ e fun b H1 g1 p => by
  have q1 : ∀ es D vs H', Goes f H1 H' -> H1 D = none -> H' D = some (.lst vs) -> Reps K (hide H' (f.with D)) es vs -> R es -> E.rt (.ref D) H' := fun es D vs H' g' hn => q es D vs H' (g1.trans g') (g1.free e.fd hn)
  cases b with
  | true => rw [if_pos rfl] at p ⊢; exact p σ H1 E.rt (e.mono g1) q1
  | false => rw [if_neg alC] at p ⊢; exact p σ H1 E (e.mono g1) q1
theorem qK {γ : Type} {n : Nat} {pre : γ -> List DV -> Prop} {post : γ -> List PyData -> Prop} {E : XK} (c : γ) (h : PAd K f t ρ fun xs => xs.length = n /\ pre c xs /\ ∀ es, post c es -> R es) : PEdO K f (aa2 (spN K n pre post) [] E t) ρ R := fun σ H Q e q =>
 h σ H _ e fun xs vs H1 g1 r1 ⟨hl, hp, k⟩ => ⟨f, xs, c, by rw [amq]; exact r1, hl, g1.2, hp, fun es D vs' H' g' hn h1 rs p => q es D vs' H' (g1.trans g') (g1.free e.fd hn) h1 rs (k es p)⟩
theorem ajw {ta tb : TE} (h : PTd K f tt ρ fun b => if b = true then PEdO K f ta ρ R else PEdO K f tb ρ R) : PEdO K f (tIf tt ta tb) ρ R := fun σ H Q e q =>
 h σ H _ e fun b H1 g1 p => by
  have q1 : ∀ es D vs H', Goes f H1 H' -> H1 D = none -> H' D = some (.lst vs) -> Reps K (hide H' (f.with D)) es vs -> R es -> Q (.ref D) H' := fun es D vs H' g' hn => q es D vs H' (g1.trans g') (g1.free e.fd hn)
  cases b with
  | true => rw [if_pos rfl] at p ⊢; exact p σ H1 Q (e.mono g1) q1
  | false => rw [if_neg alC] at p ⊢; exact p σ H1 Q (e.mono g1) q1
end
section
variable {P : Program} {w : World} {K : alE} {mg : Str -> Option Value} {base : Heap} {k : Nat} {x : Str} {st : Stmt} {ps : List Str} {N : List Str} {n : Nat} {γ : Type} {pre : γ -> List DV -> Prop} {post : γ -> List PyData -> Prop}
theorem Def.okN (F : Def K mg x st ps) (S : FnScope N ps (zk st)) (hn : ps.length = n)
  (h : ∀ (fa : Addr) (cdv : Value) (A : Around) (outer : List Env) (s : Shared) (H : Hp) (E : XK), Room k (A.deeper (envOfC x (zk st) s.heap.objs.size fa cdv)) ->
   ∃ t, PSs (zW CX0 P w K mg base N x (zk st) fa cdv A outer s H E).nox (yG st) t /\ ∀ (f : Fx) (xs : List DV) (c : γ), xs.length = n -> pre c xs -> PSn K f t (j7 N xs) (post c)) :
  FnIn P w K mg base (k + 1) x ps (spN K n pre post) := by
 obtain ⟨fa, fd, F1, F2, F3⟩ := F.ex
 refine ⟨fa, fd, F1.ok S (fun vs H Q E h => ?_) (fun cdv A outer s H vs Q E hr hs => ?_), F3, F1.kp, F2⟩
 ·obtain ⟨f, xs, c, r, hl, _⟩ := h
  rw [r.length, hl, hn]
 ·obtain ⟨f, xs, c, r, hl, fo, hp, q⟩ := hs
  obtain ⟨t, h1, h2⟩ := h fa cdv A outer s H E hr
  exact ⟨t, h1, h2 f xs c hl hp (start N vs) H _ (qm r fo) (fun es D vs' H' g hn' h1' rs p => q es D vs' H' g hn' h1' rs p)⟩
end
end L2
end
section
namespace L2
open PySem PySem.W PyProof.Rows
structure Tot (n : Nat) (lt : Nat -> Nat -> Bool) : Prop where
 tri : ∀ i j, i < n -> j < n -> i ≠ j -> lt i j = !lt j i
 tra : ∀ i j k, i < n -> j < n -> k < n -> lt i j = true -> lt j k = true -> lt i k = true
def Ans (cmp : Nat -> Nat -> (Bool -> Shared -> Prop) -> Shared -> Prop) (n : Nat) (lt : Nat -> Nat -> Bool) (s : Shared) : Prop := ∀ i j C, i < n -> j < n -> C (lt i j) s -> cmp i j C s
def Pm (n : Nat) (p : Array Nat) : Prop := p.toList.Perm (alY n)
def Up (lt : Nat -> Nat -> Bool) (p : Array Nat) (m : Nat) : Prop := ∀ i j, i < j -> j < m -> lt (p.getD i 0) (p.getD j 0) = true
def Dn (lt : Nat -> Nat -> Bool) (p : Array Nat) (m : Nat) : Prop := ∀ i j, i < j -> j < m -> lt (p.getD j 0) (p.getD i 0) = true
theorem Pm.size {n : Nat} {p : Array Nat} (h : Pm n p) : p.size = n := by
 have := h.length_eq
 rwa [alS, amx] at this
theorem jj (p : Array Nat) (i : Nat) : p.getD i 0 = p.toList.getD i 0 := by
 by_cases h : i < p.size <;> simp [anl, h, List.getD]
theorem Pm.lt {n : Nat} {p : Array Nat} (h : Pm n p) {i : Nat} (hi : i < n) : p.getD i 0 < n := by
 have hs := h.size
 have hl : i < p.toList.length := by rw [alS, hs]; exact hi
 rw [jj, alF, alB hl]
 exact al8.mp (h.mem_iff.mp (al9 hl))
theorem Pm.ne {n : Nat} {p : Array Nat} (h : Pm n p) {i j : Nat} (hi : i < n) (hj : j < n) (ne : i ≠ j) : p.getD i 0 ≠ p.getD j 0 := by
 have hs := h.size
 have nd : p.toList.Nodup := h.nodup_iff.mpr aoX
 have li : i < p.toList.length := by rw [alS, hs]; exact hi
 have lj : j < p.toList.length := by rw [alS, hs]; exact hj
 rw [jj, jj, alF, alF, alB li, alB lj]
 intro e
 exact ne ((aoi nd).mp e)
theorem Pm.range (n : Nat) : Pm n (amA (alY n)) := List.Perm.refl _
theorem Pm.of {n : Nat} {p q : Array Nat} (h : Pm n p) (e : q.Perm p) : Pm n q := (Array.perm_iff_toList_perm.mp e).trans h
theorem aeC {p q : Array Nat} {i j : Nat} (h : p[i]? = q[j]?) : p.getD i 0 = q.getD j 0 := by
 rw [amX, amX, h]
section
variable {cmp : Nat -> Nat -> (Bool -> Shared -> Prop) -> Shared -> Prop} {n : Nat} {lt : Nat -> Nat -> Bool} {s : Shared} {p : Array Nat}
theorem Up.more (T : Tot n lt) (hp : Pm n p) {m : Nat} (h1 : 1 <= m) (hm : m < n) (u : Up lt p m) (h : lt (p.getD (m - 1) 0) (p.getD m 0) = true) : Up lt p (m + 1) := fun i j hij hj => by
 by_cases e : j = m
 ·subst e
  by_cases e2 : i = j - 1
  ·subst e2; exact h
  ·exact T.tra _ _ _ (hp.lt (by omega)) (hp.lt (by omega)) (hp.lt hm) (u i (j - 1) (by omega) (by omega)) h
 ·exact u i j hij (by omega)
theorem Dn.more (T : Tot n lt) (hp : Pm n p) {m : Nat} (h1 : 1 <= m) (hm : m < n) (u : Dn lt p m) (h : lt (p.getD m 0) (p.getD (m - 1) 0) = true) : Dn lt p (m + 1) := fun i j hij hj => by
 by_cases e : j = m
 ·subst e
  by_cases e2 : i = j - 1
  ·subst e2; exact h
  ·exact T.tra _ _ _ (hp.lt hm) (hp.lt (by omega)) (hp.lt (by omega)) h (u i (j - 1) (by omega) (by omega))
 ·exact u i j hij (by omega)
theorem v7 (T : Tot n lt) (W : Ans cmp n lt s) (hp : Pm n p) {Q : Nat -> Shared -> Prop} : ∀ f m, 1 <= m -> m + f <= n -> Up lt p m -> (∀ m', m <= m' -> m' <= m + f -> Up lt p m' -> (m' = m + f \/ lt (p.getD m' 0) (p.getD (m' - 1) 0) = true) -> Q m' s) -> (kas_asc p f m).kasWp cmp Q s
 | 0, m, h1, hf, u, q => q m (alI _) (alI _) u (.inl rfl)
 | f + 1, m, h1, hf, u, q => by
  refine W _ _ _ (hp.lt (by omega)) (hp.lt (by omega)) ?_
  cases e : lt (p.getD m 0) (p.getD (m - 1) 0) with
  | true => exact q m (alI _) (by omega) u (.inr e)
  | false =>
   have e2 : lt (p.getD (m - 1) 0) (p.getD m 0) = true := by
    rw [T.tri _ _ (hp.lt (by omega)) (hp.lt (by omega)) (hp.ne (by omega) (by omega) (by omega)), e]
    rfl
   exact v7 T W hp f (m + 1) (by omega) (by omega) (u.more T hp h1 (by omega) e2) fun m' a b c d => q m' (by omega) (by omega) c (d.imp (fun z => by omega) id)
theorem acP (T : Tot n lt) (W : Ans cmp n lt s) (hp : Pm n p) {Q : Array Nat × Nat × Nat -> Shared -> Prop} : ∀ f m, 1 <= m -> m + f <= n -> Dn lt p m -> (∀ m', m <= m' -> m' <= m + f -> Dn lt p m' -> Q (p, m', 0) s) -> (kas_desc f p m 0).kasWp cmp Q s
 | 0, m, h1, hf, u, q => q m (alI _) (alI _) u
 | f + 1, m, h1, hf, u, q => by
  refine W _ _ _ (hp.lt (by omega)) (hp.lt (by omega)) ?_
  cases e : lt (p.getD m 0) (p.getD (m - 1) 0) with
  | true => exact acP T W hp f (m + 1) (by omega) (by omega) (u.more T hp h1 (by omega) e) fun m' a b c => q m' (by omega) (by omega) c
  | false =>
   have e2 : lt (p.getD (m - 1) 0) (p.getD m 0) = true := by
    rw [T.tri _ _ (hp.lt (by omega)) (hp.lt (by omega)) (hp.ne (by omega) (by omega) (by omega)), e]
    rfl
   refine W _ _ _ (hp.lt (by omega)) (hp.lt (by omega)) ?_
   rw [e2]
   exact q m (alI _) (by omega) u
theorem akj {m : Nat} (hm : m <= p.size) (d : Dn lt p m) : Up lt (kas_rev p 0 m) m := fun i j hij hj => by
 have g : ∀ k, k < m -> (kas_rev p 0 m).getD k 0 = p.getD (m - 1 - k) 0 := fun k hk => aeC (by
  unfold kas_rev
  rw [getElem?_mirror_all hm, if_pos ⟨ama _, hk⟩, ao2])
 rw [g i (by omega), g j hj]
 exact d _ _ (by omega) (by omega)
theorem afO (T : Tot n lt) (W : Ans cmp n lt s) (hp : Pm n p) (hn : 1 <= n) {Q : Nat × Array Nat -> Shared -> Prop} (q : ∀ m p', 1 <= m -> m <= n -> Pm n p' -> Up lt p' m -> Q (m, p') s) : (kas_count n p).kasWp cmp Q s := by
 unfold kas_count
 rw [KasT.kasWp_bind]
 refine v7 T W hp (n - 1) 1 (alI _) (by omega) (fun i j a b => by omega) fun m h1 h2 u c => ?_
 by_cases e : (m == n) = true
 ·rw [if_pos e]
  exact q m p h1 (by omega) hp u
 ·rw [if_neg e]
  have hm : m < n := by
   have : m ≠ n := fun z => e (by rw [z]; exact beq_self_eq_true _)
   omega
  by_cases e2 : m > 1
  ·rw [if_pos e2]
   refine W _ _ _ (hp.lt (by omega)) (hp.lt (by omega)) ?_
   rw [u 0 (m - 1) (by omega) (by omega)]
   exact q m p h1 (by omega) hp u
  ·rw [if_neg e2]
   obtain rfl : m = 1 := by omega
   have c' : lt (p.getD 1 0) (p.getD (1 - 1) 0) = true := c.resolve_left (by omega)
   unfold kas_descPart
   rw [KasT.kasWp_bind]
   refine acP T W hp (n - (1 + 1)) (1 + 1) (by omega) (by omega) (Dn.more T hp (alI 1) hm (fun i j a b => by omega) c') fun m' a b d => ?_
   rw [if_neg (by show ¬ (0 > 0); omega)]
   unfold kas_tail3
   rw [KasT.kasWp_bind]
   have hp2 : Pm n (kas_rev p 0 m') := hp.of (mirror_perm _ _ _ _)
   exact v7 T W hp2 (n - m') m' (by omega) (by omega) (akj (by rw [hp.size]; omega) d) fun m2 a2 b2 u2 _ => q m2 _ (by omega) (by omega) hp2 u2
theorem vA (T : Tot n lt) (W : Ans cmp n lt s) (hp : Pm n p) {k : Nat} (hk : k < n) (u : Up lt p k) {Q : Nat -> Shared -> Prop} : ∀ f l r, r - l <= f -> l <= r -> r <= k -> (∀ i, i < l -> lt (p.getD i 0) (p.getD k 0) = true) -> (∀ i, r <= i -> i < k -> lt (p.getD k 0) (p.getD i 0) = true) ->
  (∀ m, m <= k -> (∀ i, i < m -> lt (p.getD i 0) (p.getD k 0) = true) -> (∀ i, m <= i -> i < k -> lt (p.getD k 0) (p.getD i 0) = true) -> Q m s) -> (kas_place p k f l r).kasWp cmp Q s
 | 0, l, r, hf, hlr, hr, lo, hi, q => by
  obtain rfl : l = r := by omega
  exact q l hr lo hi
 | f + 1, l, r, hf, hlr, hr, lo, hi, q => by
  unfold kas_place
  by_cases e : l >= r
  ·rw [if_pos e]
   obtain rfl : l = r := by omega
   exact q l hr lo hi
  ·rw [if_neg e]
   refine W _ _ _ (hp.lt hk) (hp.lt (by omega)) ?_
   have hm : (l + r) / 2 < k := by omega
   cases e2 : lt (p.getD k 0) (p.getD ((l + r) / 2) 0) with
   | true =>
    refine vA T W hp hk u f l ((l + r) / 2) (by omega) (by omega) (by omega) lo (fun i h1 h2 => ?_) q
    by_cases e3 : i = (l + r) / 2
    ·rw [e3]; exact e2
    ·exact T.tra _ _ _ (hp.lt hk) (hp.lt (by omega)) (hp.lt (by omega)) e2 (u _ _ (by omega) h2)
   | false =>
    have e4 : lt (p.getD ((l + r) / 2) 0) (p.getD k 0) = true := by
     rw [T.tri _ _ (hp.lt (by omega)) (hp.lt hk) (hp.ne (by omega) hk (by omega)), e2]
     rfl
    refine vA T W hp hk u f ((l + r) / 2 + 1) r (by omega) (by omega) hr (fun i h1 => ?_) hi q
    by_cases e3 : i = (l + r) / 2
    ·rw [e3]; exact e4
    ·exact T.tra _ _ _ (hp.lt (by omega)) (hp.lt (by omega)) (hp.lt hk) (u _ _ (by omega) hm) e4
theorem akk {k m : Nat} (hk : k < p.size) (hm : m <= k) (u : Up lt p k) (lo : ∀ i, i < m -> lt (p.getD i 0) (p.getD k 0) = true) (hi : ∀ i, m <= i -> i < k -> lt (p.getD k 0) (p.getD i 0) = true) : Up lt (bubble p k (k - m)) (k + 1) := fun i j hij hj => by
 have g : ∀ t, t <= k -> (bubble p k (k - m)).getD t 0 = p.getD (if t = m then k else if t < m then t else t - 1) 0 := fun t ht => aeC (by
  rw [getElem?_bubble hk (k - m) (by omega), show k - (k - m) = m by omega]
  by_cases e1 : t = m
  ·rw [if_pos e1, if_pos e1]
  ·rw [if_neg e1, if_neg e1]
   by_cases e2 : t < m
   ·rw [if_neg (by omega), if_pos e2]
   ·rw [if_pos (by omega), if_neg e2])
 rw [g i (by omega), g j (by omega)]
 by_cases a1 : i = m
 ·rw [if_pos a1, if_neg (by omega), if_neg (by omega)]
  exact hi _ (by omega) (by omega)
 ·rw [if_neg a1]
  by_cases a2 : j = m
  ·rw [if_pos a2, if_pos (by omega)]
   exact lo _ (by omega)
  ·rw [if_neg a2]
   by_cases a3 : i < m
   ·rw [if_pos a3]
    by_cases a4 : j < m
    ·rw [if_pos a4]; exact u _ _ hij (by omega)
    ·rw [if_neg a4]; exact u _ _ (by omega) (by omega)
   ·rw [if_neg a3, if_neg (by omega)]
    exact u _ _ (by omega) (by omega)
theorem aeD (T : Tot n lt) (W : Ans cmp n lt s) {Q : Array Nat -> Shared -> Prop} : ∀ f k (p : Array Nat), Pm n p -> k + f = n -> Up lt p k -> (∀ p', Pm n p' -> Up lt p' n -> Q p' s) -> (kas_bin f p k).kasWp cmp Q s
 | 0, k, p, hp, hf, u, q => by
  obtain rfl : k = n := by omega
  exact q p hp u
 | f + 1, k, p, hp, hf, u, q => by
  unfold kas_bin
  rw [KasT.kasWp_bind]
  refine vA T W hp (by omega) u k 0 k (by omega) (ama _) (alI _) (fun i hi => by omega) (fun i a b => by omega) fun m h1 lo hi => ?_
  exact aeD T W f (k + 1) _ (hp.of (bubble_perm _ _ _)) (by omega) (akk (by rw [hp.size]; omega) h1 u lo hi) q
theorem ag3 (T : Tot n lt) (W : Ans cmp n lt s) (hn : 1 <= n) {Q : Array Nat -> Shared -> Prop} (q : ∀ p, Pm n p -> Up lt p n -> Q p s) : (kas_sort n).kasWp cmp Q s := by
 unfold kas_sort
 rw [KasT.kasWp_bind]
 refine afO T W (Pm.range n) hn fun m p h1 h2 hp u => ?_
 by_cases e : m < n
 ·show (if m < n then _ else _ : KasT (Array Nat)).kasWp cmp Q s
  rw [if_pos e, show max m 1 = m by omega]
  exact aeD T W (n - m) m p hp (by omega) u q
 ·show (if m < n then _ else _ : KasT (Array Nat)).kasWp cmp Q s
  rw [if_neg e]
  obtain rfl : m = n := by omega
  exact q p hp u
end
end L2
end
section
namespace L2
open PySem PySem.W PySem.Calls PyProof.Rows
theorem abc : ∀ f n r, r <= 1 -> minRun' f n r <= n + 1
 | 0, n, r, h => by show n + r <= n + 1; omega
 | f + 1, n, r, h => by
  rw [minRun'_succ]
  by_cases e : n < 64
  ·rw [if_pos e]; omega
  ·rw [if_neg e]
   have := abc f (n / 2) (max r (n % 2)) (by omega)
   omega
theorem adT {n : Nat} (h : 1 <= n) : minRun' n n 0 <= n := by
 obtain ⟨f, rfl⟩ : ∃ f, n = f + 1 := ⟨n - 1, by omega⟩
 rw [minRun'_succ]
 by_cases e : f + 1 < 64
 ·rw [if_pos e]; omega
 ·rw [if_neg e]
  have := abc f ((f + 1) / 2) (max 0 ((f + 1) % 2)) (by omega)
  omega
section
variable {P : Program} {w : World} {A : Around} {X : Value -> Shared -> Prop} {s : Shared} {κ : SortKind} {it : Array Keyed} {n : Nat} {lt : Nat -> Nat -> Bool} {Q : SortSt -> Shared -> Prop}
theorem aiq (W : Ans (kas_cmp P w A κ it) n lt s) (T : Tot n lt) (h2 : 2 <= n) (up : ∀ i, i + 1 < n -> lt (i + 1) i = false)
  (q : ∀ st', arrOf st' = (amA (alY n)).map (kas_item it) -> failedOf st' = none -> Q st' s) : kasC (model P w) A X sortRuns' (fun _ st' s' => Q st' s') (kas_st κ it (amA (alY n))) s := by
 obtain ⟨r, rfl⟩ : ∃ r, n = r + 2 := ⟨n - 2, by omega⟩
 have sz : (amA (alY (r + 2))).size = r + 2 := by simp
 have szA : (arrOf (kas_st κ it (amA (alY (r + 2))))).size = r + 2 := by
  show (Array.map _ _).size = _
  rw [aph, sz]
 have mr := adT (n := r + 2) (by omega)
 have at_ : ∀ i, i < r + 2 -> (amA (alY (r + 2))).getD i 0 = i := fun i hi => by simp [anl, hi]
 have cnt : (kas_count (r + 2) (amA (alY (r + 2)))).kasWp (kas_cmp P w A κ it) (fun z s' => z = (r + 2, amA (alY (r + 2))) /\ s' = s) s := by
  unfold kas_count
  rw [KasT.kasWp_bind]
  refine v7 T W (Pm.range _) (r + 2 - 1) 1 (alI _) (by omega) (fun i j a b => by omega) fun m a b u c => ?_
  have e : m = r + 2 := by
   rcases c with c | c
   ·omega
   ·by_cases hm : m < r + 2
    ·rw [at_ m hm, at_ (m - 1) (by omega)] at c
     have := up (m - 1) (by omega)
     rw [show m - 1 + 1 = m by omega, c] at this
     cases this
    ·omega
  subst e
  rw [if_pos (beq_self_eq_true _)]
  exact ⟨rfl, rfl⟩
 rw [sortRuns'_eq]
 apply kasC_bind; apply kasC_get
 simp only [szA]
 apply kasC_bind; apply kasC_range
 change kasC _ _ _ (forIn (0 :: 1 :: List.range' 2 r) _ _) _ _ _
 apply kasC_cons
 simp only [Nat.sub_zero, ao2, show ¬ (0 >= r + 2) by omega, if_false]
 refine kasC_bind (kas_count_ (by omega) (anz sz.symm) (fun m p' s' _ _ _ z => ?_) cnt)
 obtain ⟨z, rfl⟩ := z
 cases z
 simp only [show ¬ (r + 2 < minRun' (r + 2) (r + 2) 0) by omega, if_false]
 apply kasC_bind; apply kasC_get
 change kasC _ _ _ (modify (fun st => setPending st ((pendingOf st).push (0, r + 2, 0))) >>= _) _ _ _
 apply kasC_bind; apply kasC_modify; apply kasC_pure
 apply kasC_cons
 simp only [show r + 2 >= r + 2 from alI _, if_true]
 apply kasC_pure
 apply kasC_bind; apply kasC_range
 change kasC _ _ _ (forIn (0 :: 1 :: List.range' 2 r) _ _) _ _ _
 apply kasC_cons
 apply kasC_bind; apply kasC_get
 rw [if_pos (show (pendingOf (setPending (kas_st κ it (amA (alY (r + 2)))) ((pendingOf (kas_st κ it (amA (alY (r + 2))))).push (0, r + 2, 0)))).size <= 1 from alI 1)]
 apply kasC_pure
 exact kasC_pure (q _ rfl rfl)
theorem ag4 (W : Ans (kas_cmp P w A κ it) n lt s) (T : Tot n lt) (h2 : 2 <= n) (hs : n < 64 \/ ∀ i, i + 1 < n -> lt (i + 1) i = false)
  (q : ∀ st' p, Pm n p -> Up lt p n -> arrOf st' = p.map (kas_item it) -> failedOf st' = none -> Q st' s) : kasC (model P w) A X sortRuns' (fun _ st' s' => Q st' s') (kas_st κ it (amA (alY n))) s := by
 rcases hs with hs | hs
 ·exact kas_runs h2 hs (G := fun p s' => s' = s /\ Pm n p /\ Up lt p n) (fun p st' s' _ e f ⟨z, a, b⟩ => by subst z; exact q st' p a b e f) (ag3 T W (by omega) fun p a b => ⟨rfl, a, b⟩)
 ·refine aiq W T h2 hs fun st' e f => q st' _ (Pm.range n) (fun i j hij hj => ?_) e f
  have at_ : ∀ i, i < n -> (amA (alY n)).getD i 0 = i := fun i hi => by simp [anl, hi]
  rw [at_ i (by omega), at_ j hj]
  have key : ∀ d, i + d + 1 < n -> lt i (i + d + 1) = true := fun d => by
   induction d with
   | zero => intro hd; rw [T.tri _ _ (by omega) hd (by omega), hs i hd]; rfl
   | succ d ih =>
    intro hd
    refine T.tra _ (i + d + 1) _ (by omega) (by omega) hd (ih (by omega)) ?_
    rw [T.tri _ _ (by omega) hd (by omega), show i + (d + 1) + 1 = i + d + 1 + 1 by omega, hs (i + d + 1) (by omega)]
    rfl
  have := key (j - i - 1) (by omega)
  rwa [show i + (j - i - 1) + 1 = j by omega] at this
end
section
variable {P : Program} {w : World} {A : Around} {X : Value -> Shared -> Prop} {s : Shared} {κ : SortKind} {vs : List Value} {lt : Nat -> Nat -> Bool}
structure Asks (P : Program) (w : World) (A : Around) (s : Shared) (κ : SortKind) (vs : List Value) (lt : Nat -> Nat -> Bool) : Prop where
 kind : 2 <= vs.length -> ∀ (h' : Heap), (∀ b o, s.heap.get? b = some o -> h'.get? b = some o) -> ∀ R : SortKind -> Shared -> Prop, R κ { s with heap := h' } -> wpAny (model P w) A (keyKind' vs.toArray) R (fun _ _ => False) { s with heap := h' }
 less : ∀ (h' : Heap), (∀ b o, s.heap.get? b = some o -> h'.get? b = some o) -> Ans (kas_ask P w A κ vs) vs.length lt { s with heap := h' }
 ord : Tot vs.length lt
 few : vs.length < 64 \/ ∀ i, i + 1 < vs.length -> lt (i + 1) i = false
theorem air {a : Addr} {e : Nat} {R : PySem.Fin -> Shared -> Prop} (hz : vs.length <= sizeLine) (ha : s.heap.get? a = some (seqObj "list" vs.toArray e)) {h0 : Heap} (h0s : ∀ b o, h0.get? b = some o -> b ≠ a /\ s.heap.get? b = some o) (K : Asks P w A { s with heap := h0 } κ vs lt)
  (q : ∀ (h' : Heap) p c, Pm vs.length p -> Up lt p vs.length -> (∀ b o, b ≠ a -> s.heap.get? b = some o -> h'.get? b = some o) -> h'.get? a = some (seqObj "list" (p.toList.map fun i => vs.getD i Value.none).toArray c) -> R (.done (.ret .none)) { s with heap := h' }) :
  wpAny (model P w) A (Builtin.«list.sort» ⟨[.ref a], []⟩) R X s := by
 let h1 := s.heap.update a (ant fun _ => (#[] : Array Value))
 obtain ⟨e1, a1⟩ : ∃ e1, h1.get? a = some (seqObj "list" #[] e1) := ⟨_, get?_update_seq ha fun _ => #[]⟩
 let h2' := (h1.push (seqObj "tuple" vs.toArray 0)).push (seqObj "list" #[] 0)
 have a2 : h2'.get? a = some (seqObj "list" #[] e1) := alQ _ (alQ _ a1)
 have k2 : ∀ b o, b ≠ a -> s.heap.get? b = some o -> h2'.get? b = some o := fun b o nb eb => alQ _ (alQ _ ((amW _ _ (amN nb)).trans eb))
 have kz : ∀ b o, h0.get? b = some o -> h2'.get? b = some o := fun b o eb => k2 b o (h0s b o eb).1 (h0s b o eb).2
 rw [list_sort_plain]
 apply wpAny_bind; apply listItems_at ha rfl
 apply wpAny_bind; refine listUpdate_at ha rfl ?_ (by simpa using hz) (ama _)
 apply wpAny_bind; apply seqEpoch_at a1 rfl
 apply wpAny_bind; refine wpAny_newTuple ?_ (by simpa using hz)
 apply wpAny_bind; refine wpAny_newList ?_ (ama _)
 apply wpAny_holding
 dsimp only
 change wpAny _ A _ _ _ { s with heap := h2' }
 have st0 : SortSt.mk' κ (vs.toArray.zip vs.toArray) #[] 7 none = kas_st κ (pairsOf vs) (amA (alY vs.length)) := by
  have z := kas_range (pairsOf vs)
  rw [pairsOf_size] at z
  unfold kas_st
  rw [z]
  rfl
 have fin : ∀ (st' : SortSt) (p : Array Nat), Pm vs.length p -> Up lt p vs.length -> arrOf st' = p.map (kas_item (pairsOf vs)) -> failedOf st' = none -> wpAny (model P w) A (do
   let sorted := (arrOf st').map (·.2)
   let touched := (<- seqEpoch a) != e1
   Builtin.List.listUpdate (.ref a) fun _ => sorted
   if let some e := failedOf st' then rule "list.sort.comparison-raised"; throw e
   if touched then rule "list.sort.modified"; raiseError "ValueError" "list modified during sort"
   ret .none) R X { s with heap := h2' } := fun st' p x1 x2 x3 x4 => by
  have out : (arrOf st').map (·.2) = (p.toList.map fun i => vs.getD i Value.none).toArray := by
   apply Array.toList_inj.mp
   rw [x3, Array.map_map, Array.toList_map]
   refine aos fun i _ => ?_
   show (kas_item (pairsOf vs) i).2 = _
   rw [kas_item_eq]
  dsimp only
  rw [out, x4]
  obtain ⟨c, a3⟩ : ∃ c, (h2'.update a (ant fun _ => (p.toList.map fun i => vs.getD i Value.none).toArray)).get? a = some (seqObj "list" (p.toList.map fun i => vs.getD i Value.none).toArray c) := ⟨_, get?_update_seq a2 fun _ => (p.toList.map fun i => vs.getD i Value.none).toArray⟩
  apply wpAny_bind; apply seqEpoch_at a2 rfl
  apply wpAny_bind
  refine listUpdate_at a2 rfl ?_ (ama _) (by
   rw [alW, alD, alS, x1.size]; omega)
  simp only [bne_self_eq_false, ami, if_false]
  exact wpAny_pure (q _ p c x1 x2 (fun b o nb eb => (amW _ _ (amN nb)).trans (k2 b o nb eb)) a3)
 by_cases h2 : vs.length < 2
 ·have two : vs.toArray.size < 2 := by rw [alW]; exact h2
  rw [if_pos two, if_pos two]
  apply wpAny_bind; apply wpAny_pure
  apply wpAny_bind
  rw [StateT.run_pure]
  apply wpAny_pure
  have z := kas_range (pairsOf vs)
  rw [pairsOf_size] at z
  exact fin _ (amA (alY vs.length)) (Pm.range _) (fun i j x y => by omega) z.symm rfl
 have two : ¬ vs.toArray.size < 2 := by rw [alW]; exact h2
 rw [if_neg two, if_neg two]
 apply wpAny_bind
 refine wpAny_mono (K.kind (by omega) h2' kz (fun κ' s' => κ' = κ /\ s' = { s with heap := h2' }) ⟨rfl, rfl⟩) ?_ fun _ _ z => z.elim
 rintro κ' s' ⟨eκ, es⟩
 rw [eκ, es]
 have W := K.less h2' kz
 rw [kas_ask_eq] at W
 rw [st0]
 apply wpAny_bind
 refine wpAny_mono (ag4 (Q := fun st' s' => s' = { s with heap := h2' } /\ ∃ p, Pm vs.length p /\ Up lt p vs.length /\ arrOf st' = p.map (kas_item (pairsOf vs)) /\ failedOf st' = none) W K.ord (by omega) K.few fun st' p x1 x2 x3 x4 => ⟨rfl, p, x1, x2, x3, x4⟩) ?_ fun _ _ z => z
 rintro ⟨⟨⟩, st'⟩ s' ⟨rfl, p, x1, x2, x3, x4⟩
 exact fin st' p x1 x2 x3 x4
theorem acQ {l : Addr} {Q : Value -> Shared -> Prop} (hz : vs.length <= sizeLine) (hl : s.heap.IsList l vs.toArray) (K : Asks P w A.in1.in1 s κ vs lt)
  (q : ∀ (h' : Heap) D p c, Pm vs.length p -> Up lt p vs.length -> s.heap.objs.size <= D -> (∀ b o, s.heap.get? b = some o -> h'.get? b = some o) -> h'.get? D = some (seqObj "list" (p.toList.map fun i => vs.getD i Value.none).toArray c) -> Q (.ref D) { s with heap := h' }) :
  wpAny (model P w) A (call (.builtin "sorted") [.ref l]) Q X s := by
 let h1 := (s.heap.push (seqObj "list" #[] 0)).update s.heap.objs.size (ant (· ++ vs.toArray))
 have s1 : h1.objs.size = s.heap.objs.size + 1 := by rw [Heap.size_update, size_push']
 let h2' := h1.push (seqObj "list" vs.toArray 0)
 have at2 : h2'.get? (s.heap.objs.size + 1) = some (seqObj "list" vs.toArray 0) := by rw [<- s1]; exact amj _ rfl
 have keep : ∀ b o, s.heap.get? b = some o -> b ≠ s.heap.objs.size + 1 /\ h2'.get? b = some o := fun b o eb => by
  have lb := alT eb
  refine ⟨fun z => ?_, alQ _ ((amW _ _ fun z => ?_).trans (alQ _ eb))⟩
  ·rw [z] at lb; exact amZ _ (apy lb (aoW _))
  ·rw [<- z] at lb; exact amZ _ lb
 refine Calls.call_function_entry kind_sorted plain_sorted entry_sorted (args_sorted1 _) ?_
 unfold Builtin.«sorted»
 apply wpAny_bind (m := checkCount "sorted" 1 1 _); apply wpAny_pure
 apply wpAny_bind; refine collect_list hl ?_ hz
 apply wpAny_bind; refine wpAny_newList ?_ hz
 change wpAny _ _ _ _ _ { s with heap := h2' }
 rw [show Value.ref ((s.heap.push (seqObj "list" #[] 0)).update s.heap.objs.size (ant (· ++ vs.toArray))).objs.size = Value.ref (s.heap.objs.size + 1) from congrArg Value.ref s1]
 apply wpAny_bind; apply wpAny_holding
 refine wpAny_call_entry slot_list_sort ⟨_, at2, rfl⟩ entry_list_sort ?_ (args_list_sort _)
 refine air (s := { s with heap := h2' }) hz at2 (h0 := s.heap) keep K fun h' p c x1 x2 x3 x4 => ⟨_, rfl, wpAny_pure ⟨_, rfl, ?_⟩⟩
 exact q h' _ p c x1 x2 (apA _) (fun b o eb => x3 b o (keep b o eb).1 (keep b o eb).2) x4
end
mutual
def zw : PyData -> Bool
 | .int _ => true
 | .str s => (PyData.str s).canLay0
 | .tuple xs => zG xs
 | _ => false
def zG : List PyData -> Bool
 | [] => true
 | x :: xs => zw x && zG xs
end
mutual
def ltD : PyData -> PyData -> Bool
 | .int a, .int b => decide (a < b)
 | .str a, .str b => decide (a.cps.toList < b.cps.toList)
 | .tuple xs, .tuple ys => ltL xs ys
 | .int _, .str _ => true
 | .int _, .tuple _ => true
 | .str _, .tuple _ => true
 | _, _ => false
def ltL : List PyData -> List PyData -> Bool
 | [], [] => false
 | [], _ :: _ => true
 | _ :: _, [] => false
 | x :: xs, y :: ys => if al4 x y = true then ltL xs ys else ltD x y
end
mutual
def vV : PyData -> PyData -> Bool
 | .int _, .int _ => true
 | .str _, .str _ => true
 | .tuple xs, .tuple ys => qY xs ys
 | _, _ => false
def qY : List PyData -> List PyData -> Bool
 | [], _ => true
 | _ :: _, [] => true
 | x :: xs, y :: ys => if al4 x y = true then qY xs ys else vV x y
end
mutual
theorem yr : ∀ d : PyData, zw d = true -> d.canLay0 = true
 | .int _, _ => rfl
 | .str _, h => h
 | .tuple xs, h => by rw [PyData.canLay0]; exact aaw xs (by rw [zw] at h; exact h)
 | .none, h => by cases h
 | .bool _, h => by cases h
 | .list _, h => by cases h
 | .dict _, h => by cases h
theorem aaw : ∀ xs : List PyData, zG xs = true -> ams xs = true
 | [], _ => rfl
 | x :: xs, h => by
  rw [zG, alM] at h
  rw [ams, yr x h.1, aaw xs h.2]
  rfl
end
mutual
theorem ag5 : ∀ a b : PyData, zw a = true -> zw b = true -> al4 a b = true -> a = b
 | .int a, .int b, _, _, h => by simpa [al4] using h
 | .str a, .str b, _, _, h => by simpa [al4] using h
 | .tuple xs, .tuple ys, h1, h2, h => by rw [aeE xs ys (by rw [zw] at h1; exact h1) (by rw [zw] at h2; exact h2) (by rw [al4] at h; exact h)]
 | .int _, .str _, _, _, h => by simp [al4] at h
 | .int _, .tuple _, _, _, h => by simp [al4] at h
 | .str _, .int _, _, _, h => by simp [al4] at h
 | .str _, .tuple _, _, _, h => by simp [al4] at h
 | .tuple _, .int _, _, _, h => by simp [al4] at h
 | .tuple _, .str _, _, _, h => by simp [al4] at h
 | .none, _, h, _, _ => by cases h
 | .bool _, _, h, _, _ => by cases h
 | .list _, _, h, _, _ => by cases h
 | .dict _, _, h, _, _ => by cases h
 | .int _, .none, _, h, _ => by cases h
 | .int _, .bool _, _, h, _ => by cases h
 | .int _, .list _, _, h, _ => by cases h
 | .int _, .dict _, _, h, _ => by cases h
 | .str _, .none, _, h, _ => by cases h
 | .str _, .bool _, _, h, _ => by cases h
 | .str _, .list _, _, h, _ => by cases h
 | .str _, .dict _, _, h, _ => by cases h
 | .tuple _, .none, _, h, _ => by cases h
 | .tuple _, .bool _, _, h, _ => by cases h
 | .tuple _, .list _, _, h, _ => by cases h
 | .tuple _, .dict _, _, h, _ => by cases h
theorem aeE : ∀ xs ys : List PyData, zG xs = true -> zG ys = true -> aoQ xs ys = true -> xs = ys
 | [], [], _, _, _ => rfl
 | [], _ :: _, _, _, h => by simp [aoQ] at h
 | _ :: _, [], _, _, h => by simp [aoQ] at h
 | x :: xs, y :: ys, h1, h2, h => by
  rw [zG, alM] at h1 h2
  rw [aoQ, alM] at h
  rw [ag5 x y h1.1 h2.1 h.1, aeE xs ys h1.2 h2.2 h.2]
end
theorem v8 {a b : PyData} (ha : zw a = true) (hb : zw b = true) : al4 a b = true ↔ a = b :=
 ⟨ag5 a b ha hb, fun h => by subst h; exact anU a (yr a ha)⟩
theorem jA {x y : PyData} {xs ys : List PyData} (hx : zw x = true) (hy : zw y = true) [Decidable (x = y)] : ltL (x :: xs) (y :: ys) = if x = y then ltL xs ys else ltD x y := by
 rw [ltL]
 by_cases h : x = y
 ·rw [if_pos ((v8 hx hy).mpr h), if_pos h]
 ·rw [if_neg (fun z => h ((v8 hx hy).mp z)), if_neg h]
theorem ag6 {a b : List Nat} (h : a ≠ b) : decide (a < b) = !decide (b < a) := by
 by_cases h1 : a < b
 ·rw [decide_eq_true h1, decide_eq_false (fun z => List.lt_irrefl a (List.lt_trans h1 z))]
  rfl
 ·have h2 : b < a := by
   have : b <= a := List.not_lt.mp h1
   rcases List.le_iff_lt_or_eq.mp this with z | z
   ·exact z
   ·exact absurd z.symm h
  rw [decide_eq_false h1, decide_eq_true h2]
  rfl
theorem akl {a b : Str} (h : a ≠ b) : a.cps.toList ≠ b.cps.toList := fun z => h (by
 cases a; cases b
 simp only [Str.mk.injEq] at *
 exact Array.toList_inj.mp z)
mutual
theorem adU : ∀ a b : PyData, zw a = true -> zw b = true -> a ≠ b -> ltD a b = !ltD b a
 | .int a, b, ha, hb, ne => by
  cases b with
  | int b =>
   rw [ltD, ltD]
   have : a ≠ b := fun z => ne (by rw [z])
   by_cases h : a < b
   ·rw [decide_eq_true h, decide_eq_false (by omega)]; rfl
   ·rw [decide_eq_false h, decide_eq_true (by omega)]; rfl
  | str b => simp [ltD]
  | tuple ys => simp [ltD]
  | none => cases hb
  | bool _ => cases hb
  | list _ => cases hb
  | dict _ => cases hb
 | .str a, b, ha, hb, ne => by
  cases b with
  | int b => simp [ltD]
  | str b =>
   rw [ltD, ltD]
   exact ag6 (akl fun z => ne (by rw [z]))
  | tuple ys => simp [ltD]
  | none => cases hb
  | bool _ => cases hb
  | list _ => cases hb
  | dict _ => cases hb
 | .tuple xs, b, ha, hb, ne => by
  cases b with
  | int b => simp [ltD]
  | str b => simp [ltD]
  | tuple ys =>
   rw [ltD, ltD]
   rw [zw] at ha hb
   exact aeF xs ys ha hb fun z => ne (by rw [z])
  | none => cases hb
  | bool _ => cases hb
  | list _ => cases hb
  | dict _ => cases hb
 | .none, _, h, _, _ => by cases h
 | .bool _, _, h, _, _ => by cases h
 | .list _, _, h, _, _ => by cases h
 | .dict _, _, h, _, _ => by cases h
theorem aeF : ∀ xs ys : List PyData, zG xs = true -> zG ys = true -> xs ≠ ys -> ltL xs ys = !ltL ys xs
 | [], [], _, _, ne => absurd rfl ne
 | [], _ :: _, _, _, _ => by simp [ltL]
 | _ :: _, [], _, _, _ => by simp [ltL]
 | x :: xs, y :: ys, h1, h2, ne => by
  rw [zG, alM] at h1 h2
  have := amy (x = y)
  have := amy (y = x)
  rw [jA h1.1 h2.1, jA h2.1 h1.1]
  by_cases e : x = y
  ·rw [if_pos e, if_pos e.symm]
   exact aeF xs ys h1.2 h2.2 fun z => ne (by rw [e, z])
  ·rw [if_neg e, if_neg (amN e)]
   exact adU x y h1.1 h2.1 e
end
mutual
theorem abL : ∀ a : PyData, zw a = true -> ltD a a = false
 | .int a, _ => by rw [ltD]; exact decide_eq_false (Int.lt_irrefl a)
 | .str a, _ => by rw [ltD]; exact decide_eq_false (List.lt_irrefl _)
 | .tuple xs, h => by rw [ltD]; rw [zw] at h; exact aeG xs h
 | .none, h => by cases h
 | .bool _, h => by cases h
 | .list _, h => by cases h
 | .dict _, h => by cases h
theorem aeG : ∀ xs : List PyData, zG xs = true -> ltL xs xs = false
 | [], _ => by rw [ltL]
 | x :: xs, h => by
  rw [zG, alM] at h
  have := amy (x = x)
  rw [jA h.1 h.1, if_pos rfl]
  exact aeG xs h.2
end
theorem lt_asymm {a b : PyData} (ha : zw a = true) (hb : zw b = true) (h : ltD a b = true) : a ≠ b := fun z => by
 subst z
 rw [abL a ha] at h
 cases h
mutual
theorem adV : ∀ a b c : PyData, zw a = true -> zw b = true -> zw c = true -> ltD a b = true -> ltD b c = true -> ltD a c = true
 | .int a, b, c, ha, hb, hc, h1, h2 => by
  cases b <;> first | (cases hb; done) | skip
  all_goals cases c <;> first | (cases hc; done) | skip
  all_goals first | (simp [ltD] at h1 h2 ⊢; omega) | (simp [ltD] at h1 h2 ⊢; done) | (simp [ltD] at h1; done) | (simp [ltD] at h2; done)
 | .str a, b, c, ha, hb, hc, h1, h2 => by
  cases b <;> first | (cases hb; done) | skip
  all_goals cases c <;> first | (cases hc; done) | skip
  all_goals first | (simp [ltD] at h1; done) | (simp [ltD] at h2; done) | (rw [ltD] at h1 h2 ⊢; exact decide_eq_true (List.lt_trans (of_decide_eq_true h1) (of_decide_eq_true h2))) | (simp [ltD] at h1 h2 ⊢; done)
 | .tuple xs, b, c, ha, hb, hc, h1, h2 => by
  cases b with
  | tuple ys =>
   cases c with
   | tuple zs =>
    rw [ltD] at h1 h2 ⊢
    rw [zw] at ha hb hc
    exact aeH xs ys zs ha hb hc h1 h2
   | int _ => simp [ltD] at h2
   | str _ => simp [ltD] at h2
   | none => cases hc
   | bool _ => cases hc
   | list _ => cases hc
   | dict _ => cases hc
  | int _ => simp [ltD] at h1
  | str _ => simp [ltD] at h1
  | none => cases hb
  | bool _ => cases hb
  | list _ => cases hb
  | dict _ => cases hb
 | .none, _, _, h, _, _, _, _ => by cases h
 | .bool _, _, _, h, _, _, _, _ => by cases h
 | .list _, _, _, h, _, _, _, _ => by cases h
 | .dict _, _, _, h, _, _, _, _ => by cases h
theorem aeH : ∀ xs ys zs : List PyData, zG xs = true -> zG ys = true -> zG zs = true -> ltL xs ys = true -> ltL ys zs = true -> ltL xs zs = true
 | [], ys, [], _, _, _, h1, h2 => by
  cases ys with
  | nil => exact h1
  | cons y ys => simp [ltL] at h2
 | [], _, _ :: _, _, _, _, _, _ => by rw [ltL]
 | _ :: _, [], _, _, _, _, h1, _ => by simp [ltL] at h1
 | _ :: _, _ :: _, [], _, _, _, _, h2 => by simp [ltL] at h2
 | x :: xs, y :: ys, z :: zs, p1, p2, p3, h1, h2 => by
  rw [zG, alM] at p1 p2 p3
  have := amy (x = y)
  have := amy (y = z)
  have := amy (x = z)
  rw [jA p1.1 p2.1] at h1
  rw [jA p2.1 p3.1] at h2
  rw [jA p1.1 p3.1]
  by_cases e1 : x = y
  ·rw [if_pos e1] at h1
   by_cases e2 : y = z
   ·rw [if_pos e2] at h2
    rw [if_pos (e1.trans e2)]
    exact aeH xs ys zs p1.2 p2.2 p3.2 h1 h2
   ·rw [if_neg e2] at h2
    rw [if_neg (fun q => e2 (e1.symm.trans q)), e1]
    exact h2
  ·rw [if_neg e1] at h1
   by_cases e2 : y = z
   ·rw [if_neg (fun q => e1 (q.trans e2.symm)), <- e2]
    exact h1
   ·rw [if_neg e2] at h2
    have h3 := adV x y z p1.1 p2.1 p3.1 h1 h2
    rw [if_neg (lt_asymm p1.1 p3.1 h3)]
    exact h3
end
end L2
end
section
namespace L2
open PySem PySem.Spec PyProof.Rows PySem.SeqAt
open PySem.AutoSeq1 (wpAny_loadPart')
open PySem.MeetsSeq PySem.MeetsSeq2 PySem.MeetsSeq3
def ak8 (A : Around) (s : Shared) (y x : Value) (b : Bool) : Prop :=
 ∀ (prog : Program) (w : World) (E : Value -> Shared -> Prop) (Q : Value -> Shared -> Prop), Q (.bool b) s -> wpAny (model prog w) A (richCompare .Lt y x) Q E s
inductive Lex (A : Around) (s : Shared) : List Value -> List Value -> Bool -> Prop where
 | nn : Lex A s [] [] false
 | nc {w ws} : Lex A s [] (w :: ws) true
 | cn {v vs} : Lex A s (v :: vs) [] false
 | eq {v w vs ws b} : EqAt A s v w true -> Lex A s vs ws b -> Lex A s (v :: vs) (w :: ws) b
 | lt {v w vs ws b} : EqAt A s v w false -> ak8 A s v w b -> Lex A s (v :: vs) (w :: ws) b
theorem abM (l m : Addr) (xs ys : Array Value) (n n2 : Nat) (dd dd2 : Option Addr) (sl sl2 : Array (Option Value)) (c : Bool) :
  Meets (Builtin.«tuple.__lt__» ⟨[.ref l, .ref m], []⟩)
   (fun A R s => s.heap.get? l = some { cls := .type "tuple", dict := dd, data := .seq xs n, slots := sl } /\ s.heap.get? m = some { cls := .type "tuple", dict := dd2, data := .seq ys n2, slots := sl2 } /\
    Lex A.in1 s xs.toList ys.toList c /\ R (.ok (.ret (.bool c))) s) :=
 .of_wp fun prog w A R s h => by
  obtain ⟨hp, g, d, tk, os⟩ := s; obtain ⟨hl, hb, hx, h⟩ := h
  have f2 := AutoSeq1.sub_tuple_tuple
  wp_walk using wpAny_loadPart' hl, wpAny_loadPart' hb, wpAny_forIn_list _ (fun rest b s' => b.1 = none /\ s' = ⟨hp, g, d, tk, os⟩ /\ ∃ (vs ws : List Value), rest = vs.zip ws /\ Lex A.in1 ⟨hp, g, d, tk, os⟩ vs ws c /\ vs.length + ys.size = ws.length + xs.size) _
  case turn =>
   rintro ⟨y, x⟩ rest b s' ⟨hb', rfl, vs, ws, hz, lx, hn⟩
   cases lx with
   | nn => cases hz
   | nc => cases hz
   | cn => cases hz
   | eq he lx' =>
    rw [anm] at hz
    cases hz
    refine wpAny_bind (he prog w _ _ ?_)
    wp_walk
    exact ⟨rfl, rfl, _, _, rfl, lx', by simp only [alV] at hn; omega⟩
   | lt he hlt =>
    rw [anm] at hz
    cases hz
    refine wpAny_bind (he prog w _ _ ?_)
    have hri := hlt prog w
    wp_walk using hri
    exact ⟨_, rfl, h⟩
  case fin =>
   rintro ⟨b1, b2⟩ s' ⟨hb', rfl, vs, ws, hz, lx, hn⟩
   simp only at hb'
   subst hb'
   have hv : decide (xs.size < ys.size) = c := by
    cases lx with
    | nn => simp only [am7] at hn; exact decide_eq_false (by omega)
    | nc => simp only [am7, alV] at hn; exact decide_eq_true (by omega)
    | cn => simp only [am7, alV] at hn; exact decide_eq_false (by omega)
    | eq _ _ => cases hz
    | lt _ _ => cases hz
   wp_walk
   rw [<- hv] at h
   exact ⟨_, rfl, by simpa [Builtin.Tuple.tupleCompareSizes] using h⟩
  case h => exact ⟨rfl, rfl, _, _, rfl, hx, by simp only [alS]; omega⟩
mutual
theorem acR : ∀ (da db : PyData) (A : Around) (s : Shared) (a b : Value) (as bs : List Addr), Reads s.heap a da as -> Reads s.heap b db bs -> zw da = true -> zw db = true -> vV da db = true ->
  A.units + max da.depth db.depth < cLine -> ak8 A s a b (ltD da db)
 | .int x, db, A, s, _, _, _, _, ra, rb, _, _, hc, hu => by
  cases ra with
  | int _ t =>
   cases db with
   | int y =>
    cases rb with
    | int _ u =>
     intro prog w E Q q
     exact HT.rcLt_int A s x t y u prog w E Q (by rw [ltD] at q; exact q)
   | _ => cases hc
 | .str x, db, A, s, _, _, _, _, ra, rb, _, _, hc, hu => by
  cases ra with
  | str _ t =>
   cases db with
   | str y =>
    cases rb with
    | str _ u =>
     intro prog w E Q q
     exact (PyProof.Rows.lt_str (by rw [ltD] at q; exact q) : wpAny (model prog w) A (compareOp .Lt (.str x t) (.str y u)) Q E s)
   | _ => cases hc
 | .tuple xs, db, A, s, _, _, _, _, ra, rb, pa, pb, hc, hu => by
  cases ra with
  | @tuple l o vs n _ as h1 h2 h3 h4 =>
   cases db with
   | tuple ys =>
    cases rb with
    | @tuple m o2 ws n2 _ bs k1 k2 k3 k4 =>
     intro prog w E Q q
     obtain ⟨cls, dd, data, sl⟩ := o
     obtain ⟨cls2, dd2, data2, sl2⟩ := o2
     simp only at h2 h3 k2 k3
     subst h2 h3 k2 k3
     rw [zw] at pa pb
     rw [vV] at hc
     rw [ltD] at q
     have hd : A.in1.units + max (alK xs) (alK ys) < cLine := by
      have e1 : (PyData.tuple xs).depth = alK xs + 1 := rfl
      have e2 : (PyData.tuple ys).depth = alK ys + 1 := rfl
      have e3 : A.in1.units = A.units + 1 := rfl
      rw [e1, e2] at hu
      omega
     have lx := abd xs ys A.in1 s _ _ _ _ h4 k4 pa pb hc hd
     exact richCompare_meets_room (op := .Lt) ⟨_, h1, rfl⟩ ⟨_, k1, rfl⟩ PySem.F.slot_tuple_lt PySem.F.entry_tuple_lt (PySem.F.args_tuple_lt_2 _ _) (abM l m vs ws n n2 dd dd2 sl sl2 (ltL xs ys))
      ⟨h1, k1, lx, show Value.bool (ltL xs ys) ≠ Value.notImplemented /\ Q (.bool (ltL xs ys)) s from ⟨(fun x => nomatch x), q⟩⟩ (by omega)
   | _ => cases hc
 | .none, _, _, _, _, _, _, _, _, _, h, _, _, _ => by cases h
 | .bool _, _, _, _, _, _, _, _, _, _, h, _, _, _ => by cases h
 | .list _, _, _, _, _, _, _, _, _, _, h, _, _, _ => by cases h
 | .dict _, _, _, _, _, _, _, _, _, _, h, _, _, _ => by cases h
theorem abd : ∀ (xs ys : List PyData) (A : Around) (s : Shared) (vs ws : List Value) (as bs : List Addr), ReadsAll s.heap vs xs as -> ReadsAll s.heap ws ys bs -> zG xs = true -> zG ys = true -> qY xs ys = true ->
  A.units + max (alK xs) (alK ys) < cLine -> Lex A s vs ws (ltL xs ys)
 | [], [], _, _, _, _, _, _, ra, rb, _, _, _, _ => by cases ra; cases rb; rw [ltL]; exact .nn
 | [], _ :: _, _, _, _, _, _, _, ra, rb, _, _, _, _ => by cases ra; cases rb; rw [ltL]; exact .nc
 | _ :: _, [], _, _, _, _, _, _, ra, rb, _, _, _, _ => by cases ra; cases rb; rw [ltL]; exact .cn
 | x :: xs, y :: ys, A, s, _, _, _, _, ra, rb, pa, pb, hc, hu => by
  cases ra with
  | cons r rs =>
   cases rb with
   | cons r' rs' =>
    rw [zG, alM] at pa pb
    rw [qY] at hc
    rw [ltL]
    have e1 : alK (x :: xs) = max x.depth (alK xs) := rfl
    have e2 : alK (y :: ys) = max y.depth (alK ys) := rfl
    rw [e1, e2] at hu
    have eq := eqAt_reads x y A s _ _ _ _ r r' (yr x pa.1) (yr y pb.1) (by omega)
    by_cases e : al4 x y = true
    ·rw [if_pos e] at hc ⊢
     rw [e] at eq
     exact .eq eq (abd xs ys A s _ _ _ _ rs rs' pa.2 pb.2 hc (by omega))
    ·rw [if_neg e] at hc ⊢
     rw [Bool.not_eq_true] at e
     rw [e] at eq
     exact .lt eq (acR x y A s _ _ _ _ r r' pa.1 pb.1 hc (by omega))
end
end L2
end
section
namespace L2
open PySem PySem.Spec PyProof.Rows PySem.SeqAt PySem.W
section
variable {P : Program} {w : World} {A : Around} {s : Shared} {b : Bool} {Q : Bool -> Shared -> Prop}
theorem abN {fin : Bool} {x y : PyData} {p q : Value} {r : List (Value × Value)} {i : Nat} {as bs : List Addr} {c : Bool} (rx : Reads s.heap p x as) (ry : Reads s.heap q y bs) (px : zw x = true) (py : zw y = true) (hu : A.units + max x.depth y.depth < cLine)
  (h1 : al4 x y = true -> KatLex P w A b fin Q r (i + 1) s) (h2 : al4 x y = false -> wpAny (model P w) A (oneLt' (b && i == 0) p q) Q (fun _ _ => False) s) : KatLex P w A b fin Q ((p, q) :: r) i s := by
 refine kat_cons (eqAt_reads x y A s _ _ _ _ rx ry (yr x px) (yr y py) (by omega) P w _ _ ?_)
 exact kat_go (fun e => kat_yes (h1 e)) fun e => kat_no (h2 e)
theorem qZ {m n : Nat} : ∀ (xs ys : List PyData) (vs ws : List Value) (as bs : List Addr) (i : Nat), (1 <= i \/ b = false) -> ReadsAll s.heap vs xs as -> ReadsAll s.heap ws ys bs -> zG xs = true -> zG ys = true -> qY xs ys = true ->
  A.units + max (alK xs) (alK ys) < cLine -> xs.length + n = ys.length + m -> Q (ltL xs ys) s -> KatLex P w A b (decide (m < n)) Q (vs.zip ws) i s
 | [], [], _, _, _, _, i, _, ra, rb, _, _, _, _, hl, q => by
  cases ra; cases rb
  rw [ltL] at q
  simp only [am7] at hl
  rw [decide_eq_false (show ¬ m < n by omega)]
  exact kat_nil q
 | [], y :: ys, _, _, _, _, i, _, ra, rb, _, _, _, _, hl, q => by
  cases ra; cases rb
  rw [ltL] at q
  simp only [am7, alV] at hl
  rw [decide_eq_true (show m < n by omega)]
  exact kat_nil q
 | x :: xs, [], _, _, _, _, i, _, ra, rb, _, _, _, _, hl, q => by
  cases ra; cases rb
  rw [ltL] at q
  simp only [am7, alV] at hl
  rw [decide_eq_false (show ¬ m < n by omega), List.zip_nil_right]
  exact kat_nil q
 | x :: xs, y :: ys, _, _, _, _, i, hi, ra, rb, pa, pb, hc, hu, hl, q => by
  cases ra with
  | cons r rs =>
   cases rb with
   | cons r' rs' =>
    rw [zG, alM] at pa pb
    rw [qY] at hc
    rw [ltL] at q
    have e1 : alK (x :: xs) = max x.depth (alK xs) := rfl
    have e2 : alK (y :: ys) = max y.depth (alK ys) := rfl
    rw [e1, e2] at hu
    simp only [alV] at hl
    rw [anm]
    refine abN (c := true) r r' pa.1 pb.1 (by omega) (fun e => ?_) fun e => ?_
    ·rw [if_pos e] at hc q
     exact qZ xs ys _ _ _ _ (i + 1) (.inl (by omega)) rs rs' pa.2 pb.2 hc (by omega) (by omega) q
    ·rw [if_neg (by rw [e]; exact alC)] at hc q
     have ef : (b && i == 0) = false := by
      rcases hi with hi | hi
      ·rw [show (i == 0) = false from beq_eq_false_iff_ne.mpr (by omega), aoA]
      ·rw [hi]; rfl
     rw [ef]
     exact kat_one _ _ (acR x y A s _ _ _ _ r r' pa.1 pb.1 hc (by omega) P w _ _ q)
end
def jB : PyData -> Option String
 | .tuple (.int _ :: _) => some "int"
 | .tuple (.str _ :: _) => some "str"
 | .tuple (.tuple _ :: _) => some "tuple"
 | _ => none
structure SortOk (T : String) (ds : List PyData) : Prop where
 plain : ∀ d ∈ ds, zw d = true
 head : ∀ d ∈ ds, jB d = some T
 cmp : ∀ d ∈ ds, ∀ e ∈ ds, vV d e = true
 depth : ∀ d ∈ ds, d.depth <= 50
 nd : ds.Nodup
theorem qc {d : PyData} {T : String} (h : jB d = some T) : ∃ x xs, d = .tuple (x :: xs) /\ ((T = "int" /\ ∃ n, x = .int n) \/ (T = "str" /\ ∃ n, x = .str n) \/ (T = "tuple" /\ ∃ n, x = .tuple n)) := by
 unfold jB at h
 split at h
 ·cases h; exact ⟨_, _, rfl, .inl ⟨rfl, _, rfl⟩⟩
 ·cases h; exact ⟨_, _, rfl, .inr (.inl ⟨rfl, _, rfl⟩)⟩
 ·cases h; exact ⟨_, _, rfl, .inr (.inr ⟨rfl, _, rfl⟩)⟩
 ·cases h
section
variable {P : Program} {w : World} {A : Around} {s : Shared} {T : String}
theorem akm {d e : PyData} {v u : Value} {as bs : List Addr} {C : Bool -> Shared -> Prop} (rd : Reads s.heap v d as) (re : Reads s.heap u e bs) (pd : zw d = true) (pe : zw e = true) (hd : jB d = some T) (he : jB e = some T) (hc : vV d e = true)
  (hu : A.units + 60 < cLine) (d1 : d.depth <= 50) (d2 : e.depth <= 50) (q : C (ltD d e) s) : wpAny (model P w) A (keyLt' (tuples' (Value.type T != Value.type "tuple")) v u) C (fun _ _ => False) s := by
 obtain ⟨x, xs, rfl, hx⟩ := qc hd
 obtain ⟨y, ys, rfl, hy⟩ := qc he
 cases rd with
 | @tuple l o vs n _ as h1 h2 h3 h4 =>
  cases re with
  | @tuple m o2 ws n2 _ bs k1 k2 k3 k4 =>
   have l1 := aog _ _ _ h4
   have l2 := aog _ _ _ k4
   rw [alS] at l1 l2
   refine kat_lt h1 h3 k1 k3 ?_
   rw [zw] at pd pe
   rw [vV] at hc
   rw [ltD] at q
   have e1 : (PyData.tuple (x :: xs)).depth = alK (x :: xs) + 1 := rfl
   have e2 : (PyData.tuple (y :: ys)).depth = alK (y :: ys) + 1 := rfl
   have e3 : alK (x :: xs) = max x.depth (alK xs) := rfl
   have e4 : alK (y :: ys) = max y.depth (alK ys) := rfl
   rcases hx with ⟨rfl, nx, rfl⟩ | ⟨rfl, nx, rfl⟩ | ⟨rfl, nx, rfl⟩
   ·obtain ⟨ny, rfl⟩ : ∃ ny, y = .int ny := by
     rcases hy with ⟨_, h⟩ | ⟨z, _⟩ | ⟨z, _⟩
     ·exact h
     ·exact absurd z (by decide)
     ·exact absurd z (by decide)
    obtain ⟨vl⟩ := vs
    obtain ⟨wl⟩ := ws
    cases h4 with
    | cons r rs =>
     cases k4 with
     | cons r' rs' =>
      rw [zG, alM] at pd pe
      rw [qY] at hc
      rw [ltL] at q
      rw [anm]
      refine abN (c := true) r r' rfl rfl (by omega) (fun e => ?_) fun e => ?_
      ·rw [if_pos e] at hc q
       exact qZ xs ys _ _ _ _ 1 (.inl (alI 1)) rs rs' pd.2 pe.2 hc (by omega) (by simp only [alV] at l1 l2; omega) q
      ·rw [if_neg (by rw [e]; exact alC)] at q
       rw [show ((Value.type "int" != Value.type "tuple") && (0 == 0)) = true by decide]
       cases r
       cases r'
       rw [ltD] at q
       exact oneLt_int q
   ·obtain ⟨ny, rfl⟩ : ∃ ny, y = .str ny := by
     rcases hy with ⟨z, _⟩ | ⟨_, h⟩ | ⟨z, _⟩
     ·exact absurd z (by decide)
     ·exact h
     ·exact absurd z (by decide)
    obtain ⟨vl⟩ := vs
    obtain ⟨wl⟩ := ws
    cases h4 with
    | cons r rs =>
     cases k4 with
     | cons r' rs' =>
      rw [zG, alM] at pd pe
      rw [qY] at hc
      rw [ltL] at q
      rw [anm]
      refine abN (c := true) r r' pd.1 pe.1 (by omega) (fun e => ?_) fun e => ?_
      ·rw [if_pos e] at hc q
       exact qZ xs ys _ _ _ _ 1 (.inl (alI 1)) rs rs' pd.2 pe.2 hc (by omega) (by simp only [alV] at l1 l2; omega) q
      ·rw [if_neg (by rw [e]; exact alC)] at q
       rw [show ((Value.type "str" != Value.type "tuple") && (0 == 0)) = true by decide]
       cases r
       cases r'
       rw [ltD] at q
       exact oneLt_str q
   ·exact qZ _ _ _ _ _ _ 0 (.inr (by decide)) h4 k4 pd pe hc (by omega) (by rw [l1, l2]; omega) q
theorem ReadsAll.at {h : Heap} : ∀ {vs : List Value} {ds : List PyData} {as : List Addr}, ReadsAll h vs ds as -> ∀ i, i < ds.length -> ∃ bs, Reads h (vs.getD i Value.none) (ds.getD i .none) bs
 | _, _, _, .nil, i, hi => absurd hi (amU _)
 | _, _, _, .cons r rs, 0, _ => ⟨_, r⟩
 | _, _, _, .cons r rs, i + 1, hi => ReadsAll.at rs i (Nat.lt_of_succ_lt_succ hi)
theorem ReadsAll.keep {h h' : Heap} (k : ∀ b o, h.get? b = some o -> h'.get? b = some o) : ∀ {vs : List Value} {ds : List PyData} {as : List Addr}, ReadsAll h vs ds as -> ReadsAll h' vs ds as
 | _, _, _, .nil => .nil
 | _, _, _, .cons r rs => .cons (PyProof.Rows.Reads.keeps k r) (ReadsAll.keep k rs)
theorem aeI {h : Heap} : ∀ {vs : List Value} {ds : List PyData} {as : List Addr}, ReadsAll h vs ds as -> (∀ d ∈ ds, jB d = some T) -> ∃ fs, KatTups h vs fs /\ fs.length = vs.length /\ ∀ v ∈ fs, Looks (model P w) h (typeOf v) (.type T)
 | _, _, _, .nil, _ => ⟨[], .nil, rfl, fun _ h => nomatch h⟩
 | _, d :: ds, _, .cons r rs, hh => by
  obtain ⟨fs, h1, h2, h3⟩ := aeI rs fun d hd => hh d (alH _ hd)
  obtain ⟨x, xs, rfl, hx⟩ := qc (hh d alL)
  cases r with
  | @tuple l o vs n _ as k1 k2 k3 k4 =>
   obtain ⟨vl⟩ := vs
   cases k4 with
   | @cons v0 vs0 _ _ _ _ r0 rs0 =>
    refine ⟨v0 :: fs, .cons k1 k2 k3 rfl h1, by simp [h2], fun v hv => ?_⟩
    rcases alO.mp hv with rfl | hv
    ·rcases hx with ⟨rfl, nx, rfl⟩ | ⟨rfl, nx, rfl⟩ | ⟨rfl, nx, rfl⟩
     ·cases r0; exact Looks.of_pure rfl
     ·cases r0; exact Looks.of_pure rfl
     ·cases r0 with
      | tuple q1 q2 q3 q4 => rw [<- q2]; exact (Looks.ld q1).andThen .now
    ·exact h3 v hv
theorem akn {ds : List PyData} (ok : SortOk T ds) : Tot ds.length fun i j => ltD (ds.getD i .none) (ds.getD j .none) := by
 have mem : ∀ i, i < ds.length -> ds.getD i .none ∈ ds := fun i hi => by
  rw [alF, alB hi]
  exact al9 hi
 refine ⟨fun i j hi hj ne => adU _ _ (ok.plain _ (mem i hi)) (ok.plain _ (mem j hj)) fun z => ne ?_, fun i j k hi hj hk => adV _ _ _ (ok.plain _ (mem i hi)) (ok.plain _ (mem j hj)) (ok.plain _ (mem k hk))⟩
 rw [alF, alF, alB hi, alB hj] at z
 exact (aoi ok.nd).mp z
theorem ais {vs : List Value} {ds : List PyData} {as : List Addr} (ra : ReadsAll s.heap vs ds as) (ok : SortOk T ds) (hu : A.units + 60 < cLine) (few : ds.length < 64 \/ ds.Pairwise fun d e => ltD d e = true) :
  Asks P w A s (tuples' (Value.type T != Value.type "tuple")) vs fun i j => ltD (ds.getD i .none) (ds.getD j .none) := by
 have len := aog _ _ _ ra
 have mem : ∀ i, i < ds.length -> ds.getD i .none ∈ ds := fun i hi => by
  rw [alF, alB hi]
  exact al9 hi
 refine ⟨fun h2 h' k R q => ?_, fun h' k i j C hi hj q => ?_, by rw [len]; exact akn ok, ?_⟩
 ·obtain ⟨fs, f1, f2, f3⟩ := aeI (P := P) (w := w) (ReadsAll.keep k ra) ok.head
  exact kat_kind f1 (by omega) f3 (beq_self_eq_true _) q
 ·rw [len] at hi hj
  obtain ⟨b1, r1⟩ := ReadsAll.at (ReadsAll.keep k ra) i hi
  obtain ⟨b2, r2⟩ := ReadsAll.at (ReadsAll.keep k ra) j hj
  exact akm r1 r2 (ok.plain _ (mem i hi)) (ok.plain _ (mem j hj)) (ok.head _ (mem i hi)) (ok.head _ (mem j hj)) (ok.cmp _ (mem i hi) _ (mem j hj)) hu (ok.depth _ (mem i hi)) (ok.depth _ (mem j hj)) q
 ·rw [len]
  refine few.imp id fun pw i hi => ?_
  have h1 := am4.mp pw i (i + 1) (by omega) hi (by omega)
  have g : ∀ j (hj : j < ds.length), ds.getD j .none = ds[j] := fun j hj => by rw [alF, alB hj]; rfl
  rw [g _ hi, g i (by omega)]
  have ne := lt_asymm (ok.plain _ (al9 _)) (ok.plain _ (al9 _)) h1
  have := adU _ _ (ok.plain _ (al9 _)) (ok.plain _ (al9 _)) ne
  rw [h1] at this
  revert this
  cases ltD ds[i + 1] ds[i] <;> simp
end
def pick {α : Type} (d : α) (p : Array Nat) (xs : List α) : List α := p.toList.map fun i => xs.getD i d
theorem aeJ : ∀ {xs : List V} {us : List Value}, Vals xs us -> ∀ i, RelV (xs.getD i .non) (us.getD i Value.none)
 | _, _, .nil, i => rfl
 | _, _, .cons r t, 0 => r
 | _, _, .cons r t, i + 1 => aeJ t i
theorem afP {xs : List V} {us : List Value} (r : Vals xs us) (p : Array Nat) : Vals (pick .non p xs) (pick Value.none p us) := by
 unfold pick
 induction p.toList with
 | nil => exact .nil
 | cons i l ih => exact .cons (aeJ r i) ih
theorem aeK {K : alE} {H : Hp} : ∀ {ds : List PyData} {xs : List V}, Reps K H ds xs -> ∀ i, Rep K H (ds.getD i .none) (xs.getD i .non)
 | [], xs, r, i => by
  rw [reps_nil.mp r]
  exact rep_none.mpr rfl
 | d :: ds, xs, r, i => by
  obtain ⟨x, xs', rfl, r1, r2⟩ := reps_cons.mp r
  cases i with
  | zero => exact r1
  | succ i => exact aeK r2 i
theorem afQ {K : alE} {H : Hp} {ds : List PyData} {xs : List V} (r : Reps K H ds xs) (p : Array Nat) : Reps K H (pick .none p ds) (pick .non p xs) := by
 unfold pick
 induction p.toList with
 | nil => exact .nil'
 | cons i l ih => exact .cons' (aeK r i) ih
theorem afR {α : Type} {d : α} {n : Nat} {p : Array Nat} {xs : List α} (h : Pm n p) (hn : n = xs.length) : (pick d p xs).Perm xs := by
 have e : (alY n).map (fun i => xs.getD i d) = xs := by
  subst hn
  refine anT fun i => ?_
  rw [alJ]
  by_cases hi : i < xs.length
  ·rw [anb hi, alB hi]
   simp [hi]
  ·rw [al5 (by simp; omega), al5 (by omega)]
   rfl
 have := h.map fun i => xs.getD i d
 rw [e] at this
 exact this
theorem ait {n : Nat} {p : Array Nat} {ds : List PyData} (h : Pm n p) (u : Up (fun i j => ltD (ds.getD i .none) (ds.getD j .none)) p n) : (pick .none p ds).Pairwise fun d e => ltD d e = true := by
 unfold pick
 rw [am9]
 refine am4.mpr fun i j hi hj hij => ?_
 have hs := h.size
 rw [alS] at hi hj
 have := u i j hij (by omega)
 have g : ∀ k (hk : k < p.toList.length), p.getD k 0 = p.toList[k] := fun k hk => by
  rw [jj, alF, alB hk]
  rfl
 rw [g i (by simpa using hi), g j (by simpa using hj)] at this
 exact this
def abO (K : alE) : List V -> Hp -> VK -> Prop := fun xs H Q => ∃ (a : Addr) (vs : List V) (ds : List PyData) (T : String), xs = [.ref a] /\ SqL K H a vs /\ Reps K H ds vs /\ SortOk T ds /\ ds.length <= 1000 /\ (ds.length < 64 \/ ds.Pairwise fun d e => ltD d e = true) /\
 ∀ l p, H l = none -> Pm ds.length p -> Up (fun i j => ltD (ds.getD i .none) (ds.getD j .none)) p ds.length -> Q (.ref l) (upd H l (.lst (pick .non p vs)))
theorem abP {X : Cx} (hu : X.A.units + 64 < cLine) : yf X (.builtin "sorted") (abO X.K) := by
 intro pins s σ H xs us Q I r h
 obtain ⟨a, vs, ds, T, rfl, ha, rd, ok, hl, few, q⟩ := h
 obtain ⟨u, rfl, rx⟩ := vals1 r
 cases rx
 obtain ⟨its, rv, pl, hz⟩ := I.list ha
 have le := rv.length
 have ld := rd.length
 obtain ⟨as, ra⟩ := ji I ds vs its rd rv
 have e2 : X.A.in1.in1.units = X.A.units + 1 + 1 := rfl
 have lt' : its.length = ds.length := by omega
 refine acQ (by omega) pl.isList (ais ra ok (by omega) few) fun h' D p c x1 x2 x3 x4 x5 => ?_
 rw [lt'] at x1 x2
 have hD : H D = none := I.hok.fresh x3
 have lp : p.toList.length = ds.length := by rw [alS]; exact x1.size
 exact ⟨.ref D, upd H D (.lst (pick .non p vs)), I.laid (t' := s.toks) x4 x3 ⟨by unfold pick; rw [alD]; omega, pick Value.none p its, c, afP rv p, x5⟩, rfl, q D p hD x1 x2⟩
theorem abQ {X : Cx} {K : alE} (hK : X.K = K) (hu : X.A.units + 64 < cLine) : yf X (.builtin "sorted") (abO K) := hK ▸ abP hu
section
variable {K : alE} {f : Fx} {ρ : zq} {P : List PyData -> Prop} {te : TE}
theorem ag7 (T : String) (h : PEd K f te ρ fun x => ∃ ds, x = .list ds /\ SortOk T ds /\ ds.length <= 1000 /\ (ds.length < 64 \/ ds.Pairwise fun d e => ltD d e = true) /\ ∀ es, es.Perm ds -> (es.Pairwise fun d e => ltD d e = true) -> P es) :
  PEdO K f (tCB (abO K) (yc te jX)) ρ P := fun σ H Q e q => h σ H _ e fun x v H1 g1 r1 ⟨ds, ex, ok, hl, few, p⟩ => by
 subst ex
 obtain ⟨a, xs, rfl, h1, h2⟩ := rep_list.mp r1
 refine ⟨a, xs, ds, T, rfl, (zm _ _).seq h1, Reps.mono (zm _ _) _ _ h2, ok, hl, few, fun l pm hn m u => ?_⟩
 have g2 : Goes f H1 (upd H1 l (.lst (pick .non pm xs))) := .of_same (yd hn _) g1.2
 refine q (pick .none pm ds) l _ _ (g1.trans g2) (g1.free e.fd hn) zE (Reps.mono (fun b o hb => ?_) _ _ (afQ h2 pm)) (p _ (afR m rfl) (ait m u))
 have hb' := zM hb
 have hbl : b ≠ l := fun z => by
  have := hb'.2
  rw [z, hn] at this
  cases this
 refine zC (fun z => ?_) (by rw [zz hbl]; exact hb'.2)
 rcases z with z | z
 ·exact hb'.1 (.inl z)
 ·rcases alO.mp z with z | z
  ·exact hbl z
  ·exact hb'.1 (.inr z)
end
end L2
end
section
namespace L2.ST
open PySem PySem.SetTable
def acS (xs : Array Nat) : Prop := ∀ i j, i < j -> j < xs.size -> xs.getD i 0 < xs.getD j 0
theorem ag8 {xs : Array Nat} {i d e : Nat} (h : i < xs.size) : xs.getD i d = xs.getD i e := by simp [anl, h]
theorem aax {xs : Array Nat} {j : Nat} : ∀ f lo hi, hi - lo <= f -> lo <= hi -> hi <= xs.size -> (∀ i, i < lo -> xs.getD i 0 < j) -> (∀ i, hi <= i -> i < xs.size -> j <= xs.getD i 0) -> acS xs ->
  lo <= below.go xs j f lo hi /\ below.go xs j f lo hi <= hi /\ (∀ i, i < below.go xs j f lo hi -> xs.getD i 0 < j) /\ (∀ i, below.go xs j f lo hi <= i -> i < xs.size -> j <= xs.getD i 0)
 | 0, lo, hi, hf, hl, hh, a, b, r => by
  obtain rfl : lo = hi := by omega
  exact ⟨alI _, alI _, a, b⟩
 | f + 1, lo, hi, hf, hl, hh, a, b, r => by
  unfold below.go
  by_cases h : lo < hi
  ·rw [if_pos h]
   have hm : (lo + hi) / 2 < xs.size := by omega
   simp only
   rw [ag8 (e := 0) hm]
   by_cases h2 : xs.getD ((lo + hi) / 2) 0 < j
   ·rw [if_pos h2]
    have := aax f ((lo + hi) / 2 + 1) hi (by omega) (by omega) hh (fun i hi' => by
     by_cases e : i = (lo + hi) / 2
     ·rw [e]; exact h2
     ·exact apy (r i _ (by omega) hm) h2) b r
    exact ⟨by omega, this.2.1, this.2.2⟩
   ·rw [if_neg h2]
    have := aax f lo ((lo + hi) / 2) (by omega) (by omega) (by omega) a (fun i hi' hs => by
     by_cases e : i = (lo + hi) / 2
     ·rw [e]; omega
     ·have := r ((lo + hi) / 2) i (by omega) hs; omega) r
    exact ⟨this.1, by omega, this.2.2⟩
  ·rw [if_neg h]
   obtain rfl : lo = hi := by omega
   exact ⟨alI _, alI _, a, b⟩
theorem acT {xs : Array Nat} (r : acS xs) (j : Nat) : below xs j <= xs.size /\ (∀ i, i < below xs j -> xs.getD i 0 < j) /\ (∀ i, below xs j <= i -> i < xs.size -> j <= xs.getD i 0) := by
 have := aax (xs := xs) (j := j) xs.size 0 xs.size (by omega) (ama _) (alI _) (fun i hi => absurd hi (amU _)) (fun i a b => by omega) r
 exact this.2
theorem below_at {xs : Array Nat} (r : acS xs) {i : Nat} (hi : i < xs.size) : below xs (xs.getD i 0) = i := by
 obtain ⟨a, b, c⟩ := acT r (xs.getD i 0)
 by_cases h : below xs (xs.getD i 0) < i
 ·have h1 := c _ (alI _) (by omega)
  have h2 := r _ i h hi
  omega
 ·by_cases h2 : i < below xs (xs.getD i 0)
  ·have := b i h2; omega
  ·omega
def Tk (t : SetTable) (j : Nat) : Prop := ∃ i, i < t.place.size /\ t.place.getD i 0 = j
theorem slot_live {t : SetTable} (r : acS t.place) {i : Nat} (hi : i < t.place.size) : t.slot (t.place.getD i 0) = .live i := by
 unfold slot
 simp only
 rw [below_at r hi]
 have : (t.place[i]? == some (t.place.getD i 0)) = true := by simp [anl, hi]
 rw [if_pos this]
theorem afS {t : SetTable} (d : t.dummies = #[]) {j : Nat} (h : ¬ Tk t j) : t.slot j = .empty := by
 unfold slot
 simp only
 have h1 : ¬ (t.place[below t.place j]? == some j) = true := fun e => h (by
  have e2 := eq_of_beq e
  obtain ⟨hl, e3⟩ := Array.getElem?_eq_some_iff.mp e2
  exact ⟨_, hl, by simp [anl, hl, e3]⟩)
 rw [if_neg h1]
 have h2 : has t.dummies j = false := by rw [d]; rfl
 rw [h2]
 rfl
def road (mask : Nat) (h : Int) : Nat -> Probe
 | 0 => { j := bits h % (mask + 1), more := runEnd mask (bits h % (mask + 1)) - bits h % (mask + 1), i := bits h % (mask + 1), perturb := bits h, dummy := none }
 | k + 1 => if (road mask h k).more > 0 then { road mask h k with j := (road mask h k).j + 1, more := (road mask h k).more - 1 } else
  { road mask h k with j := (leap mask (road mask h k).i (road mask h k).perturb).1, more := runEnd mask (leap mask (road mask h k).i (road mask h k).perturb).1 - (leap mask (road mask h k).i (road mask h k).perturb).1, i := (leap mask (road mask h k).i (road mask h k).perturb).1, perturb := (leap mask (road mask h k).i (road mask h k).perturb).2 }
theorem road_start (t : SetTable) (h : Int) : t.probeStart h = road t.mask h 0 := rfl
theorem qL (mask : Nat) (h : Int) : ∀ k, (road mask h k).dummy = none
 | 0 => rfl
 | k + 1 => by
  unfold road
  split
  ·exact qL mask h k
  ·exact qL mask h k
abbrev pos (mask : Nat) (h : Int) (k : Nat) : Nat := (road mask h k).j
def lp (mask : Nat) (h : Int) : Nat -> Nat × Nat
 | 0 => (bits h % (mask + 1), bits h)
 | r + 1 => leap mask (lp mask h r).1 (lp mask h r).2
theorem vB (mask i : Nat) (h : i <= mask) : i <= runEnd mask i /\ runEnd mask i <= mask /\ runEnd mask i - i <= 9 := by
 unfold runEnd
 split <;> omega
theorem acU (mask : Nat) (h : Int) : ∀ r, (lp mask h r).1 <= mask
 | 0 => aom.mp (Nat.mod_lt _ (aot _))
 | r + 1 => aom.mp (Nat.mod_lt _ (aot _))
def At (mask : Nat) (h : Int) (k r d : Nat) : Prop := d <= runEnd mask (lp mask h r).1 - (lp mask h r).1 /\ road mask h k = { j := (lp mask h r).1 + d, more := runEnd mask (lp mask h r).1 - (lp mask h r).1 - d, i := (lp mask h r).1, perturb := (lp mask h r).2, dummy := none }
theorem abR (mask : Nat) (h : Int) : At mask h 0 0 0 := ⟨ama _, rfl⟩
theorem aeL {mask : Nat} {h : Int} {k r d : Nat} (a : At mask h k r d) (hd : d < runEnd mask (lp mask h r).1 - (lp mask h r).1) : At mask h (k + 1) r (d + 1) := by
 obtain ⟨a1, a2⟩ := a
 refine ⟨hd, ?_⟩
 unfold road
 rw [a2]
 simp only
 rw [if_pos (by omega)]
 simp only [Probe.mk.injEq, and_true]
 omega
theorem abS {mask : Nat} {h : Int} {k r d : Nat} (a : At mask h k r d) (hd : d = runEnd mask (lp mask h r).1 - (lp mask h r).1) : At mask h (k + 1) (r + 1) 0 := by
 obtain ⟨a1, a2⟩ := a
 refine ⟨ama _, ?_⟩
 unfold road
 rw [a2]
 simp only
 rw [if_neg (by omega)]
 rfl
theorem abT {mask : Nat} {h : Int} {k r : Nat} (a : At mask h k r 0) : ∀ d, d <= runEnd mask (lp mask h r).1 - (lp mask h r).1 -> At mask h (k + d) r d
 | 0, _ => a
 | d + 1, hd => aeL (abT a d (by omega)) (by omega)
theorem acV (mask : Nat) (h : Int) : ∀ r, ∃ k, k <= 10 * r /\ At mask h k r 0
 | 0 => ⟨0, alI _, abR mask h⟩
 | r + 1 => by
  obtain ⟨k, hk, a⟩ := acV mask h r
  have := (vB mask _ (acU mask h r)).2.2
  exact ⟨_, by omega, abS (abT a _ (alI _)) rfl⟩
theorem ag9 (mask : Nat) (h : Int) : ∀ k, ∃ r d, At mask h k r d
 | 0 => ⟨0, 0, abR mask h⟩
 | k + 1 => by
  obtain ⟨r, d, a⟩ := ag9 mask h k
  by_cases e : d < runEnd mask (lp mask h r).1 - (lp mask h r).1
  ·exact ⟨r, d + 1, aeL a e⟩
  ·exact ⟨r + 1, 0, abS a (Nat.le_antisymm a.1 (by omega))⟩
theorem abU (mask : Nat) (h : Int) (k : Nat) : pos mask h k <= mask := by
 obtain ⟨r, d, a1, a2⟩ := ag9 mask h k
 unfold pos
 rw [a2]
 have := vB mask _ (acU mask h r)
 show (lp mask h r).1 + d <= mask
 omega
def stp (m i : Nat) : Nat := (i * 5 + 1) % m
def itr (m : Nat) : Nat -> Nat -> Nat
 | 0, i => i
 | r + 1, i => stp m (itr m r i)
theorem q9 (m : Nat) (a : Nat) : ∀ b i, itr m (a + b) i = itr m b (itr m a i)
 | 0, i => rfl
 | b + 1, i => by show stp m (itr m (a + b) i) = stp m (itr m b (itr m a i)); rw [q9 m a b i]
def orb (m : Nat) : Nat -> Nat -> List Nat
 | 0, _ => []
 | f + 1, i => i :: orb m f (stp m i)
theorem aha (m : Nat) : ∀ f i r, r < f -> (orb m f i)[r]? = some (itr m r i)
 | 0, _, _, h => absurd h (amU _)
 | f + 1, i, 0, _ => rfl
 | f + 1, i, r + 1, h => by
  show (orb m f (stp m i))[r]? = _
  rw [aha m f (stp m i) r (by omega), show r + 1 = 1 + r by omega, q9 m 1 r i]
  rfl
def jb (m : Nat) : Bool := (alY m).all (fun j => (orb m m 0).contains j) && itr m m 0 == 0
theorem aeM : jb 8 = true := by decide +kernel
theorem acW : jb 32 = true := by decide +kernel
theorem abe : jb 128 = true := by decide +kernel
theorem abf : jb 512 = true := by decide +kernel
theorem abV (m : Nat) : ∀ f i, (orb m f i).length = f
 | 0, _ => rfl
 | f + 1, i => by show (orb m f (stp m i)).length + 1 = f + 1; rw [abV m f]
theorem acX {m : Nat} (h : jb m = true) {j : Nat} (hj : j < m) : ∃ r, r < m /\ itr m r 0 = j := by
 unfold jb at h
 rw [alM] at h
 have := aoj.mp h.1 j (al8.mpr hj)
 have hm : j ∈ orb m m 0 := by simpa using this
 obtain ⟨r, hr, e⟩ := anc hm
 rw [abV] at hr
 have e2 := aha m m 0 r hr
 rw [alB (by rw [abV]; exact hr), e] at e2
 exact ⟨r, hr, (Option.some.inj e2).symm⟩
theorem aeN {m : Nat} (h : jb m = true) {i j : Nat} (hi : i < m) (hj : j < m) : ∃ r, r < m /\ itr m r i = j := by
 obtain ⟨a, ha, ea⟩ := acX h hi
 obtain ⟨b, hb, eb⟩ := acX h hj
 have e0 : itr m m 0 = 0 := by
  unfold jb at h
  rw [alM] at h
  exact eq_of_beq h.2
 by_cases hab : a <= b
 ·exact ⟨b - a, by omega, by rw [<- ea, <- q9, show a + (b - a) = b by omega]; exact eb⟩
 ·refine ⟨m - a + b, by omega, ?_⟩
  rw [<- ea, <- q9, show a + (m - a + b) = m + b by omega, q9, e0]
  exact eb
theorem aeO (mask : Nat) (h : Int) : ∀ r, (lp mask h r).2 = bits h / 32 ^ r
 | 0 => by simp [lp]
 | r + 1 => by
  show (lp mask h r).2 / 32 = _
  rw [aeO mask h r, Nat.div_div_eq_div_mul, Nat.pow_succ]
theorem aiu (h : Int) : bits h < 2 ^ 64 := by
 unfold bits
 have := am2 h (show (0 : Int) < 2 ^ 64 by decide)
 have := aon h (show (2 ^ 64 : Int) ≠ 0 by decide)
 omega
theorem aiv (mask : Nat) (h : Int) (r : Nat) (hr : 13 <= r) : (lp mask h r).2 = 0 := by
 rw [aeO]
 refine Nat.div_eq_of_lt (al0 (aiu h) ?_)
 exact alZ (show 2 ^ 64 <= 32 ^ 13 by decide) (api (by decide) hr)
theorem adW (mask : Nat) (h : Int) : ∀ r, (lp mask h (13 + r)).1 = itr (mask + 1) r (lp mask h 13).1
 | 0 => rfl
 | r + 1 => by
  show (leap mask (lp mask h (13 + r)).1 (lp mask h (13 + r)).2).1 = stp (mask + 1) (itr (mask + 1) r (lp mask h 13).1)
  rw [aiv mask h (13 + r) (by omega), adW mask h r]
  rfl
theorem ahb {mask : Nat} (g : jb (mask + 1) = true) (h : Int) {j : Nat} (hj : j <= mask) : ∃ k, k < 10 * turns mask /\ pos mask h k = j := by
 obtain ⟨r, hr, e⟩ := aeN g (i := (lp mask h 13).1) (j := j) (anV (acU mask h 13)) (anV hj)
 obtain ⟨k, hk, a1, a2⟩ := acV mask h (13 + r)
 refine ⟨k, by unfold turns; omega, ?_⟩
 unfold pos
 rw [a2]
 show (lp mask h (13 + r)).1 + 0 = j
 rw [adW, e]
 rfl
end L2.ST
end
section
namespace L2.ST
open PySem PySem.SetTable
structure TB (t : SetTable) (hs : List Int) : Prop where
 mask : t.mask = 7 \/ t.mask = 31 \/ t.mask = 127 \/ t.mask = 511
 dum : t.dummies = #[]
 rise : acS t.place
 le : ∀ i, i < t.place.size -> t.place.getD i 0 <= t.mask
 size : t.place.size = hs.length
 most : hs.length <= t.mask
 reach : ∀ i, i < hs.length -> ∃ k, pos t.mask (hs.getD i 0) k = t.place.getD i 0 /\ ∀ k', k' < k -> Tk t (pos t.mask (hs.getD i 0) k')
structure TOk (t : SetTable) (hs : List Int) : Prop extends TB t hs where
 room : hs.length * 5 < t.mask * 3
theorem abW {t : SetTable} {hs : List Int} (o : TB t hs) : jb (t.mask + 1) = true := by
 rcases o.mask with e | e | e | e <;> rw [e]
 ·exact aeM
 ·exact acW
 ·exact abe
 ·exact abf
theorem afT {t : SetTable} (r : acS t.place) (hs : t.place.size <= t.mask) : ∃ j, j <= t.mask /\ ¬ Tk t j := by
 refine amK fun no => ?_
 have all : ∀ j, j <= t.mask -> Tk t j := fun j hj => amK fun z => no ⟨j, hj, z⟩
 have up : ∀ j, j <= t.mask -> j <= below t.place j /\ below t.place j < t.place.size := fun j => by
  induction j with
  | zero =>
   intro hj
   obtain ⟨i, hi, e⟩ := all 0 hj
   have := below_at r hi
   rw [e] at this
   exact ⟨ama _, by omega⟩
  | succ j ih =>
   intro hj
   obtain ⟨i, hi, e⟩ := all (j + 1) hj
   obtain ⟨i', hi', e'⟩ := all j (by omega)
   have b1 := below_at r hi
   have b2 := below_at r hi'
   rw [e] at b1
   rw [e'] at b2
   have lt : i' < i := by
    by_cases h : i' < i
    ·exact h
    ·by_cases h2 : i' = i
     ·subst h2; omega
     ·have := r i i' (by omega) hi'; omega
   have := ih (by omega)
   omega
 have := up t.mask (alI _)
 omega
structure First (t : SetTable) (h : Int) (E : Nat) : Prop where
 lt : E < 10 * turns t.mask
 free : ¬ Tk t (pos t.mask h E)
 ahead : ∀ k, k < E -> Tk t (pos t.mask h k)
theorem least {p : Nat -> Prop} : ∀ n, p n -> ∃ m, m <= n /\ p m /\ ∀ k, k < m -> ¬ p k := fun n => by
 induction n using Nat.strongRecOn with
 | ind n ih =>
  intro h
  by_cases q : ∃ k, k < n /\ p k
  ·obtain ⟨k, hk, pk⟩ := q
   obtain ⟨m, a, b⟩ := ih k hk pk
   exact ⟨m, by omega, b⟩
  ·exact ⟨n, alI _, h, fun k hk z => q ⟨k, hk, z⟩⟩
theorem afU {t : SetTable} (g : jb (t.mask + 1) = true) (r : acS t.place) (hs : t.place.size <= t.mask) (h : Int) : ∃ E, First t h E := by
 obtain ⟨j, hj, nj⟩ := afT r hs
 obtain ⟨k, hk, e⟩ := ahb g h hj
 obtain ⟨m, a, b, c⟩ := least (p := fun k => ¬ Tk t (pos t.mask h k)) k (by show ¬ Tk t (pos t.mask h k); rw [e]; exact nj)
 exact ⟨m, by omega, b, fun q hq => amK (c q hq)⟩
theorem first_of {t : SetTable} {hs : List Int} (o : TB t hs) (h : Int) : ∃ E, First t h E := afU (abW o) o.rise (by have := o.size; have := o.most; omega) h
theorem probe_go {t : SetTable} (d : t.dummies = #[]) (r : acS t.place) {hashAt : Nat -> Int} {h : Int} {E : Nat} (F : First t h E) : ∀ f k, k <= E -> E < k + f ->
  (probe.go t hashAt h f (road t.mask h k) = some (.empty (pos t.mask h E) none) /\ ∀ q i, k <= q -> q < E -> i < t.place.size -> pos t.mask h q = t.place.getD i 0 -> hashAt i ≠ h) \/
  ∃ q i, k <= q /\ q < E /\ i < t.place.size /\ pos t.mask h q = t.place.getD i 0 /\ hashAt i = h /\ probe.go t hashAt h f (road t.mask h k) = some (.candidate (pos t.mask h q) i (road t.mask h (q + 1))) /\ ∀ q' i', k <= q' -> q' < q -> i' < t.place.size -> pos t.mask h q' = t.place.getD i' 0 -> hashAt i' ≠ h
 | 0, k, h1, h2 => by omega
 | f + 1, k, h1, h2 => by
  unfold probe.go
  by_cases e : k = E
  ·subst e
   refine .inl ⟨?_, fun q i a b => by omega⟩
   rw [afS d F.free]
   show some (Met.empty _ _) = _
   rw [qL]
  ·obtain ⟨i, hi, ei⟩ := F.ahead k (by omega)
   have sl : t.slot (road t.mask h k).j = .live i := by
    have := slot_live r hi
    rw [ei] at this
    exact this
   rw [sl]
   show (if (hashAt i == h) = true then _ else _ : Option Met) = _ /\ _ \/ _
   have uniq : ∀ i', i' < t.place.size -> pos t.mask h k = t.place.getD i' 0 -> i' = i := fun i' hi' e' => by
    have b1 := below_at r hi
    have b2 := below_at r hi'
    rw [ei] at b1
    rw [<- e'] at b2
    omega
   by_cases hh : (hashAt i == h) = true
   ·rw [if_pos hh]
    refine .inr ⟨k, i, alI _, by omega, hi, ei.symm, eq_of_beq hh, ?_, fun q' i' a b => by omega⟩
    show (if (hashAt i == h) = true then _ else _ : Option Met) = _
    rw [if_pos hh]
    rfl
   ·rw [if_neg hh]
    have hne : hashAt i ≠ h := fun z => hh (by rw [z]; exact beq_self_eq_true _)
    rcases probe_go d r (hashAt := hashAt) F f (k + 1) (by omega) (by omega) with ⟨a, b⟩ | ⟨q, i2, a1, a2, a3, a4, a5, a6, a7⟩
    ·refine .inl ⟨a, fun q i' c1 c2 c3 c4 => ?_⟩
     by_cases eq : q = k
     ·subst eq; rw [uniq i' c3 c4]; exact hne
     ·exact b q i' (by omega) c2 c3 c4
    ·refine .inr ⟨q, i2, by omega, a2, a3, a4, a5, ?_, fun q' i' c1 c2 c3 c4 => ?_⟩
     ·show (if (hashAt i == h) = true then _ else _ : Option Met) = _
      rw [if_neg hh]
      exact a6
     ·by_cases eq : q' = k
      ·subst eq; rw [uniq i' c3 c4]; exact hne
      ·exact a7 q' i' (by omega) c2 c3 c4
end L2.ST
end
section
namespace L2.ST
open PySem PySem.SetTable
theorem va {α : Type} (xs : Array α) (i : Nat) (d : α) : xs.getD i d = xs.toList.getD i d := by
 by_cases h : i < xs.size <;> simp [anl, h, List.getD]
theorem acY {α : Type} (l : List α) (p : Nat) (x d : α) (hp : p <= l.length) (i : Nat) : (l.take p ++ x :: l.drop p).getD i d = if i < p then l.getD i d else if i = p then x else l.getD (i - 1) d := by
 have lt : (l.take p).length = p := by rw [amk]; omega
 by_cases h1 : i < p
 ·rw [if_pos h1, alF, alP (by omega), anI h1, alF]
 ·rw [if_neg h1, alF, alU (by omega), lt]
  by_cases h2 : i = p
  ·rw [if_pos h2, h2, anA]
   rfl
  ·rw [if_neg h2, show i - p = (i - p - 1) + 1 by omega, List.getElem?_cons_succ, List.getElem?_drop, show p + (i - p - 1) = i - 1 by omega, alF]
section
variable {t : SetTable} {hs : List Int} {h : Int} {E : Nat}
theorem put_tb (o : TB t hs) (F : First t h E) (more : hs.length + 1 <= t.mask) : below t.place (pos t.mask h E) <= hs.length /\ TB (t.put (pos t.mask h E)).1 (hs.take (below t.place (pos t.mask h E)) ++ h :: hs.drop (below t.place (pos t.mask h E))) := by
 obtain ⟨b1, b2, b3⟩ := acT o.rise (pos t.mask h E)
 have sz := o.size
 generalize hp : below t.place (pos t.mask h E) = p at *
 have hpl : p <= t.place.toList.length := by rw [alS]; exact b1
 have pl : ∀ i, (t.put (pos t.mask h E)).1.place.getD i 0 = if i < p then t.place.getD i 0 else if i = p then pos t.mask h E else t.place.getD (i - 1) 0 := fun i => by
  show (insertAt t.place (below t.place (pos t.mask h E)) (pos t.mask h E)).getD i 0 = _
  rw [hp, va, anJ, acY _ _ _ _ hpl, va, va]
 have psz : (t.put (pos t.mask h E)).1.place.size = t.place.size + 1 := by
  show (insertAt t.place (below t.place (pos t.mask h E)) (pos t.mask h E)).size = _
  rw [<- alS, anJ, hp, alR, alV, amk, List.length_drop, alS]
  omega
 have ne : ∀ i, i < t.place.size -> t.place.getD i 0 ≠ pos t.mask h E := fun i hi e => F.free ⟨i, hi, e⟩
 have b3' : ∀ i, p <= i -> i < t.place.size -> pos t.mask h E < t.place.getD i 0 := fun i a b => by
  have := b3 i a b
  have := ne i b
  omega
 have hm : (t.put (pos t.mask h E)).1.mask = t.mask := rfl
 have tk : ∀ j, Tk t j -> Tk (t.put (pos t.mask h E)).1 j := fun j ⟨i, hi, e⟩ => by
  by_cases q : i < p
  ·exact ⟨i, by omega, by rw [pl, if_pos q]; exact e⟩
  ·exact ⟨i + 1, by omega, by rw [pl, if_neg (by omega), if_neg (by omega), Nat.add_sub_cancel]; exact e⟩
 have hl : ∀ i, (hs.take p ++ h :: hs.drop p).getD i 0 = if i < p then hs.getD i 0 else if i = p then h else hs.getD (i - 1) 0 := fun i => acY hs p h 0 (by omega) i
 have ln : (hs.take p ++ h :: hs.drop p).length = hs.length + 1 := by
  rw [alR, alV, amk, List.length_drop]
  omega
 refine ⟨by omega, ⟨o.mask, ?_, fun i j hij hj => ?_, fun i hi => ?_, by rw [psz, ln, sz], by rw [ln, hm]; exact more, fun i hi => ?_⟩⟩
 ·show (if has t.dummies (pos t.mask h E) = true then _ else t.dummies) = #[]
  rw [o.dum]
  rfl
 ·rw [pl, pl]
  rw [psz] at hj
  by_cases c1 : i < p
  ·rw [if_pos c1]
   by_cases c2 : j < p
   ·rw [if_pos c2]; exact o.rise i j hij (by omega)
   ·rw [if_neg c2]
    by_cases c3 : j = p
    ·rw [if_pos c3]; exact b2 i c1
    ·rw [if_neg c3]; exact o.rise i (j - 1) (by omega) (by omega)
  ·rw [if_neg c1, if_neg (show ¬ j < p by omega)]
   by_cases c3 : i = p
   ·rw [if_pos c3, if_neg (by omega)]; exact b3' (j - 1) (by omega) (by omega)
   ·rw [if_neg c3, if_neg (by omega)]; exact o.rise (i - 1) (j - 1) (by omega) (by omega)
 ·rw [pl, hm]
  rw [psz] at hi
  by_cases c1 : i < p
  ·rw [if_pos c1]; exact o.le i (by omega)
  ·rw [if_neg c1]
   by_cases c3 : i = p
   ·rw [if_pos c3]; exact abU _ _ _
   ·rw [if_neg c3]; exact o.le (i - 1) (by omega)
 ·rw [hl, pl, hm]
  rw [ln] at hi
  by_cases c1 : i < p
  ·rw [if_pos c1, if_pos c1]
   obtain ⟨k, e, a⟩ := o.reach i (by omega)
   exact ⟨k, e, fun k' hk => tk _ (a k' hk)⟩
  ·rw [if_neg c1, if_neg c1]
   by_cases c3 : i = p
   ·rw [if_pos c3, if_pos c3]
    exact ⟨E, rfl, fun k' hk => tk _ (F.ahead k' hk)⟩
   ·rw [if_neg c3, if_neg c3]
    obtain ⟨k, e, a⟩ := o.reach (i - 1) (by omega)
    exact ⟨k, e, fun k' hk => tk _ (a k' hk)⟩
end
def Occ (ow : Array (Option Nat)) (j : Nat) : Prop := ow.getD j (some 0) ≠ none
theorem aeP {mask : Nat} {ow : Array (Option Nat)} {h : Int} : ∀ f r k, At mask h k r 0 -> (∃ r', r <= r' /\ r' < r + f /\ ¬ Occ ow (lp mask h r').1) ->
  ∃ E, k <= E /\ (∀ q, k <= q -> q < E -> Occ ow (pos mask h q)) /\ ¬ Occ ow (pos mask h E) /\ layClean.free mask ow f (lp mask h r).1 (lp mask h r).2 = some (pos mask h E)
 | 0, r, k, a, ⟨r', h1, h2, _⟩ => by omega
 | f + 1, r, k, a, ⟨r', h1, h2, h3⟩ => by
  have re := vB mask _ (acU mask h r)
  have at_ : ∀ d, d <= runEnd mask (lp mask h r).1 - (lp mask h r).1 -> pos mask h (k + d) = (lp mask h r).1 + d := fun d hd => by
   have := (abT a d hd).2
   unfold pos
   rw [this]
  unfold layClean.free
  cases hf : (alY (runEnd mask (lp mask h r).1 + 1 - (lp mask h r).1)).find? fun k => (ow.getD ((lp mask h r).1 + k) (some 0)).isNone with
  | some d =>
   have hm := List.mem_of_find?_eq_some hf
   have hd := al8.mp hm
   have hs := List.find?_some hf
   have bef : ∀ d', d' < d -> ¬ (ow.getD ((lp mask h r).1 + d') (some 0)).isNone = true := fun d' hd' => by
    obtain ⟨_, as, bs, e, al⟩ := List.find?_eq_some_iff_append.mp hf
    have : as = alY d := by
     have l1 : (alY (runEnd mask (lp mask h r).1 + 1 - (lp mask h r).1))[as.length]? = some d := by
      rw [e, alU (alI _), anA]
      rfl
     have lt : as.length < runEnd mask (lp mask h r).1 + 1 - (lp mask h r).1 := by
      have := congrArg List.length e
      simp at this
      omega
     rw [anb lt] at l1
     have el : as.length = d := Option.some.inj l1
     have : as = (alY (runEnd mask (lp mask h r).1 + 1 - (lp mask h r).1)).take as.length := by
      rw [e, List.take_append_of_le_length (alI _), amg]
     rw [this, List.take_range, Nat.min_eq_left (by omega), el]
    have al2 := al d' (by rw [this]; exact al8.mpr hd')
    intro z
    have z2 : (!(ow.getD ((lp mask h r).1 + d') (some 0)).isNone) = true := al2
    rw [z] at z2
    cases z2
   refine ⟨k + d, by omega, fun q hq1 hq2 => ?_, ?_, ?_⟩
   ·have := bef (q - k) (by omega)
    rw [show q = k + (q - k) by omega, at_ (q - k) (by omega)]
    intro z
    rw [z] at this
    exact this rfl
   ·rw [at_ d (by omega)]
    intro z
    have hs' : (ow.getD ((lp mask h r).1 + d) (some 0)).isNone = true := hs
    exact z (Option.isNone_iff_eq_none.mp hs')
   ·rw [at_ d (by omega)]
  | none =>
   have all : ∀ d, d < runEnd mask (lp mask h r).1 + 1 - (lp mask h r).1 -> Occ ow ((lp mask h r).1 + d) := fun d hd z => by
    have := List.find?_eq_none.mp hf d (al8.mpr hd)
    simp [z] at this
   have ne : r' ≠ r := fun z => by
    rw [z] at h3
    exact h3 (by have := all 0 (by omega); rwa [Nat.add_zero] at this)
   have a2 := abS (abT a _ (alI _)) rfl
   obtain ⟨E, e1, e2, e3, e4⟩ := aeP f (r + 1) _ a2 ⟨r', by omega, by omega, h3⟩
   refine ⟨E, by omega, fun q hq1 hq2 => ?_, e3, e4⟩
   by_cases hq : q < k + (runEnd mask (lp mask h r).1 - (lp mask h r).1) + 1
   ·rw [show q = k + (q - k) by omega, at_ (q - k) (by omega)]
    exact all _ (by omega)
   ·exact e2 q (by omega) hq2
end L2.ST
end
section
namespace L2.ST
open PySem PySem.SetTable
structure OwnT (mask : Nat) (ow : Array (Option Nat)) (hs : List Int) (sl : List Nat) : Prop where
 size : ow.size = mask + 1
 len : sl.length = hs.length
 nd : sl.Nodup
 le : ∀ j ∈ sl, j <= mask
 own : ∀ j, j <= mask -> ∀ i, ow.getD j none = some i ↔ sl[i]? = some j
 reach : ∀ i, i < hs.length -> ∃ q, pos mask (hs.getD i 0) q = sl.getD i 0 /\ ∀ q', q' < q -> pos mask (hs.getD i 0) q' ∈ sl
theorem OwnT.occ {mask : Nat} {ow : Array (Option Nat)} {hs : List Int} {sl : List Nat} (o : OwnT mask ow hs sl) {j : Nat} (hj : j <= mask) : Occ ow j ↔ j ∈ sl := by
 have hs' : j < ow.size := by rw [o.size]; omega
 have e : ow.getD j (some 0) = ow.getD j none := by simp [anl, hs']
 unfold Occ
 rw [e]
 constructor
 ·intro h
  obtain ⟨i, hi⟩ := Option.ne_none_iff_exists'.mp h
  exact alN ((o.own j hj i).mp hi)
 ·intro h z
  obtain ⟨i, hi, e2⟩ := anc h
  have := (o.own j hj i).mpr (by rw [alB hi, e2])
  rw [z] at this
  cases this
def aeQ (mask : Nat) : Option (Array (Option Nat) × Nat) -> Int -> Option (Array (Option Nat) × Nat) := fun acc h => do
  let (owner, k) <- acc
  let j <- layClean.free mask owner (turns mask) (bits h % (mask + 1)) (bits h)
  pure (owner.setIfInBounds j (some k), k + 1)
theorem ahc {mask : Nat} (g : jb (mask + 1) = true) {ow : Array (Option Nat)} {hs : List Int} {sl : List Nat} (o : OwnT mask ow hs sl) (hm : hs.length <= mask) (h : Int) :
  ∃ ow' sl', aeQ mask (some (ow, hs.length)) h = some (ow', hs.length + 1) /\ OwnT mask ow' (hs ++ [h]) sl' := by
 obtain ⟨j, hj, nj⟩ : ∃ j, j <= mask /\ j ∉ sl := by
  refine amK fun no => ?_
  have sub : alY (mask + 1) ⊆ sl := fun j hj => amK fun z => no ⟨j, aom.mp (al8.mp hj), z⟩
  have := List.Nodup.length_le_of_subset aoX sub
  rw [amx, o.len] at this
  omega
 obtain ⟨r, hr, e⟩ := aeN g (i := (lp mask h 13).1) (j := j) (anV (acU mask h 13)) (anV hj)
 obtain ⟨E, _, e2, e3, e4⟩ := aeP (ow := ow) (turns mask) 0 0 (abR mask h) ⟨13 + r, ama _, by unfold turns; omega, by rw [adW, e, o.occ hj]; exact nj⟩
 have e3' : pos mask h E ∉ sl := fun z => e3 ((o.occ (abU mask h E)).mpr z)
 have e2' : ∀ q, q < E -> pos mask h q ∈ sl := fun q hq => (o.occ (abU mask h q)).mp (e2 q (ama _) hq)
 have e4' : layClean.free mask ow (turns mask) (bits h % (mask + 1)) (bits h) = some (pos mask h E) := e4
 refine ⟨ow.setIfInBounds (pos mask h E) (some hs.length), sl ++ [pos mask h E], ?_, ?_⟩
 ·show (layClean.free mask ow (turns mask) (bits h % (mask + 1)) (bits h) >>= fun j => pure (ow.setIfInBounds j (some hs.length), hs.length + 1)) = _
  rw [e4']
  rfl
 ·have ls : ∀ i, (sl ++ [pos mask h E])[i]? = if i < sl.length then sl[i]? else if i = sl.length then some (pos mask h E) else none := fun i => by
   by_cases c : i < sl.length
   ·rw [if_pos c, alP c]
   ·rw [if_neg c, alU (by omega)]
    by_cases c2 : i = sl.length
    ·rw [if_pos c2, c2, anA]; rfl
    ·rw [if_neg c2]; exact al5 (by simp; omega)
  refine ⟨by rw [Array.size_setIfInBounds]; exact o.size, by simp [o.len], ?_, fun j hj => ?_, fun j hj i => ?_, fun i hi => ?_⟩
  ·rw [anq]
   refine ⟨o.nd, by simp, fun a ha b hb => ?_⟩
   rw [al7.mp hb]
   intro z
   rw [z] at ha
   exact e3' ha
  ·rcases amh.mp hj with hj | hj
   ·exact o.le j hj
   ·rw [al7.mp hj]; exact abU _ _ _
  ·have hsz : j < ow.size := by rw [o.size]; omega
   rw [ls]
   by_cases c : j = pos mask h E
   ·subst c
    have : (ow.setIfInBounds (pos mask h E) (some hs.length)).getD (pos mask h E) none = some hs.length := by simp [anl, hsz]
    rw [this]
    constructor
    ·intro z
     have z' : hs.length = i := Option.some.inj z
     rw [if_neg (by rw [o.len]; omega), if_pos (by rw [o.len]; omega)]
    ·intro z
     by_cases c2 : i < sl.length
     ·rw [if_pos c2] at z
      exact absurd (alN z) e3'
     ·rw [if_neg c2] at z
      by_cases c3 : i = sl.length
      ·rw [c3, o.len]
      ·rw [if_neg c3] at z; cases z
   ·have : (ow.setIfInBounds (pos mask h E) (some hs.length)).getD j none = ow.getD j none := by
     rw [amX, amX, Array.getElem?_setIfInBounds_ne (amN c)]
    rw [this, o.own j hj i]
    by_cases c2 : i < sl.length
    ·rw [if_pos c2]
    ·rw [if_neg c2]
     constructor
     ·intro z
      rw [al5 (by omega)] at z
      cases z
     ·intro z
      by_cases c3 : i = sl.length
      ·rw [if_pos c3] at z
       exact absurd (Option.some.inj z).symm c
      ·rw [if_neg c3] at z; cases z
  ·have gl : ∀ i, (hs ++ [h]).getD i 0 = if i < hs.length then hs.getD i 0 else if i = hs.length then h else 0 := fun i => by
    by_cases c : i < hs.length
    ·rw [if_pos c, alF, alP c, alF]
    ·rw [if_neg c, alF, alU (by omega)]
     by_cases c2 : i = hs.length
     ·rw [if_pos c2, c2, anA]; rfl
     ·rw [if_neg c2, al5 (by simp; omega)]; rfl
   rw [alR, amn] at hi
   have gs : (sl ++ [pos mask h E]).getD i 0 = ((sl ++ [pos mask h E])[i]?).getD 0 := alF ..
   rw [gl, gs, ls]
   by_cases c : i < hs.length
   ·rw [if_pos c, if_pos (by rw [o.len]; exact c)]
    obtain ⟨q, a, b⟩ := o.reach i c
    exact ⟨q, by rw [<- alF]; exact a, fun q' hq => amt _ (b q' hq)⟩
   ·rw [if_neg c, if_pos (by omega), if_neg (by rw [o.len]; omega), if_pos (by rw [o.len]; omega)]
    exact ⟨E, rfl, fun q' hq => amt _ (e2' q' hq)⟩
theorem aeR {mask : Nat} (g : jb (mask + 1) = true) : ∀ (l : List Int) (ow : Array (Option Nat)) (hs : List Int) (sl : List Nat), OwnT mask ow hs sl -> hs.length + l.length <= mask + 1 ->
  ∃ ow' sl', l.foldl (aeQ mask) (some (ow, hs.length)) = some (ow', hs.length + l.length) /\ OwnT mask ow' (hs ++ l) sl'
 | [], ow, hs, sl, o, _ => ⟨ow, sl, rfl, by rw [amq]; exact o⟩
 | h :: l, ow, hs, sl, o, hm => by
  rw [alV] at hm
  obtain ⟨ow1, sl1, e1, o1⟩ := ahc g o (by omega) h
  obtain ⟨ow2, sl2, e2, o2⟩ := aeR g l ow1 (hs ++ [h]) sl1 o1 (by rw [alR, amn]; omega)
  refine ⟨ow2, sl2, ?_, by rw [amR] at o2; exact o2⟩
  rw [List.foldl_cons, e1]
  rw [alR, amn] at e2
  rw [e2, alV, aoR, Nat.add_comm 1]
theorem aiw (mask : Nat) : OwnT mask (aoo (mask + 1) none) [] [] where
 size := by simp
 len := rfl
 nd := .nil
 le := fun _ h => nomatch h
 own := fun j hj i => by
  have : (aoo (mask + 1) (none : Option Nat)).getD j none = none := by simp [anl]
  rw [this]
  constructor <;> intro z <;> cases z
 reach := fun i hi => absurd hi (amU _)
theorem ahd {mask : Nat} (g : jb (mask + 1) = true) (hs : Array Int) (hm : hs.size <= mask + 1) : ∃ ow sl, layClean mask hs = some ow /\ OwnT mask ow hs.toList sl := by
 obtain ⟨ow, sl, e, o⟩ := aeR g hs.toList _ [] [] (aiw mask) (by simpa using hm)
 refine ⟨ow, sl, ?_, by simpa using o⟩
 unfold layClean
 rw [<- Array.foldl_toList]
 have : hs.toList.foldl (aeQ mask) (some (aoo (mask + 1) none, 0)) = some (ow, 0 + hs.toList.length) := e
 show Option.map _ (hs.toList.foldl (aeQ mask) (some (aoo (mask + 1) none, 0))) = _
 rw [this]
 rfl
theorem laid_ok {mask : Nat} (mk : mask = 7 \/ mask = 31 \/ mask = 127 \/ mask = 511) (hs : Array Int) (hm : hs.size <= mask) (finger moves : Nat) (led plain : Bool) :
  ∃ t ord, laid mask finger moves led plain hs = some (t, ord) /\ t.mask = mask /\ t.plain = plain /\ t.led = led /\ ord.toList.Perm (alY hs.size) /\ TB t (ord.toList.map fun i => hs.toList.getD i 0) := by
 have g : jb (mask + 1) = true := by
  rcases mk with rfl | rfl | rfl | rfl
  ·exact aeM
  ·exact acW
  ·exact abe
  ·exact abf
 obtain ⟨ow, sl, e, o⟩ := ahd g hs (by omega)
 let live := (alY (mask + 1)).filterMap fun j => (ow.getD j none).map (j, ·)
 have mem : ∀ p : Nat × Nat, p ∈ live ↔ p.1 <= mask /\ sl[p.2]? = some p.1 := fun ⟨j, i⟩ => by
  show (j, i) ∈ List.filterMap _ _ ↔ _
  rw [aow]
  constructor
  ·rintro ⟨j', hj, e⟩
   have hj' := aom.mp (al8.mp hj)
   cases e2 : ow.getD j' none with
   | none => rw [e2] at e; cases e
   | some i' =>
    rw [e2] at e
    cases e
    exact ⟨hj', (o.own _ hj' _).mp e2⟩
  ·rintro ⟨h1, h2⟩
   refine ⟨j, al8.mpr (by omega), ?_⟩
   rw [(o.own j h1 i).mpr h2]
   rfl
 have up : (live.map (·.1)).Pairwise (· < ·) := by
  rw [am9]
  show (List.filterMap _ _).Pairwise _
  rw [List.pairwise_filterMap]
  refine List.pairwise_lt_range.imp fun {a b} hab p hp q hq => ?_
  cases e1 : ow.getD a none with
  | none => rw [e1] at hp; cases hp
  | some i =>
   cases e2 : ow.getD b none with
   | none => rw [e2] at hq; cases hq
   | some i2 =>
    rw [e1] at hp
    rw [e2] at hq
    cases hp
    cases hq
    exact hab
 have nd2 : (live.map (·.2)).Nodup := by
  show List.Pairwise _ _
  rw [am9]
  have u2 := am9.mp up
  refine u2.imp_of_mem fun {p q} hp hq hlt hz => ?_
  have a1 := ((mem p).mp hp).2
  have a2 := ((mem q).mp hq).2
  rw [hz, a2] at a1
  have := Option.some.inj a1
  omega
 have pm : (live.map (·.2)).Perm (alY hs.size) := by
  refine (List.perm_ext_iff_of_nodup nd2 aoX).mpr fun i => ?_
  have ls : sl.length = hs.size := by rw [o.len, alS]
  constructor
  ·intro hi
   obtain ⟨p, hp, rfl⟩ := al1.mp hi
   have := (alG.mp ((mem p).mp hp).2).1
   exact al8.mpr (by omega)
  ·intro hi
   have hi' := al8.mp hi
   have hl : i < sl.length := by omega
   exact al1.mpr ⟨(sl[i], i), (mem _).mpr ⟨o.le _ (al9 hl), alB hl⟩, rfl⟩
 refine ⟨_, _, by unfold laid; rw [e]; rfl, rfl, rfl, rfl, pm, ?_⟩
 have ln : live.length = hs.size := by have := pm.length_eq; rwa [alD, amx] at this
 have tk : ∀ j, j ∈ sl -> ∃ i, i < live.length /\ (live.map (·.1)).getD i 0 = j := fun j hj => by
  obtain ⟨i, hi, e2⟩ := anc hj
  have : (j, i) ∈ live := (mem _).mpr ⟨o.le j hj, by rw [alB hi, e2]⟩
  obtain ⟨q, hq, e3⟩ := anc this
  exact ⟨q, hq, by rw [alF, alJ, alB hq, e3]; rfl⟩
 have gd : ∀ i, (live.map (·.1)).toArray.getD i 0 = (live.map (·.1)).getD i 0 := fun i => by rw [va]
 refine ⟨mk, rfl, fun i j hij hj => ?_, fun i hi => ?_, ?_, ?_, fun i hi => ?_⟩
 ·show (live.map (·.1)).toArray.getD i 0 < (live.map (·.1)).toArray.getD j 0
  have hj' : j < (live.map (·.1)).length := by
   have h2 : j < (live.map (·.1)).toArray.size := hj
   rwa [alW] at h2
  rw [gd, gd, alF, alF, alB hj', alB (show i < (live.map (·.1)).length by omega)]
  exact am4.mp up i j (by omega) hj' hij
 ·show (live.map (·.1)).toArray.getD i 0 <= mask
  have hi' : i < (live.map (·.1)).length := by
   have h2 : i < (live.map (·.1)).toArray.size := hi
   rwa [alW] at h2
  rw [gd, alF, alB hi']
  obtain ⟨p, hp, e2⟩ := al1.mp (al9 hi')
  show (live.map (·.1))[i] <= mask
  rw [<- e2]
  exact ((mem p).mp hp).1
 ·show (live.map (·.1)).toArray.size = _
  simp
 ·show (anW _ (live.map (·.2))).length <= mask
  rw [alD, alD, ln]
  exact hm
 ·have hi' : i < live.length := by
   have hi2 : i < (anW (fun i => hs.toList.getD i 0) (live.map (·.2))).length := hi
   rwa [alD, alD] at hi2
  have pl : (live.map (·.1)).toArray.getD i 0 = live[i].1 := by
   rw [gd, alF, alJ, alB hi']
   rfl
  have hh : (anW (fun i => hs.toList.getD i 0) (live.map (·.2))).getD i 0 = hs.toList.getD live[i].2 0 := by
   rw [alF, alJ, alJ, alB hi']
   rfl
  have m2 := (mem live[i]).mp (al9 hi')
  have l2 := (alG.mp m2.2).1
  obtain ⟨q, a, b⟩ := o.reach live[i].2 (by rw [<- o.len]; exact l2)
  refine ⟨q, ?_, fun q' hq => ?_⟩
  ·show pos mask ((anW (fun i => hs.toList.getD i 0) (live.map (·.2))).getD i 0) q = (live.map (·.1)).toArray.getD i 0
   rw [hh, pl, a, alF, m2.2]
   rfl
  ·show Tk _ (pos mask ((anW (fun i => hs.toList.getD i 0) (live.map (·.2))).getD i 0) q')
   rw [hh]
   obtain ⟨z, hz, ez⟩ := tk _ (b q' hq)
   exact ⟨z, by show z < (live.map (·.1)).toArray.size; simpa using hz, by show (live.map (·.1)).toArray.getD z 0 = _; rw [gd]; exact ez⟩
end L2.ST
end
section
namespace L2
open PySem PySem.Spec PyProof.Rows
mutual
def zt (w : World) : PyData -> Int
 | .int i => hashInt i
 | .str x => hashStr w x
 | .tuple xs => reduceHash (am5 (jW w xs))
 | _ => 0
def jW (w : World) : List PyData -> List Int
 | [] => []
 | x :: xs => zt w x :: jW w xs
end
mutual
def zS : PyData -> Nat
 | .int _ => 1
 | .str _ => 1
 | .tuple xs => aay xs + 1
 | _ => 0
def aay : List PyData -> Nat
 | [] => 0
 | x :: xs => zS x + aay xs
end
mutual
theorem aaz {P : Program} {w : World} : ∀ (d : PyData) (A : Around) (s : Shared) (v : Value) (as : List Addr) (E : Value -> Shared -> Prop) (Q : Int -> Shared -> Prop), Reads s.heap v d as -> zw d = true -> A.units + 4 * d.depth < cLine ->
  Q (zt w d) { s with toks := s.toks + zS d } -> wpAny (model P w) A (pyHash v) Q E s
 | .int i, A, s, _, _, E, Q, r, _, _, q => by
  cases r
  rw [zt, zS] at q
  exact wpAny_pyHash_int q
 | .str x, A, s, _, _, E, Q, r, _, _, q => by
  cases r
  rw [zt, zS] at q
  exact wpAny_pyHash_str q
 | .tuple xs, A, s, _, _, E, Q, r, p, hu, q => by
  cases r with
  | @tuple a o vs n _ as h1 h2 h3 h4 =>
   rw [zw] at p
   rw [zt, zS] at q
   have hT : s.TypeIs (.ref a) "tuple" := ⟨o, h1, h2⟩
   have e1 : (PyData.tuple xs).depth = alK xs + 1 := rfl
   rw [e1] at hu
   show wpAny _ A (pyHashByItsType (.ref a)) Q E s
   unfold pyHashByItsType
   apply wpAny_bind; apply wpAny_cRoomFor_or (.inr (by omega))
   apply wpAny_bind; apply wpAny_specialOf hT amS.lookup
   show wpAny _ _ (if (some (Value.builtin "tuple.__hash__") == some Value.none) = true then _ else _) Q E s
   rw [if_neg (by rw [beq_builtin_none]; exact alC)]
   apply wpAny_bind; apply wpAny_specialOf hT amS.lookup
   show wpAny _ _ (callSpecialIfBoundUnlessNone? (.ref a) "__hash__" _ >>= _) Q E s
   apply wpAny_bind
   refine wpAny_callSpecialIfBoundUnlessNone?_slot hT amS (wpAny_call_entry amS hT PySem.F.entry_tuple_hash ?_ (PySem.F.args_tuple_hash_1 _))
   show wpAny _ _ (Builtin.Tuple.tupleItemsOf (.ref a) >>= _) _ _ s
   apply wpAny_bind; apply wpAny_tupleItemsOf h1 h3
   apply wpAny_bind
   rw [<- anO]
   have hu1 : A.in1.units = A.units + 1 := rfl
   refine aaA xs A.in1 s vs.toList _ #[] _ _ h4 p (by omega) ?_
   simp only [amq, List.nil_append]
   show wpAny _ _ (retInt (am5 (#[] ++ (jW w xs).toArray).toList)) _ _ _
   rw [show (#[] ++ (jW w xs).toArray : Array Int).toList = jW w xs by simp]
   refine wpAny_ret_mkInt ?_
   show wpAny _ _ (pyHashByItsType.reduced _) Q E _
   unfold reduceHash at q
   unfold pyHashByItsType.reduced
   by_cases hr : (decide (-(2 : Int) ^ 63 <= am5 (jW w xs)) && decide (am5 (jW w xs) < 2 ^ 63)) = true
   ·rw [if_pos hr] at q ⊢
    exact wpAny_pure (by simpa [aoR] using q)
   ·rw [if_neg hr] at q ⊢
    exact wpAny_bind (wpAny_rule (wpAny_pure (by simpa [aoR] using q)))
 | .none, _, _, _, _, _, _, _, h, _, _ => by cases h
 | .bool _, _, _, _, _, _, _, _, h, _, _ => by cases h
 | .list _, _, _, _, _, _, _, _, h, _, _ => by cases h
 | .dict _, _, _, _, _, _, _, _, h, _, _ => by cases h
theorem aaA {P : Program} {w : World} : ∀ (xs : List PyData) (A : Around) (s : Shared) (vs : List Value) (as : List Addr) (acc : Array Int) (E : Value -> Shared -> Prop) (Q : Array Int -> Shared -> Prop), ReadsAll s.heap vs xs as -> zG xs = true -> A.units + 4 * alK xs < cLine ->
  Q (acc ++ (jW w xs).toArray) { s with toks := s.toks + aay xs } -> wpAny (model P w) A (forIn vs acc fun x r => do
   let h <- pyHash x
   pure (ForInStep.yield (r.push h))) Q E s
 | [], A, s, _, _, acc, E, Q, r, _, _, q => by
  cases r
  rw [anS]
  rw [jW, aay] at q
  exact wpAny_pure (by simpa using q)
 | x :: xs, A, s, _, _, acc, E, Q, r, p, hu, q => by
  cases r with
  | cons r1 r2 =>
   rw [zG, alM] at p
   rw [jW, aay] at q
   have e1 : alK (x :: xs) = max x.depth (alK xs) := rfl
   rw [e1] at hu
   rw [anM]
   apply wpAny_bind; apply wpAny_bind
   refine aaz x A s _ _ _ _ r1 p.1 (by omega) (wpAny_pure ?_)
   refine aaA xs A { s with toks := s.toks + zS x } _ _ _ _ _ r2 p.2 (by omega) ?_
   have e2 : acc.push (zt w x) ++ (jW w xs).toArray = acc ++ (zt w x :: jW w xs).toArray := by simp
   rw [e2]
   rw [<- aoR] at q
   exact q
end
mutual
theorem jk {P : Program} {w : World} : ∀ (d : PyData) (n : Nat) (A : Around) (s : Shared) (v : Value) (as : List Addr) (E : Value -> Shared -> Prop) (Q : Bool -> Shared -> Prop), Reads s.heap v d as -> zw d = true -> d.depth <= n -> Q true s -> wpAny (model P w) A (eqIsQuiet n v) Q E s
 | .int i, n, A, s, _, _, E, Q, r, _, _, q => by
  cases r
  rw [eqIsQuiet_byValue n rfl]
  exact wpAny_pure q
 | .str x, n, A, s, _, _, E, Q, r, _, _, q => by
  cases r
  rw [eqIsQuiet_byValue n rfl]
  exact wpAny_pure q
 | .tuple xs, n, A, s, _, _, E, Q, r, p, hn, q => by
  cases r with
  | @tuple a o vs n' _ as h1 h2 h3 h4 =>
   rw [zw] at p
   have e1 : (PyData.tuple xs).depth = alK xs + 1 := rfl
   rw [e1] at hn
   obtain ⟨m, rfl⟩ : ∃ m, n = m + 1 := ⟨n - 1, by omega⟩
   have hT : s.TypeIs (.ref a) "tuple" := ⟨o, h1, h2⟩
   unfold eqIsQuiet
   apply wpAny_bind; apply wpAny_specialOf hT PySem.F.slot_tuple_eq.lookup
   show wpAny _ _ (isInstance (.ref a) (.type "tuple") >>= _) _ _ s
   apply wpAny_bind; apply wpAny_isInstance hT isSubtype_tuple_tuple
   simp only [amm, ami, if_false]
   apply wpAny_bind; apply wpAny_seqItems h1 h3
   apply wpAny_bind
   show wpAny _ _ (forIn vs _ _) _ _ s
   rw [<- anO]
   exact vN xs m A s _ _ _ _ h4 p (by omega) (wpAny_pure q)
 | .none, _, _, _, _, _, _, _, _, h, _, _ => by cases h
 | .bool _, _, _, _, _, _, _, _, _, h, _, _ => by cases h
 | .list _, _, _, _, _, _, _, _, _, h, _, _ => by cases h
 | .dict _, _, _, _, _, _, _, _, _, h, _, _ => by cases h
theorem vN {P : Program} {w : World} : ∀ (xs : List PyData) (m : Nat) (A : Around) (s : Shared) (vs : List Value) (as : List Addr) (E : Value -> Shared -> Prop) (Q : Option Bool × Unit -> Shared -> Prop), ReadsAll s.heap vs xs as -> zG xs = true -> alK xs <= m -> Q (none, ()) s ->
  wpAny (model P w) A (forIn vs ((none, ()) : Option Bool × Unit) fun y _ => do
   let b <- eqIsQuiet m y
   if (!b) = true then pure (ForInStep.done (some false, ())) else pure (ForInStep.yield (none, ()))) Q E s
 | [], m, A, s, _, _, E, Q, r, _, _, q => by
  cases r
  rw [anS]
  exact wpAny_pure q
 | x :: xs, m, A, s, _, _, E, Q, r, p, hn, q => by
  cases r with
  | cons r1 r2 =>
   rw [zG, alM] at p
   have e1 : alK (x :: xs) = max x.depth (alK xs) := rfl
   rw [e1] at hn
   rw [anM]
   apply wpAny_bind; apply wpAny_bind
   refine jk x m A s _ _ _ _ r1 p.1 (by omega) ?_
   simp only [amm, ami, if_false]
   exact wpAny_pure (vN xs m A s _ _ _ _ r2 p.2 (by omega) q)
end
mutual
theorem vC {P : Program} {w : World} : ∀ (d : PyData) (n : Nat) (A : Around) (s : Shared) (v : Value) (as : List Addr) (E : Value -> Shared -> Prop) (Q : Bool -> Shared -> Prop), Reads s.heap v d as -> zw d = true -> d.depth <= n -> Q false s -> wpAny (model P w) A (ofAClassStatement n v) Q E s
 | .int i, n, A, s, _, _, E, Q, r, _, _, q => by
  cases r
  unfold ofAClassStatement
  exact wpAny_pure q
 | .str x, n, A, s, _, _, E, Q, r, _, _, q => by
  cases r
  unfold ofAClassStatement
  exact wpAny_pure q
 | .tuple xs, n, A, s, _, _, E, Q, r, p, hn, q => by
  cases r with
  | @tuple a o vs n' _ as h1 h2 h3 h4 =>
   rw [zw] at p
   have e1 : (PyData.tuple xs).depth = alK xs + 1 := rfl
   rw [e1] at hn
   obtain ⟨m, rfl⟩ : ∃ m, n = m + 1 := ⟨n - 1, by omega⟩
   have hT : s.TypeIs (.ref a) "tuple" := ⟨o, h1, h2⟩
   unfold ofAClassStatement
   apply wpAny_bind; apply wpAny_typeOf hT
   dsimp only
   rw [if_pos (show ("tuple" == "tuple") = true from rfl)]
   apply wpAny_bind; apply wpAny_pure
   simp only [amm, ami, if_false]
   apply wpAny_bind; apply wpAny_seqItems h1 h3
   dsimp only
   apply wpAny_bind
   rw [<- anO]
   exact abg xs m A s _ _ _ _ h4 p (by omega) (wpAny_pure q)
 | .none, _, _, _, _, _, _, _, _, h, _, _ => by cases h
 | .bool _, _, _, _, _, _, _, _, _, h, _, _ => by cases h
 | .list _, _, _, _, _, _, _, _, _, h, _, _ => by cases h
 | .dict _, _, _, _, _, _, _, _, _, h, _, _ => by cases h
theorem abg {P : Program} {w : World} : ∀ (xs : List PyData) (m : Nat) (A : Around) (s : Shared) (vs : List Value) (as : List Addr) (E : Value -> Shared -> Prop) (Q : Option Bool × Unit -> Shared -> Prop), ReadsAll s.heap vs xs as -> zG xs = true -> alK xs <= m -> Q (none, ()) s ->
  wpAny (model P w) A (forIn vs ((none, ()) : Option Bool × Unit) fun y _ => do
   let b <- ofAClassStatement m y
   if b = true then pure (ForInStep.done (some true, ())) else pure (ForInStep.yield (none, ()))) Q E s
 | [], m, A, s, _, _, E, Q, r, _, _, q => by
  cases r
  rw [anS]
  exact wpAny_pure q
 | x :: xs, m, A, s, _, _, E, Q, r, p, hn, q => by
  cases r with
  | cons r1 r2 =>
   rw [zG, alM] at p
   have e1 : alK (x :: xs) = max x.depth (alK xs) := rfl
   rw [e1] at hn
   rw [anM]
   apply wpAny_bind; apply wpAny_bind
   refine vC x m A s _ _ _ _ r1 p.1 (by omega) ?_
   simp only [ami, if_false]
   exact wpAny_pure (abg xs m A s _ _ _ _ r2 p.2 (by omega) q)
end
mutual
theorem vO {P : Program} {w : World} : ∀ (d : PyData) (n : Nat) (A : Around) (s : Shared) (v : Value) (as : List Addr) (E : Value -> Shared -> Prop) (Q : Bool -> Shared -> Prop), Reads s.heap v d as -> zw d = true -> (∀ b, Q b s) -> wpAny (model P w) A (hashByValue n v) Q E s
 | .int i, n, A, s, _, _, E, Q, r, _, q => by
  cases r
  unfold hashByValue
  exact wpAny_pure (q _)
 | .str x, n, A, s, _, _, E, Q, r, _, q => by
  cases r
  unfold hashByValue
  exact wpAny_pure (q _)
 | .tuple xs, n, A, s, _, _, E, Q, r, p, q => by
  cases r with
  | @tuple a o vs n' _ as h1 h2 h3 h4 =>
   rw [zw] at p
   have hT : s.TypeIs (.ref a) "tuple" := ⟨o, h1, h2⟩
   cases n with
   | zero =>
    unfold hashByValue
    exact wpAny_pure (q _)
   | succ m =>
    unfold hashByValue
    apply wpAny_bind; apply wpAny_specialOf hT amS.lookup
    show wpAny _ _ (seqItems? (.ref a) >>= _) _ _ s
    apply wpAny_bind; apply wpAny_seqItems h1 h3
    apply wpAny_bind
    show wpAny _ _ (forIn vs _ _) _ _ s
    rw [<- anO]
    exact vP xs m A s _ _ _ _ h4 p (wpAny_pure (q _)) fun b => wpAny_pure (q b)
 | .none, _, _, _, _, _, _, _, _, h, _ => by cases h
 | .bool _, _, _, _, _, _, _, _, _, h, _ => by cases h
 | .list _, _, _, _, _, _, _, _, _, h, _ => by cases h
 | .dict _, _, _, _, _, _, _, _, _, h, _ => by cases h
theorem vP {P : Program} {w : World} : ∀ (xs : List PyData) (m : Nat) (A : Around) (s : Shared) (vs : List Value) (as : List Addr) (E : Value -> Shared -> Prop) (Q : Option Bool × Unit -> Shared -> Prop), ReadsAll s.heap vs xs as -> zG xs = true -> Q (none, ()) s -> (∀ b, Q (some b, ()) s) ->
  wpAny (model P w) A (forIn vs ((none, ()) : Option Bool × Unit) fun y _ => do
   let b <- hashByValue m y
   if (!b) = true then pure (ForInStep.done (some false, ())) else pure (ForInStep.yield (none, ()))) Q E s
 | [], m, A, s, _, _, E, Q, r, _, q, _ => by
  cases r
  rw [anS]
  exact wpAny_pure q
 | x :: xs, m, A, s, _, _, E, Q, r, p, q, q2 => by
  cases r with
  | cons r1 r2 =>
   rw [zG, alM] at p
   rw [anM]
   apply wpAny_bind; apply wpAny_bind
   refine vO x m A s _ _ _ _ r1 p.1 fun b => ?_
   cases b with
   | true =>
    simp only [amm, ami, if_false]
    exact wpAny_pure (vP xs m A s _ _ _ _ r2 p.2 q q2)
   | false =>
    simp only [aoB, if_true]
    exact wpAny_pure (wpAny_pure (q2 false))
end
noncomputable instance decPy : DecidableEq PyData := fun a b => amy _
structure KeyAt (h : Heap) (d : PyData) (a : Addr) : Prop where
 rd : ∃ as, Reads h (.ref a) d as
 pl : zw d = true
 dp : d.depth <= 8
theorem KeyAt.keep {h h' : Heap} {d : PyData} {a : Addr} (x : KeyAt h d a) (k : ∀ b o, h.get? b = some o -> (∀ es ep, o.data ≠ .dict es ep) -> (∀ es ep t, o.data ≠ .set es ep t) -> h'.get? b = some o) : KeyAt h' d a := by
 obtain ⟨⟨as, r⟩, p, q⟩ := x
 refine ⟨?_, p, q⟩
 have go : (∀ (d : PyData) (v : Value) (as : List Addr), Reads h v d as -> zw d = true -> Reads h' v d as) := by
  intro d v as r
  refine Reads.rec (motive_1 := fun v d as _ => zw d = true -> Reads h' v d as) (motive_2 := fun vs ds as _ => zG ds = true -> ReadsAll h' vs ds as) ?_ ?_ ?_ ?_ ?_ ?_ ?_ ?_ ?_ r
  ·intro p; cases p
  ·intro b p; cases p
  ·intro i t p; exact .int i t
  ·intro x t p; exact .str x t
  ·intro a o vs n xs as h1 h2 h3 h4 ih p; cases p
  ·intro a o vs n xs as h1 h2 h3 h4 ih p
   rw [zw] at p
   exact .tuple (k a o h1 (fun es ep z => by rw [h3] at z; cases z) (fun es ep t z => by rw [h3] at z; cases z)) h2 h3 (ih p)
  ·intros; rename_i p; cases p
  ·intro p; exact .nil
  ·intro v vs d ds as bs r rs ih1 ih2 p
   rw [zG, alM] at p
   exact .cons (ih1 p.1) (ih2 p.2)
 exact ⟨as, go d _ as r p⟩
noncomputable def v9 (P : Program) (w : World) : HeapKind P w PyData where
 is := KeyAt
 hash := zt w
 draws := zS
 room := fun A => A.units + 40 < cLine
 inj := fun {h a x y} hx hy => by
  obtain ⟨⟨as, r⟩, p, _⟩ := hx
  obtain ⟨⟨bs, r'⟩, p', _⟩ := hy
  exact SeqAt.Reads.unique _ _ _ _ _ (yr x p) r r'
 keeps := fun {h h' k a d o es ep} x ho hd sb => x.keep fun b u hb n1 n2 => by
  have : b ≠ d := fun z => by
   rw [z, ho] at hb
   cases hb
   exact n1 es ep hd
  exact (sb.2 b this).trans hb
 pyHash := fun {A E s k a Q} hu x q => by
  obtain ⟨⟨as, r⟩, p, hd⟩ := x
  exact aaz k A s _ as E Q r p (by omega) q
 eqBool := fun {A E s x y a b Q} hu hx hy q => by
  obtain ⟨⟨as, r⟩, p, hd⟩ := hx
  obtain ⟨⟨bs, r'⟩, p', hd'⟩ := hy
  refine SeqAt.eqAt_reads x y A s _ _ _ _ r r' (yr x p) (yr y p') (by omega) P w E Q ?_
  have : al4 x y = decide (x = y) := by
   by_cases e : x = y
   ·rw [decide_eq_true e]; exact (v8 p p').mpr e
   ·rw [decide_eq_false e]
    cases z : al4 x y with
    | false => rfl
    | true => exact absurd ((v8 p p').mp z) e
  rw [this]
  exact q
 quiet := fun {A E s k a Q} x q => by
  obtain ⟨⟨as, r⟩, p, hd⟩ := x
  exact jk k 8 A s _ as E Q r p hd q
end L2
end
section
namespace L2
open PySem PySem.Spec PyProof.Rows PySem.SetTable
section
variable {P : Program} {w : World} {A : Around} {E : Value -> Shared -> Prop} {s : Shared}
theorem aix {b : Addr} {d : PyData} {Q : Bool -> Shared -> Prop} (kb : KeyAt s.heap d b) : ∀ l : List Value, (∀ y ∈ l, ∃ d' b', y = .ref b' /\ KeyAt s.heap d' b') -> Q false s -> wpAny (model P w) A (searchCouldBeSeen (.ref b) l) Q E s := by
 intro l hl q
 unfold searchCouldBeSeen
 apply wpAny_bind
 refine wpAny_forIn_list _ (fun rest r s' => r = (none, ()) /\ s' = s /\ ∀ y ∈ rest, y ∈ l) _ ?_ ?_ _ _ ⟨rfl, rfl, fun _ h => h⟩
 ·rintro y rest r s' ⟨rfl, rfl, hm⟩
  obtain ⟨d', b', rfl, kb'⟩ := hl y (hm y alL)
  obtain ⟨⟨as, rd⟩, pd, dd⟩ := id kb
  obtain ⟨⟨bs, rd'⟩, pd', dd'⟩ := id kb'
  have more : ∀ z ∈ rest, z ∈ l := fun z hz => hm z (alH _ hz)
  dsimp only
  split
  ·exact wpAny_pure ⟨rfl, rfl, more⟩
  ·apply wpAny_bind
   refine jk d 8 A _ _ as _ _ rd pd dd ?_
   simp only [amm, ami, if_false]
   apply wpAny_bind
   refine jk d' 8 A _ _ bs _ _ rd' pd' dd' ?_
   simp only [amm, ami, if_false]
   apply wpAny_bind
   refine vC d 8 A _ _ as _ _ rd pd dd ?_
   simp only [ami, if_false]
   apply wpAny_bind
   refine vC d' 8 A _ _ bs _ _ rd' pd' dd' ?_
   simp only [ami, if_false]
   exact wpAny_pure ⟨rfl, rfl, more⟩
 ·rintro r s' ⟨rfl, rfl, _⟩
  exact wpAny_pure q
structure SetObj (w : World) (h : Heap) (a : Addr) (xs : List (PyData × Addr)) (o : Obj) (es : Array (Int × Value)) (ep : Nat) (t : SetTable) : Prop where
 ob : h.get? a = some o
 ex : o.ExactSet
 da : o.data = .set es ep t
 el : es.toList = xs.map fun x => (zt w x.1, Value.ref x.2)
 ok : ST.TOk t (xs.map fun x => zt w x.1)
theorem SetObj.size {h : Heap} {a : Addr} {xs : List (PyData × Addr)} {o : Obj} {es : Array (Int × Value)} {ep : Nat} {t : SetTable} (x : SetObj w h a xs o es ep t) : es.size = xs.length := by
 rw [<- alS, x.el, alD]
theorem SetObj.fits {h : Heap} {a : Addr} {xs : List (PyData × Addr)} {o : Obj} {es : Array (Int × Value)} {ep : Nat} {t : SetTable} (x : SetObj w h a xs o es ep t) : t.fits es.size = true := by
 unfold SetTable.fits apx
 have h1 := x.ok.size
 have h2 := x.ok.most
 rw [alD] at h1 h2
 rw [x.size, h1, x.ok.dum]
 simp
 exact h2
theorem SetObj.at {h : Heap} {a : Addr} {xs : List (PyData × Addr)} {o : Obj} {es : Array (Int × Value)} {ep : Nat} {t : SetTable} (x : SetObj w h a xs o es ep t) {i : Nat} (hi : i < xs.length) : es[i]? = some (zt w xs[i].1, Value.ref xs[i].2) := by
 rw [<- apb, x.el, alJ, alB hi]
 rfl
theorem ahe {t : SetTable} {hs : List Int} (o : ST.TOk t hs) : t.gaveWay = false := by
 unfold SetTable.gaveWay
 rcases o.mask with e | e | e | e <;> rw [e] <;> rfl
theorem ahf {α : Type} {M : Model} {c : Bool} {m : Sem Bool} {u : Sem Unit} {r : Sem α} {Q : α -> Shared -> Prop} (hr : wpAny M A r Q E s) (hm : ∀ R : Bool -> Shared -> Prop, R false s -> wpAny M A m R E s) :
  wpAny M A (if c = true then (do
   let b <- m
   if b = true then do
    u
    r
   else r) else r) Q E s := by
 cases c with
 | false => rw [if_neg alC]; exact hr
 | true =>
  rw [if_pos rfl]
  apply wpAny_bind
  refine hm _ ?_
  rw [if_neg alC]
  exact hr
theorem acZ {M : Model} {a : Addr} {Q : Bool -> Shared -> Prop} (q : Q true s) : wpAny M A (isSame (.ref a) (.ref a)) Q E s := by
 unfold isSame
 simp only [beq_self_eq_true]
 exact wpAny_pure q
theorem vD {a b : Addr} {d : PyData} {xs : List (PyData × Addr)} {o : Obj} {es : Array (Int × Value)} {ep : Nat} {t : SetTable} {adding : Bool} {Q : SetFound -> Shared -> Prop} (S : SetObj w s.heap a xs o es ep t) (ks : ∀ x ∈ xs, KeyAt s.heap x.1 x.2)
  (kb : KeyAt s.heap d b) (hu : A.units + 40 < cLine) {F : Nat} (hF : ST.First t (zt w d) F) (yes : d ∈ xs.map (·.1) -> ∀ r : Option Nat, (adding = false -> r.isSome = true) -> Q (.there r) s) (no : d ∉ xs.map (·.1) -> Q (.free (ST.pos t.mask (zt w d) F) false) s) :
  ∀ f k stand, k <= F -> F < k + f -> stand.getD (t.probeStart (zt w d)) = ST.road t.mask (zt w d) k ->
   (∀ q i, q < k -> i < xs.length -> ST.pos t.mask (zt w d) q = t.place.getD i 0 -> (xs.getD i (.none, 0)).1 ≠ d) ->
   wpAny (model P w) A (setSearchFrom a (.ref b) (zt w d) adding f stand) Q E s
 | 0, k, stand, h1, h2, _, _ => by omega
 | f + 1, k, stand, h1, h2, hst, past => by
  have sz := S.ok.size
  rw [alD] at sz
  have key : ∀ g : Nat -> Int, (∀ i, g i = (es[i]?.map (·.1)).getD 0) ->
    (t.probe g (zt w d) (ST.road t.mask (zt w d) k) = some (.empty (ST.pos t.mask (zt w d) F) none) /\ ∀ q i, k <= q -> q < F -> i < t.place.size -> ST.pos t.mask (zt w d) q = t.place.getD i 0 -> g i ≠ zt w d) \/
    ∃ q i, k <= q /\ q < F /\ i < t.place.size /\ ST.pos t.mask (zt w d) q = t.place.getD i 0 /\ g i = zt w d /\ t.probe g (zt w d) (ST.road t.mask (zt w d) k) = some (.candidate (ST.pos t.mask (zt w d) q) i (ST.road t.mask (zt w d) (q + 1))) /\ ∀ q' i', k <= q' -> q' < q -> i' < t.place.size -> ST.pos t.mask (zt w d) q' = t.place.getD i' 0 -> g i' ≠ zt w d :=
   fun g _ => ST.probe_go S.ok.dum S.ok.rise hF (10 * turns t.mask) k h1 (by have := hF.lt; omega)
  have gat : ∀ i (hi : i < xs.length), (es[i]?.map (·.1)).getD 0 = zt w xs[i].1 := fun i hi => by rw [S.at hi]; rfl
  unfold setSearchFrom
  apply wpAny_bind
  refine wpAny_setState_of S.ob S.da S.fits ?_
  dsimp only
  rw [ahe S.ok, if_neg alC, hst]
  have reach : ∀ i (hi : i < xs.length), xs[i].1 = d -> ∃ q, q < F /\ ST.pos t.mask (zt w d) q = t.place.getD i 0 := fun i hi ed => by
   obtain ⟨q, a1, a2⟩ := S.ok.reach i (by rw [alD]; exact hi)
   have eh : (xs.map fun x => zt w x.1).getD i 0 = zt w d := by
    rw [alF, alJ, alB hi, <- ed]
    rfl
   rw [eh] at a1 a2
   refine ⟨q, ?_, a1⟩
   by_cases c : q < F
   ·exact c
   ·by_cases c2 : q = F
    ·subst c2
     exact absurd ⟨i, by omega, a1.symm⟩ hF.free
    ·exact absurd (a2 F (by omega)) hF.free
  have ggd : ∀ i (hi : i < xs.length), xs.getD i (.none, 0) = xs[i] := fun i hi => by rw [alF, alB hi]; rfl
  rcases key (fun i => (es[i]?.map (·.1)).getD 0) (fun i => rfl) with ⟨e, none_⟩ | ⟨q, i, q1, q2, q3, q4, q5, e, none_⟩
  ·have ee : ∀ g : Nat -> Int, (∀ i, g i = (es[i]?.map (·.1)).getD 0) -> t.probe g (zt w d) (ST.road t.mask (zt w d) k) = some (.empty (ST.pos t.mask (zt w d) F) none) := fun g hg => by
    rw [show g = fun i => (es[i]?.map (·.1)).getD 0 from funext hg]
    exact e
   rw [ee]
   rotate_left
   ·exact fun i => rfl
   dsimp only
   refine wpAny_pure (no fun hd => ?_)
   obtain ⟨x, hx, ex⟩ := al1.mp hd
   obtain ⟨i, hi, ei⟩ := anc hx
   have ed : xs[i].1 = d := by rw [ei]; exact ex
   obtain ⟨q, qF, qp⟩ := reach i hi ed
   by_cases c : q < k
   ·exact past q i c hi qp (by rw [ggd i hi]; exact ed)
   ·exact none_ q i (by omega) qF (by omega) qp (by rw [gat i hi, ed])
  ·have ee : ∀ g : Nat -> Int, (∀ i, g i = (es[i]?.map (·.1)).getD 0) -> t.probe g (zt w d) (ST.road t.mask (zt w d) k) = some (.candidate (ST.pos t.mask (zt w d) q) i (ST.road t.mask (zt w d) (q + 1))) := fun g hg => by
    rw [show g = fun i => (es[i]?.map (·.1)).getD 0 from funext hg]
    exact e
   have hi : i < xs.length := by omega
   have mi : xs[i] ∈ xs := al9 hi
   have ki := ks _ mi
   rw [ee]
   rotate_left
   ·exact fun i => rfl
   dsimp only
   refine ahf ?_ fun R hR => aix kb _ (fun y hy => ?_) hR
   rotate_left
   ·obtain ⟨p, hp, rfl⟩ := al1.mp hy
    have hp2 : p ∈ es.toList := by
     have := ans.mp hp
     exact ans.mpr (Array.mem_filter.mp this).1
    rw [S.el] at hp2
    obtain ⟨x, hx, rfl⟩ := al1.mp hp2
    exact ⟨x.1, x.2, rfl, ks x hx⟩
   rw [S.at hi]
   dsimp only
   apply wpAny_bind; apply wpAny_holding
   refine (v9 P w).eqBool (A := A) hu ki kb ?_
   apply wpAny_bind
   refine wpAny_setState_of S.ob S.da S.fits ?_
   dsimp only
   have same : t.sameMemory t.moves t.mask = some true := by
    unfold SetTable.sameMemory
    rw [if_pos (beq_self_eq_true _)]
   have live : t.slot (ST.pos t.mask (zt w d) q) = .live i := by rw [q4]; exact ST.slot_live S.ok.rise q3
   by_cases ed : xs[i].1 = d
   ·have y2 := yes (al1.mpr ⟨_, mi, ed⟩)
    rw [decide_eq_true ed]
    cases adding with
    | true => exact wpAny_pure (y2 _ fun z => nomatch z)
    | false =>
     rw [anQ, if_neg alC, same]
     dsimp only
     rw [if_pos rfl, live]
     dsimp only
     rw [S.at hi]
     dsimp only
     apply wpAny_bind
     refine acZ ?_
     apply wpAny_bind; apply wpAny_pure
     rw [if_pos rfl]
     dsimp only
     rw [if_pos rfl]
     exact wpAny_pure (y2 _ fun _ => rfl)
   ·rw [decide_eq_false ed, aoA, if_neg alC, same]
    dsimp only
    rw [if_pos rfl, live]
    dsimp only
    rw [S.at hi]
    dsimp only
    apply wpAny_bind
    refine acZ ?_
    apply wpAny_bind; apply wpAny_pure
    rw [if_pos rfl]
    dsimp only
    rw [if_neg alC]
    refine vD S ks kb hu hF yes no f (q + 1) _ (by omega) (by omega) rfl fun q' i' c1 c2 c3 => ?_
    rw [ggd i' c2]
    intro z
    by_cases c4 : q' < k
    ·exact past q' i' c4 c2 c3 (by rw [ggd i' c2]; exact z)
    ·by_cases c5 : q' = q
     ·subst c5
      have ii : i' = i := by
       have b1 := ST.below_at S.ok.rise (i := i) (by omega)
       have b2 := ST.below_at S.ok.rise (i := i') (by omega)
       rw [<- q4] at b1
       rw [<- c3] at b2
       omega
      subst ii
      exact ed z
     ·exact none_ q' i' (by omega) (by omega) (by omega) c3 (by rw [gat i' c2, z])
end
end L2
end
section
namespace L2
open PySem PySem.Spec PyProof.Rows PySem.SetTable
section
variable {P : Program} {w : World} {A : Around} {E : Value -> Shared -> Prop} {s : Shared} {a b : Addr} {d : PyData} {xs : List (PyData × Addr)} {o : Obj} {es : Array (Int × Value)} {ep : Nat} {t : SetTable}
theorem SetObj.type (S : SetObj w s.heap a xs o es ep t) : s.TypeIs (.ref a) "set" := ⟨o, S.ob, S.ex.1⟩
theorem aeS (b : Addr) (es : Array (Int × Value)) : byScan (.ref b) es = false := rfl
theorem ac0 {Q : Bool -> Shared -> Prop} (S : SetObj w s.heap a xs o es ep t) (ks : ∀ x ∈ xs, KeyAt s.heap x.1 x.2) (kb : KeyAt s.heap d b) (hu : A.units + 60 < cLine) (q : Q (decide (d ∈ xs.map (·.1))) { s with toks := s.toks + zS d }) :
  wpAny (model P w) A (contains (.ref a) (.ref b)) Q E s := by
 obtain ⟨F, hF⟩ := ST.first_of S.ok.toTB (zt w d)
 have hl := hF.lt
 have ht : turns t.mask <= 526 := by
  unfold turns
  rcases S.ok.mask with e | e | e | e <;> omega
 unfold contains
 try with_reducible refine wpAny_holding ?_
 apply wpAny_bind; apply wpAny_specialOf S.type anB.lookup
 show wpAny _ _ (if (some (Value.builtin "set.__contains__") == some Value.none) = true then _ else _) _ E s
 rw [if_neg (by rw [beq_builtin_none]; exact alC)]
 apply wpAny_bind
 refine wpAny_callSpecialUnlessNone?_slot (name := Str.ofString "__contains__") S.type anB (wpAny_call_entry anB S.type entry_set_contains ?_ (PySem.F.args_set_contains_2 _ _))
 unfold Builtin.«frozenset.__contains__» aoC
 simp only [List.isEmpty_nil, bind_assoc]
 unfold aoS Builtin.Frozenset.withSetAsKey setContains
 apply wpAny_bind; apply wpAny_pure
 dsimp only
 apply wpAny_bind; apply wpAny_pure
 dsimp only
 apply wpAny_bind; apply wpAny_tryCatch; apply wpAny_holding
 apply wpAny_bind
 have hu1 : A.in1.units = A.units + 1 := rfl
 have hu2 : A.in1.in1.units = A.units + 1 + 1 := rfl
 refine (v9 P w).pyHash (by show _ + 40 < cLine; omega) kb ?_
 apply wpAny_bind
 unfold setFind setFindIn
 apply wpAny_bind
 refine wpAny_setState_of (s := { s with toks := s.toks + zS d }) S.ob S.da S.fits ?_
 dsimp only
 rw [aeS, if_neg alC]
 apply wpAny_bind
 unfold setSearch
 have fin : ∀ r : Option Nat, r.isSome = decide (d ∈ xs.map (·.1)) -> ∀ R : Value -> Shared -> Prop, R (.bool (decide (d ∈ xs.map (·.1)))) { s with toks := s.toks + zS d } -> R (.bool r.isSome) { s with toks := s.toks + zS d } := fun r e R hR => by rw [e]; exact hR
 refine vD (s := { s with toks := s.toks + zS d }) (adding := false) S ks kb (by omega) hF (fun hd r hr => ?_) (fun hd => ?_) 100000 0 none (ama _) (by omega) (ST.road_start t _) (fun q i c => by omega)
 ·refine wpAny_pure (wpAny_pure ?_)
  show wpAny _ _ (ret (Value.bool r.isSome)) _ _ _
  rw [hr rfl]
  rw [decide_eq_true hd] at q
  exact wpAny_pure ⟨_, rfl, wpAny_truthy_bool q⟩
 ·refine wpAny_pure (wpAny_pure ?_)
  show wpAny _ _ (ret (Value.bool false)) _ _ _
  rw [decide_eq_false hd] at q
  exact wpAny_pure ⟨_, rfl, wpAny_truthy_bool q⟩
def aeT (es : Array (Int × Value)) (laid : Option (SetTable × Array Nat)) : Sem (Array (Int × Value) × SetTable) := do
 let some (t, order) := laid | unsupported "internal:set-table-without-room"
 let es' := order.filterMap (es[·]?)
 if es'.size != es.size then unsupported "internal:set-table-lost-an-element"
 pure (es', t)
theorem ahg (a : Addr) (wanted : Nat) : setRelay a wanted = (do
  let (es, _, t) <- setState a
  if aoD wanted > sizeLine then unsupported "set:memory"
  let (es, t) <- aeT es (t.relaid (es.map (·.1)) wanted)
  storeSet a es t) := rfl
theorem qC {α : Type} (es : Array α) : ∀ l : List Nat, (∀ i ∈ l, i < es.size) -> ∀ dflt : α, l.filterMap (fun i => es[i]?) = l.map fun i => es.toList.getD i dflt
 | [], _, _ => rfl
 | i :: l, h, dflt => by
  have hi := h i alL
  rw [anC, aoH hi, al3, qC es l (fun j hj => h j (alH _ hj)) dflt]
  simp [hi]
theorem ahh {Q : Unit -> Shared -> Prop} {mask wanted : Nat} (S0 : s.heap.get? a = some o) (ex : o.ExactSet) (da : o.data = .set es ep t) (el : es.toList = xs.map fun x => (zt w x.1, Value.ref x.2)) (tb : ST.TB t (xs.map fun x => zt w x.1)) (mk : mask = 31 \/ mask = 127 \/ mask = 511) (hw : aoD wanted = mask + 1)
  (room : xs.length * 5 < mask * 3) (q : ∀ xs' o' es' ep' t' h', xs'.Perm xs -> ani a s.heap h' -> SetObj w h' a xs' o' es' ep' t' -> Q () { s with heap := h' }) : wpAny (model P w) A (setRelay a wanted) Q E s := by
 have sz : es.size = xs.length := by rw [<- alS, el, alD]
 have fits : t.fits es.size = true := by
  unfold SetTable.fits apx
  have h1 := tb.size
  have h2 := tb.most
  rw [alD] at h1 h2
  rw [sz, h1, tb.dum]
  simp
  exact h2
 have mk2 : mask = 7 \/ mask = 31 \/ mask = 127 \/ mask = 511 := .inr mk
 obtain ⟨t2, ord, e1, e2, _, _, pm, tb2⟩ := ST.laid_ok mk2 (es.map (·.1)) (by rw [aph, sz]; omega) t.finger (t.movedTo mask) t.led t.plain
 rw [aph] at pm
 have hlt : ∀ i ∈ ord.toList, i < es.size := fun i hi => al8.mp (pm.mem_iff.mp hi)
 let xs' := ord.toList.map fun i => xs.getD i (.none, 0)
 have px : xs'.Perm xs := by
  have e : (alY es.size).map (fun i => xs.getD i (.none, 0)) = xs := by
   rw [sz]
   refine anT fun i => ?_
   rw [alJ]
   by_cases hi : i < xs.length
   ·rw [anb hi, alB hi]
    simp [hi]
   ·rw [al5 (by simp; omega), al5 (by omega)]
    rfl
  have := pm.map fun i => xs.getD i (.none, 0)
  rw [e] at this
  exact this
 have ee : (ord.filterMap (es[·]?)).toList = xs'.map fun x => (zt w x.1, Value.ref x.2) := by
  rw [Array.toList_filterMap, qC es ord.toList hlt (0, Value.none), anY]
  refine aos fun i hi => ?_
  have h2 := hlt i hi
  have h3 : i < xs.length := by omega
  rw [el, alF, alJ, alB h3]
  show _ = (zt w (xs.getD i (.none, 0)).1, Value.ref (xs.getD i (.none, 0)).2)
  rw [alF, alB h3]
  rfl
 have es_sz : (ord.filterMap (es[·]?)).size = es.size := by
  rw [<- alS, ee, alD, px.length_eq, sz]
 have tok : ST.TOk t2 (xs'.map fun x => zt w x.1) := by
  have eh : (ord.toList.map fun i => (es.map (·.1)).toList.getD i 0) = xs'.map fun x => zt w x.1 := by
   rw [anY]
   refine aos fun i hi => ?_
   have h3 : i < xs.length := by have := hlt i hi; omega
   rw [Array.toList_map, el, anY, alF, alJ, alB h3]
   show zt w xs[i].1 = zt w (xs.getD i (.none, 0)).1
   rw [alF, alB h3]
   rfl
  rw [eh] at tb2
  refine ⟨tb2, ?_⟩
  rw [alD, px.length_eq, e2]
  exact room
 rw [ahg]
 apply wpAny_bind
 refine wpAny_setState_of S0 da fits ?_
 dsimp only
 rw [hw, if_neg (by rw [sizeLine_eq]; omega)]
 have e1' : t.relaid (es.map (·.1)) wanted = some (t2, ord) := by
  unfold SetTable.relaid
  rw [hw]
  exact e1
 unfold aeT
 rw [e1']
 apply wpAny_bind
 dsimp only
 rw [es_sz, bne_self_eq_false, if_neg alC]
 apply wpAny_pure
 dsimp only
 refine wpAny_storeSet_of S0 da ?_ (by rw [es_sz, sz, sizeLine_eq]; omega)
 refine q xs' { o with data := .set (ord.filterMap (es[·]?)) (ep + 1) t2 } (ord.filterMap (es[·]?)) (ep + 1) t2 _ px (apt _ _ _) ⟨?_, ex, rfl, ee, tok⟩
 have := aoe (ao3 (ord.filterMap (es[·]?)) t2) S0 (by rw [putSet_of _ _ da]; rfl)
 rw [putSet_of _ _ da] at this
 exact this
theorem ahi {t : SetTable} {hs : List Int} {p : Bool} (x : ST.TB t hs) : ST.TB { t with plain := p } hs := ⟨x.mask, x.dum, x.rise, x.le, x.size, x.most, x.reach⟩
theorem aiy {Q : Shared -> Prop} (S : SetObj w s.heap a xs o es ep t) (ks : ∀ x ∈ xs, KeyAt s.heap x.1 x.2) (kb : KeyAt s.heap d b) (hu : A.units + 59 < cLine) (few : xs.length < 300)
  (old : d ∈ xs.map (·.1) -> Q { s with toks := s.toks + zS d })
  (new : d ∉ xs.map (·.1) -> ∀ xs' o' es' ep' t' h', xs'.Perm ((d, b) :: xs) -> ani a s.heap h' -> SetObj w h' a xs' o' es' ep' t' -> Q { s with heap := h', toks := s.toks + zS d }) :
  wpAny (model P w) A (setAdd a (.ref b)) (fun _ s' => Q s') E s := by
 obtain ⟨F, hF⟩ := ST.first_of S.ok.toTB (zt w d)
 have hl := hF.lt
 have ht : turns t.mask <= 526 := by
  unfold turns
  rcases S.ok.mask with e | e | e | e <;> omega
 have room := S.ok.room
 rw [alD] at room
 unfold setAdd
 apply wpAny_holding
 apply wpAny_bind
 refine (v9 P w).pyHash (by show _ + 40 < cLine; omega) kb ?_
 show wpAny _ _ (setAddHashed a (.ref b) (zt w d)) _ _ _
 unfold setAddHashed setAddHashedIn
 apply wpAny_holding
 apply wpAny_bind
 refine wpAny_setState_of (s := { s with toks := s.toks + zS d }) S.ob S.da S.fits ?_
 dsimp only
 rw [aeS, if_neg alC]
 apply wpAny_bind
 unfold setSearch
 refine vD (s := { s with toks := s.toks + zS d }) (adding := true) S ks kb (by omega) hF (fun hd r _ => ?_) (fun hd => ?_) 100000 0 none (ama _) (by omega) (ST.road_start t _) (fun q i c => by omega)
 ·exact wpAny_pure (old hd)
 ·dsimp only
  apply wpAny_bind
  refine wpAny_setState_of (s := { s with toks := s.toks + zS d }) S.ob S.da S.fits ?_
  dsimp only
  obtain ⟨hp, tb⟩ := ST.put_tb S.ok.toTB hF (by rw [alD]; rcases S.ok.mask with e | e | e | e <;> rw [e] at room ⊢ <;> omega)
  rw [alD] at hp
  have ep2 : (t.put (ST.pos t.mask (zt w d) F)).2 = below t.place (ST.pos t.mask (zt w d) F) := rfl
  rw [ep2]
  generalize below t.place (ST.pos t.mask (zt w d) F) = p at *
  have pm : (xs.take p ++ (d, b) :: xs.drop p).Perm ((d, b) :: xs) := by
   refine List.perm_middle.trans ?_
   rw [aof]
  have el : (insertAt es p (zt w d, Value.ref b)).toList = (xs.take p ++ (d, b) :: xs.drop p).map fun x => (zt w x.1, Value.ref x.2) := by
   rw [anJ, S.el, al6, al3, List.map_take, List.map_drop]
  have eh : (xs.map fun x => zt w x.1).take p ++ zt w d :: (xs.map fun x => zt w x.1).drop p = (xs.take p ++ (d, b) :: xs.drop p).map fun x => zt w x.1 := by
   rw [al6, al3, List.map_take, List.map_drop]
  rw [eh] at tb
  have ln : (xs.take p ++ (d, b) :: xs.drop p).length = xs.length + 1 := by rw [pm.length_eq]; rfl
  have sze : (insertAt es p (zt w d, Value.ref b)).size = xs.length + 1 := by rw [<- alS, el, alD, ln]
  have step : ∀ bv : Bool, ∀ t2, t2 = (if bv = true then (t.put (ST.pos t.mask (zt w d) F)).1 else { (t.put (ST.pos t.mask (zt w d) F)).1 with plain := false }) ->
    ST.TB t2 ((xs.take p ++ (d, b) :: xs.drop p).map fun x => zt w x.1) /\ t2.mask = t.mask := fun bv t2 e => by
   subst e
   cases bv with
   | true => exact ⟨tb, rfl⟩
   | false => exact ⟨ahi tb, rfl⟩
  have tail : ∀ bv : Bool, wpAny (model P w) A (do
    storeSet a (insertAt es p (zt w d, Value.ref b)) (if bv = true then (t.put (ST.pos t.mask (zt w d) F)).1 else { (t.put (ST.pos t.mask (zt w d) F)).1 with plain := false })
    if (!false && (if bv = true then (t.put (ST.pos t.mask (zt w d) F)).1 else { (t.put (ST.pos t.mask (zt w d) F)).1 with plain := false }).tooFull) = true then do
     setRelay a (SetTable.grown (es.size + 1))
     pure true
    else pure true) (fun _ s' => Q s') E { s with toks := s.toks + zS d } := fun bv => by
   obtain ⟨tb2, em⟩ := step bv _ rfl
   generalize (if bv = true then (t.put (ST.pos t.mask (zt w d) F)).1 else { (t.put (ST.pos t.mask (zt w d) F)).1 with plain := false }) = t2 at *
   apply wpAny_bind
   refine wpAny_storeSet_of (s := { s with toks := s.toks + zS d }) S.ob S.da ?_ (by rw [sze, sizeLine_eq]; omega)
   have g : (s.heap.update a (ao3 (insertAt es p (zt w d, Value.ref b)) t2)).get? a = some { o with data := .set (insertAt es p (zt w d, Value.ref b)) (ep + 1) t2 } := by
    have := aoe (ao3 (insertAt es p (zt w d, Value.ref b)) t2) S.ob (by rw [putSet_of _ _ S.da]; rfl)
    rw [putSet_of _ _ S.da] at this
    exact this
   have sb := apt s.heap a (ao3 (insertAt es p (zt w d, Value.ref b)) t2)
   have fill : t2.tooFull = decide ((xs.length + 1) * 5 >= t.mask * 3) := by
    unfold SetTable.tooFull apx
    have h1 := tb2.size
    rw [alD, ln] at h1
    rw [h1, tb2.dum, em]
    rfl
   rw [aoB, aok, fill]
   by_cases full : (xs.length + 1) * 5 >= t.mask * 3
   ·rw [if_pos (decide_eq_true full), S.size]
    have : ∃ mask, (mask = 31 \/ mask = 127 \/ mask = 511) /\ aoD (SetTable.grown (xs.length + 1)) = mask + 1 /\ (xs.length + 1) * 5 < mask * 3 := by
     rcases S.ok.mask with e | e | e | e
     ·rw [e] at room full
      have : xs.length = 4 := by omega
      rw [this]
      exact ⟨31, .inl rfl, by decide, by decide⟩
     ·rw [e] at room full
      have : xs.length = 18 := by omega
      rw [this]
      exact ⟨127, .inr (.inl rfl), by decide, by decide⟩
     ·rw [e] at room full
      have : xs.length = 76 := by omega
      rw [this]
      exact ⟨511, .inr (.inr rfl), by decide, by decide⟩
     ·rw [e] at room full
      omega
    obtain ⟨mask, mk, hw, rm⟩ := this
    apply wpAny_bind
    refine ahh (s := { s with heap := s.heap.update a (ao3 (insertAt es p (zt w d, Value.ref b)) t2), toks := s.toks + zS d }) (o := { o with data := .set (insertAt es p (zt w d, Value.ref b)) (ep + 1) t2 }) g S.ex rfl el tb2 mk hw (by rw [ln]; exact rm) fun xs' o' es' ep' t' h' px sb' S' => wpAny_pure ?_
    exact new hd xs' o' es' ep' t' h' (px.trans pm) (sb.trans sb') S'
   ·rw [if_neg (by rw [decide_eq_false full]; exact alC)]
    refine wpAny_pure (new hd _ _ _ _ _ _ pm sb ⟨g, S.ex, rfl, el, ⟨tb2, ?_⟩⟩)
    rw [alD, ln, em]
    omega
  obtain ⟨as, rd⟩ := kb.rd
  split
  ·apply wpAny_bind
   exact vO d 8 _ { s with toks := s.toks + zS d } _ as _ _ rd kb.pl fun bv => tail bv
  ·apply wpAny_bind; apply wpAny_pure
   exact tail true
theorem ako {Q : Value -> Shared -> Prop} (S : SetObj w s.heap a xs o es ep t) (ks : ∀ x ∈ xs, KeyAt s.heap x.1 x.2) (kb : KeyAt s.heap d b) (hu : A.units + 60 < cLine) (few : xs.length < 300)
  (old : d ∈ xs.map (·.1) -> Q .none { s with toks := s.toks + zS d })
  (new : d ∉ xs.map (·.1) -> ∀ xs' o' es' ep' t' h', xs'.Perm ((d, b) :: xs) -> ani a s.heap h' -> SetObj w h' a xs' o' es' ep' t' -> Q .none { s with heap := h', toks := s.toks + zS d }) :
  wpAny (model P w) A (call (.builtin "set.add") [.ref a, .ref b]) Q E s := by
 refine wpAny_call_entry apj S.type PySem.F.entry_set_add ?_ (PySem.F.args_set_add_2 _ _)
 unfold Builtin.«set.add» aoC
 simp only [List.isEmpty_nil, bind_assoc]
 unfold aoS
 apply wpAny_bind; apply wpAny_pure
 try dsimp only
 apply wpAny_bind; apply wpAny_pure
 try dsimp only
 apply wpAny_bind
 have hu1 : A.in1.units = A.units + 1 := rfl
 refine aiy (Q := fun s' => wpAny (model P w) A.in1 (ret Value.none) (fun fin s' => ∃ r, fin = .done (.ret r) /\ Q r s') E s') S ks kb (by omega) few (fun hd => wpAny_pure ⟨_, rfl, old hd⟩) fun hd xs' o' es' ep' t' h' p1 p2 p3 => wpAny_pure ⟨_, rfl, new hd xs' o' es' ep' t' h' p1 p2 p3⟩
end
inductive OC where
 | lst (es : List PyData)
 | set (ks : List PyData)
 | dic (kvs : List (PyData × PyData))
def SetO (w : World) (a : Addr) (xs : List (PyData × Addr)) : HO := .ext fun h => ∃ o es ep t, SetObj w h a xs o es ep t
structure DicObj (w : World) (h : Heap) (a : Addr) (xs : List (PyData × Addr × Value)) (o : Obj) (es : Array DictEntry) (ep : Nat) : Prop where
 ob : h.get? a = some o
 ex : o.ExactDict
 da : o.data = .dict es ep
 el : es.toList = xs.map fun x => (⟨zt w x.1, .ref x.2.1, x.2.2⟩ : DictEntry)
 nd : (xs.map (·.1)).Nodup
 ns : (a == sysModules) = false
def DicO (w : World) (a : Addr) (xs : List (PyData × Addr × Value)) : HO := .ext fun h => ∃ o es ep, DicObj w h a xs o es ep
def vb (d : PyData) : Prop := zw d = true /\ d.depth <= 8
def EntR (K : alE) (Hh : Hp) (x : PyData × Addr × Value) (p : PyData × PyData) : Prop := x.1 = p.1 /\ vb x.1 /\ Rep K Hh x.1 (.ref x.2.1) /\ ∃ v, Rep K Hh p.2 v /\ RelV v x.2.2
theorem EntR.mono {K : alE} {Hh Hh' : Hp} (s : Same Hh Hh') : ∀ {xs : List (PyData × Addr × Value)} {kvs : List (PyData × PyData)}, Paired (EntR K Hh) xs kvs -> Paired (EntR K Hh') xs kvs
 | _, _, .nil => .nil
 | _, _, .cons ⟨h1, h2, h3, v, h4, h5⟩ t => .cons ⟨h1, h2, Rep.mono s _ _ h3, v, Rep.mono s _ _ h4, h5⟩ (EntR.mono s t)
def OwnAt (w : World) (K : alE) (Hh H : Hp) (D : Addr) : OC -> Prop
 | .lst es => ∃ vs, H D = some (.lst vs) /\ Reps K Hh es vs
 | .set ks => ∃ xs : List (PyData × Addr), H D = some (SetO w D xs) /\ (∀ x ∈ xs, vb x.1 /\ Rep K Hh x.1 (.ref x.2)) /\ (∀ d, d ∈ xs.map (·.1) ↔ d ∈ ks) /\ xs.length <= ks.length
 | .dic kvs => ∃ xs : List (PyData × Addr × Value), H D = some (DicO w D xs) /\ Paired (EntR K Hh) xs kvs
theorem OwnAt.mono {w : World} {K : alE} {Hh Hh' H H' : Hp} {D : Addr} (e : H' D = H D) (s : Same Hh Hh') : ∀ {c : OC}, OwnAt w K Hh H D c -> OwnAt w K Hh' H' D c
 | .lst es, ⟨vs, h1, h2⟩ => ⟨vs, e.trans h1, Reps.mono s es vs h2⟩
 | .set ks, ⟨xs, h1, h2, h3⟩ => ⟨xs, e.trans h1, fun x hx => ⟨(h2 x hx).1, Rep.mono s _ _ (h2 x hx).2⟩, h3⟩
 | .dic kvs, ⟨xs, h1, h2⟩ => ⟨xs, e.trans h1, EntR.mono s h2⟩
def Fx.withs (f : Fx) (Ds : List Addr) : Fx := { f with M := Ds.reverse ++ f.M }
theorem yj (f : Fx) (Ds : List Addr) (D : Addr) : f.withs (Ds ++ [D]) = (f.withs Ds).with D := by
 unfold Fx.withs Fx.with
 rw [anD]
 rfl
structure CM (w : World) (K : alE) (f : Fx) (Ds : List Addr) (H2 : Hp) (ρ : zq) (cs : List OC) (σ : St) (H : Hp) : Prop where
 env : EnvOk K (f.withs Ds) ρ σ H
 sm : Same (hide H2 (f.withs Ds)) (hide H (f.withs Ds))
 kp : ∀ b ∈ f.M, H b = H2 b
 len : cs.length = Ds.length
 own : ∀ (i : Nat) D c, Ds[i]? = some D -> cs[i]? = some c -> OwnAt w K (hide H (f.withs Ds)) H D c
structure Sep (f : Fx) (Ds : List Addr) : Prop where
 nd : Ds.Nodup
 nf : ∀ D ∈ Ds, f.f ≠ some D
 nm : ∀ D ∈ Ds, D ∉ f.M
section
variable {w : World} {K : alE} {f : Fx} {Ds : List Addr} {H H' H2 : Hp} {ρ ρ2 : zq} {cs : List OC} {σ σ2 : St} {i : Nat} {D : Addr} {c : OC} {o : HO}
theorem y8 (hD : D ∈ Ds) : D ∈ (f.withs Ds).M := amt _ (am1.mpr hD)
theorem yq (hD : D ∈ Ds) : hide (upd H D o) (f.withs Ds) = hide H (f.withs Ds) := by
 funext b
 unfold hide
 by_cases h : (f.withs Ds).f = some b \/ b ∈ (f.withs Ds).M
 ·rw [if_pos h, if_pos h]
 ·rw [if_neg h, if_neg h, zz fun (z : b = D) => h (.inr (z ▸ y8 hD))]
theorem CM.go (x : CM w K f Ds H2 ρ cs σ H) (g : Goes (f.withs Ds) H H') (e2 : EnvOk K (f.withs Ds) ρ2 σ2 H') : CM w K f Ds H2 ρ2 cs σ2 H' :=
 ⟨e2, x.sm.trans g.sm, fun b hb => (g.kp b (alX _ hb)).trans (x.kp b hb), x.len, fun i D c h1 h2 => (x.own i D c h1 h2).mono (g.kp D (y8 (alN h1))) g.sm⟩
theorem CM.self (x : CM w K f Ds H2 ρ cs σ H) : CM w K f Ds H ρ cs σ H := ⟨x.env, Same.refl _, fun _ _ => rfl, x.len, x.own⟩
theorem CM.trans {cs' : List OC} {ρ' : zq} {σ' : St} (x : CM w K f Ds H2 ρ cs σ H) (y : CM w K f Ds H ρ' cs' σ' H') : CM w K f Ds H2 ρ' cs' σ' H' := ⟨y.env, x.sm.trans y.sm, fun b hb => (y.kp b hb).trans (x.kp b hb), y.len, y.own⟩
theorem aiz (se : Sep f Ds) (hD : D ∈ Ds) (h : FOk (f.withs Ds) H) : FOk (f.withs Ds) (upd H D o) :=
 ⟨fun p e => let ⟨a, b, h1, h2⟩ := h.fd p e; ⟨a, b, by rw [zz (fun (z : p = D) => se.nf D hD (z ▸ e))]; exact h1, h2⟩, fun b hb => by
  by_cases e : b = D
  ·exact ⟨o, by rw [e]; exact zE⟩
  ·obtain ⟨u, hu⟩ := h.mm b hb
   exact ⟨u, by rw [zz e]; exact hu⟩, h.nm⟩
theorem aiA (se : Sep f Ds) (hD : D ∈ Ds) (e : EnvOk K (f.withs Ds) ρ σ H) : EnvOk K (f.withs Ds) ρ σ (upd H D o) :=
 ⟨e.len, fun i x h => by
  obtain ⟨v, h1, h2⟩ := e.get i x h
  refine ⟨v, h1, ?_⟩
  cases x with
  | dat d =>
   show Rep K (hide (upd H D o) (f.withs Ds)) d v
   rw [yq hD]
   exact h2
  | feed => exact h2
  | own k => exact h2
  | exc C =>
   obtain ⟨a, e1, q⟩ := h2
   exact ⟨a, e1, by rw [yq hD]; exact q⟩
  | mon φ =>
   intro H' s
   rw [yq hD] at s
   exact h2 H' s, aiz se hD e.fd⟩
theorem CM.put {c' : OC} (se : Sep f Ds) (x : CM w K f Ds H2 ρ cs σ H) (hi : Ds[i]? = some D) (ho : OwnAt w K (hide H (f.withs Ds)) (upd H D o) D c') : CM w K f Ds H2 ρ (cs.set i c') σ (upd H D o) := by
 have hD := alN hi
 refine ⟨aiA se hD x.env, by rw [yq hD]; exact x.sm, fun b hb => (zz (fun (z : b = D) => se.nm D hD (z ▸ hb))).trans (x.kp b hb), by rw [anL]; exact x.len, fun j D' c h1 h2 => ?_⟩
 rw [yq hD]
 by_cases e : i = j
 ·subst e
  rw [hi] at h1
  cases h1
  have hl : i < cs.length := by rw [x.len]; exact (alG.mp hi).1
  rw [amV hl] at h2
  cases h2
  exact ho
 ·rw [anr e] at h2
  have ne : D' ≠ D := fun z => by
   subst z
   obtain ⟨l1, e1⟩ := alG.mp hi
   obtain ⟨l2, e2⟩ := alG.mp h1
   exact e ((aoi se.nd).mp (e1.trans e2.symm))
  exact (x.own j D' c h1 h2).mono (zz ne) (Same.refl _)
end
structure MEnds where
 nx : zq -> List OC -> Prop
 rt : PyData -> Prop
 bk : zq -> List OC -> Prop := fun _ _ => False
 ct : zq -> List OC -> Prop := fun _ _ => False
def PSm (w : World) (K : alE) (f : Fx) (Ds : List Addr) (ts : TS) (ρ : zq) (cs : List OC) (O : MEnds) : Prop := Sep f Ds -> ∀ (σ : St) (H H2 : Hp) (E : Ends), CM w K f Ds H2 ρ cs σ H ->
 (∀ ρ' cs' σ' H', CM w K f Ds H2 ρ' cs' σ' H' -> O.nx ρ' cs' -> E.nx σ' H') -> (∀ d v ρ' cs' σ' H', CM w K f Ds H2 ρ' cs' σ' H' -> Rep K (hide H' f) d v -> O.rt d -> E.rt v H') ->
 (∀ ρ' cs' σ' H', CM w K f Ds H2 ρ' cs' σ' H' -> O.bk ρ' cs' -> E.bk σ' H') -> (∀ ρ' cs' σ' H', CM w K f Ds H2 ρ' cs' σ' H' -> O.ct ρ' cs' -> E.ct σ' H') -> ts E σ H
def PTm (w : World) (K : alE) (f : Fx) (Ds : List Addr) (tt : TT) (ρ : zq) (cs : List OC) (B : Bool -> Prop) : Prop := Sep f Ds -> ∀ (σ : St) (H H2 : Hp) (Q : Bool -> Hp -> Prop), CM w K f Ds H2 ρ cs σ H -> (∀ b H', Goes (f.withs Ds) H H' -> B b -> Q b H') -> tt σ H Q
def PEm (w : World) (K : alE) (f : Fx) (Ds : List Addr) (te : TE) (ρ : zq) (cs : List OC) (P : PyData -> Prop) : Prop := Sep f Ds -> ∀ (σ : St) (H H2 : Hp) (Q : VK), CM w K f Ds H2 ρ cs σ H -> (∀ d v H', Goes (f.withs Ds) H H' -> Rep K (hide H' (f.withs Ds)) d v -> P d -> Q v H') -> te σ H Q
def ahj (w : World) (K : alE) (f : Fx) (te : TE) (ρ : zq) (P : OC -> Prop) : Prop := ∀ (σ : St) (H : Hp) (Q : VK), EnvOk K f ρ σ H ->
 (∀ c D H', Goes f H H' -> H D = none -> OwnAt w K (hide H' (f.with D)) H' D c -> P c -> Q (.ref D) H') -> te σ H Q
section
variable {w : World} {K : alE} {f : Fx} {Ds : List Addr} {ρ : zq} {cs : List OC} {ts tu : TS} {tt : TT} {te : TE} {wi : TI} {g : TG} {O : MEnds} {i j : Nat}
theorem same_withs {H : Hp} : Same (hide H (f.withs Ds)) (hide H f) := fun b o h => by
 obtain ⟨h1, h2⟩ := zM h
 exact zC (fun z => h1 (z.elim .inl fun z => .inr (alX _ z))) h2
theorem aaB {D : DEnds} (h : PSm w K f [] ts ρ [] { nx := fun ρ' _ => D.nx ρ', rt := D.rt, bk := fun ρ' _ => D.bk ρ', ct := fun ρ' _ => D.ct ρ' }) : PSd K f ts ρ D := fun σ H E e n r b k => by
 have gg : ∀ {ρ' : zq} {cs' : List OC} {σ' : St} {H' : Hp}, CM w K f [] H ρ' cs' σ' H' -> Goes f H H' := fun x => ⟨x.sm, x.env.fd, x.kp⟩
 exact h ⟨anv, (fun _ z => nomatch z), (fun _ z => nomatch z)⟩ σ H H E ⟨e, Same.refl _, fun _ _ => rfl, rfl, (fun i D c z => nomatch z)⟩
  (fun ρ' cs' σ' H' x p => n ρ' σ' H' (gg x) x.env p) (fun d v ρ' cs' σ' H' x r' p => r d v H' (gg x) r' p) (fun ρ' cs' σ' H' x p => b ρ' σ' H' (gg x) x.env p) (fun ρ' cs' σ' H' x p => k ρ' σ' H' (gg x) x.env p)
theorem vE (h : PSd K (f.withs Ds) ts ρ { nx := fun ρ' => O.nx ρ' cs, rt := O.rt, bk := fun ρ' => O.bk ρ' cs, ct := fun ρ' => O.ct ρ' cs }) : PSm w K f Ds ts ρ cs O := fun se σ H H2 E x n r b k =>
 h σ H E x.env (fun ρ' σ' H' g' e' p => n ρ' cs σ' H' (x.go g' e') p) (fun d v H' g' r' p => r d v ρ cs σ H' (x.go g' (x.env.mono g')) (Rep.mono same_withs d v r') p) (fun ρ' σ' H' g' e' p => b ρ' cs σ' H' (x.go g' e') p) (fun ρ' σ' H' g' e' p => k ρ' cs σ' H' (x.go g' e') p)
theorem jC (h : PSm w K f Ds ts ρ cs { O with nx := fun ρ' cs' => PSm w K f Ds tu ρ' cs' O }) : PSm w K f Ds (vT ts tu) ρ cs O := fun se σ H H2 E x n r b k =>
 h se σ H H2 _ x (fun ρ' cs' σ' H' x' p => p se σ' H' H2 E x' n r b k) r b k
theorem abX (h : O.nx ρ cs) : PSm w K f Ds ael ρ cs O := fun _ σ H H2 E x n r b k => n ρ cs σ H x h
theorem ak9 {B : Bool -> Prop} (h : PTd K (f.withs Ds) tt ρ B) : PTm w K f Ds tt ρ cs B := fun se σ H H2 Q x q => h σ H Q x.env q
theorem ac1 {P : PyData -> Prop} (h : PEd K (f.withs Ds) te ρ P) : PEm w K f Ds te ρ cs P := fun se σ H H2 Q x q => h σ H Q x.env q
theorem aiB (h : PTm w K f Ds tt ρ cs fun b => if b = true then PSm w K f Ds ts ρ cs O else PSm w K f Ds tu ρ cs O) : PSm w K f Ds (afr tt ts tu) ρ cs O := fun se σ H H2 E x n r b k =>
 h se σ H H2 _ x fun q H1 g1 p => by
  have x1 := x.go g1 (x.env.mono g1)
  cases q with
  | false =>
   rw [if_neg alC] at p ⊢
   exact p se σ H1 H2 E x1 n r b k
  | true =>
   rw [if_pos rfl] at p ⊢
   exact p se σ H1 H2 E x1 n r b k
theorem abh (h : PId K (f.withs Ds) wi ρ fun ds => ∃ J : Nat -> zq -> List OC -> Prop, J 0 ρ cs /\
   (∀ (i : Nat) d ρ' cs', ds[i]? = some d -> J i ρ' cs' -> PGd K (f.withs Ds) g d ρ' fun ρ2 => PSm w K f Ds ts ρ2 cs' { O with nx := J (i + 1), ct := J (i + 1), bk := O.nx }) /\ ∀ ρ' cs', J ds.length ρ' cs' -> O.nx ρ' cs') :
  PSm w K f Ds (ah9 wi g ts) ρ cs O := fun se σ H H2 E x n r b k => h σ H _ x.env fun ds J H1 g1 it ⟨Jv, j0, js, jd⟩ => by
 have x1 := x.go g1 (x.env.mono g1)
 refine ⟨fun i m σ' H' => ∃ ρ' cs', CM w K f Ds H2 ρ' cs' σ' H' /\ Same (hide H1 (f.withs Ds)) (hide H' (f.withs Ds)) /\ Jv i ρ' cs' /\ m + i = ds.length, ⟨ds.length, ρ, cs, x1, Same.refl _, j0, rfl⟩, fun i m σ' H' ⟨ρ', cs', x', sm', p, hm⟩ => ?_⟩
 by_cases hi : i < ds.length
 ·obtain ⟨hgo, hy⟩ := it.go (f.withs Ds) H' i _ x'.env.fd sm' (alB hi)
  refine .inr ⟨hgo, fun σ2 H3 => ∃ ρ2 cs2, CM w K f Ds H2 ρ2 cs2 σ2 H3 /\ Same (hide H1 (f.withs Ds)) (hide H3 (f.withs Ds)) /\ Jv (i + 1) ρ2 cs2, fun σ2 H3 ⟨ρ2, cs2, e2, g2, p2⟩ => ⟨m - 1, by omega, ρ2, cs2, e2, g2, p2, by omega⟩, fun v H3 hx => ?_⟩
  obtain ⟨g3, r3⟩ := hy v H3 hx
  have x3 := x'.go g3 (x'.env.mono g3)
  refine js i _ ρ' cs' (alB hi) p σ' H3 v _ x3.env r3 fun ρ2 σ2 H4 g4 e4 p4 => ?_
  have x4 := x3.go g4 e4
  have sm4 := (sm'.trans g3.sm).trans g4.sm
  exact p4 se σ2 H4 H4 _ x4.self (fun ρ5 cs5 σ5 H5 x5 p5 => ⟨ρ5, cs5, x4.trans x5, sm4.trans x5.sm, p5⟩) (fun d v ρ5 cs5 σ5 H5 x5 r5 p5 => r d v ρ5 cs5 σ5 H5 (x4.trans x5) r5 p5) (fun ρ5 cs5 σ5 H5 x5 p5 => n ρ5 cs5 σ5 H5 (x4.trans x5) p5) (fun ρ5 cs5 σ5 H5 x5 p5 => ⟨ρ5, cs5, x4.trans x5, sm4.trans x5.sm, p5⟩)
 ·have ei : i = ds.length := by omega
  subst ei
  exact .inl ⟨it.st (f.withs Ds) H' x'.env.fd sm', n ρ' cs' σ' H' x' (jd ρ' cs' p)⟩
theorem aiC {tb : TS} (J : zq -> List OC -> Prop) (μ : zq -> List OC -> Nat) (h0 : J ρ cs)
  (hs : ∀ ρ' cs', J ρ' cs' -> PTm w K f Ds tt ρ' cs' fun b => if b = true then PSm w K f Ds tb ρ' cs' { O with nx := fun r c => J r c /\ μ r c < μ ρ' cs', ct := fun r c => J r c /\ μ r c < μ ρ' cs', bk := O.nx } else O.nx ρ' cs') : PSm w K f Ds (adE tt tb) ρ cs O := fun se σ H H2 E x n r b k => by
 refine ⟨fun m σ' H' => ∃ ρ' cs', CM w K f Ds H2 ρ' cs' σ' H' /\ J ρ' cs' /\ m = μ ρ' cs', ⟨_, ρ, cs, x, h0, rfl⟩, ?_⟩
 rintro m σ1 H1 ⟨ρ1, cs1, x1, j1, rfl⟩
 refine hs ρ1 cs1 j1 se σ1 H1 H2 _ x1 fun t H3 g3 p => ?_
 have x3 := x1.go g3 (x1.env.mono g3)
 cases t with
 | true =>
  rw [if_pos rfl] at p ⊢
  refine ⟨fun σ' H' => ∃ ρ' cs', CM w K f Ds H2 ρ' cs' σ' H' /\ J ρ' cs' /\ μ ρ' cs' < μ ρ1 cs1, fun σ' H' ⟨ρ', cs', x', j', l'⟩ => ⟨_, l', ρ', cs', x', j', rfl⟩, ?_⟩
  exact p se σ1 H3 H2 _ x3 (fun ρ5 cs5 σ5 H5 x5 p5 => ⟨ρ5, cs5, x5, p5⟩) r (fun ρ5 cs5 σ5 H5 x5 p5 => n ρ5 cs5 σ5 H5 x5 p5) (fun ρ5 cs5 σ5 H5 x5 p5 => ⟨ρ5, cs5, x5, p5⟩)
 | false =>
  rw [if_neg alC] at p ⊢
  exact n ρ1 cs1 σ1 H3 x3 p
theorem vc {σ : St} {H H2 : Hp} {D : Addr} (hi : ρ[i]? = some (some (.own (f.M.length + j)))) (x : CM w K f Ds H2 ρ cs σ H) (hD : Ds[j]? = some D) : σ[i]? = some (some (.ref D)) := by
 obtain ⟨v, h1, p, h2, rfl⟩ := x.env.get i _ hi
 have e : (f.withs Ds).M.reverse[f.M.length + j]? = some D := by
  show (Ds.reverse ++ f.M).reverse[f.M.length + j]? = some D
  rw [anD, apk, alU (by simp)]
  simpa using hD
 rw [e] at h2
 cases h2
 exact h1
theorem ac2 {es : List PyData} (hi : ρ[i]? = some (some (.own (f.M.length + j)))) (hc : cs[j]? = some (.lst es)) (hl : es.length < 1000) (h : PEm w K f Ds te ρ cs fun d => O.nx ρ (cs.set j (.lst (es ++ [d])))) : PSm w K f Ds (aem (tBM K "list" aet (yg i) (yc te jX))) ρ cs O := fun se σ H H2 E x n r b k => by
 have hj : j < Ds.length := by rw [<- x.len]; exact (alG.mp hc).1
 have hD : Ds[j]? = some Ds[j] := alB hj
 obtain ⟨vs0, h0, _⟩ := x.own j _ _ hD hc
 refine ⟨_, vc hi x hD, Or.inl ⟨rfl, vs0, .of h0⟩, ?_⟩
 refine h se σ H H2 _ x fun d v H1 g1 r1 p1 => ?_
 have x1 := x.go g1 (x.env.mono g1)
 obtain ⟨vs, h1, h2⟩ := x1.own j _ _ hD hc
 refine ⟨_, vs, v, rfl, rfl, h1, yl (by rw [h2.length]; omega), n _ _ _ _ (x1.put se hD (o := .lst (vs ++ [v])) (c' := .lst (es ++ [d])) ⟨vs ++ [v], zE, h2.snoc r1⟩) p1⟩
theorem CM.more {σ : St} {H H1 H2 : Hp} {D : Addr} {c : OC} (x : CM w K f Ds H2 ρ cs σ H) (g : Goes (f.withs Ds) H H1) (hn : H D = none) (ho : OwnAt w K (hide H1 ((f.withs Ds).with D)) H1 D c) (hi : i < ρ.length) :
  CM w K f (Ds ++ [D]) H1 (ρ.set i (some (.own (f.M.length + Ds.length)))) (cs ++ [c]) (σ.set i (some (.ref D))) H1 := by
 have nD : ¬ ((f.withs Ds).f = some D \/ D ∈ (f.withs Ds).M) := fresh_ne x.env.fd hn
 have sm0 : Same (hide H (f.withs Ds)) (hide H1 (f.withs (Ds ++ [D]))) := fun b o hb => by
  have hb1 := g.sm b o hb
  rw [yj]
  refine zC (fun z => ?_) (zM hb1).2
  rcases z with z | z
  ·exact (zM hb1).1 (.inl z)
  ·rcases alO.mp z with rfl | z
   ·have := (zM hb).2
    rw [hn] at this
    cases this
   ·exact (zM hb1).1 (.inr z)
 have hD1 : ∃ o, H1 D = some o := by
  cases c with
  | lst es => exact ⟨_, ho.choose_spec.1⟩
  | set ks => exact ⟨_, ho.choose_spec.1⟩
  | dic kvs => exact ⟨_, ho.choose_spec.1⟩
 have fo1 : FOk (f.withs (Ds ++ [D])) H1 := by
  rw [yj]
  refine ⟨g.ok.fd, fun b hb => ?_, fun q eq hq => ?_⟩
  ·rcases alO.mp hb with rfl | hb
   ·exact hD1
   ·exact g.ok.mm b hb
  ·rcases alO.mp hq with rfl | hq
   ·exact nD (.inl eq)
   ·exact g.ok.nm q eq hq
 have rev : (f.withs (Ds ++ [D])).M.reverse = (f.withs Ds).M.reverse ++ [D] := by
  rw [yj]
  show (D :: (f.withs Ds).M).reverse = _
  rw [aoN]
 have lenr : (f.withs Ds).M.reverse.length = f.M.length + Ds.length := by
  show (Ds.reverse ++ f.M).reverse.length = _
  simp
 have e1 : EnvOk K (f.withs (Ds ++ [D])) ρ σ H1 := ⟨x.env.len, fun q y hy => by
  obtain ⟨v, a1, a2⟩ := x.env.get q y hy
  refine ⟨v, a1, ?_⟩
  cases y with
  | dat d => exact Rep.mono sm0 d v a2
  | feed => exact a2
  | exc C =>
   obtain ⟨b, h3, h4⟩ := a2
   exact ⟨b, h3, sm0 _ _ h4⟩
  | mon φ => exact fun H' s => a2 H' (sm0.trans s)
  | own k =>
   obtain ⟨b, h3, h4⟩ := a2
   refine ⟨b, ?_, h4⟩
   rw [rev, alP (alG.mp h3).1]
   exact h3, fo1⟩
 have rv : RepV K (f.withs (Ds ++ [D])) H1 (.own (f.M.length + Ds.length)) (.ref D) := ⟨D, by
  rw [rev, alU (by omega), lenr, anA]
  rfl, rfl⟩
 refine ⟨e1.set i rv, Same.refl _, fun _ _ => rfl, by simp [x.len], fun q D' c' h1 h2 => ?_⟩
 by_cases hq : q < Ds.length
 ·rw [alP hq] at h1
  rw [alP (by rw [x.len]; exact hq)] at h2
  exact (x.own q D' c' h1 h2).mono (g.kp D' (y8 (alN h1))) sm0
 ·by_cases hq2 : q = Ds.length
  ·subst hq2
   rw [alU (alI _), anA] at h1
   rw [alU (by rw [x.len]; exact alI _), x.len, anA] at h2
   cases h1
   cases h2
   rw [yj]
   exact ho
  ·rw [al5 (by simp; omega)] at h1
   cases h1
theorem Sep.more {H : Hp} {D : Addr} (se : Sep f Ds) (fo : FOk (f.withs Ds) H) (hn : H D = none) : Sep f (Ds ++ [D]) := by
 have nD := fresh_ne fo hn
 refine ⟨anq.mpr ⟨se.nd, by simp, fun a ha b hb => ?_⟩, fun D' h => ?_, fun D' h => ?_⟩
 ·rw [al7.mp hb]
  intro z
  exact nD (.inr (y8 (z ▸ ha)))
 ·rcases amh.mp h with h | h
  ·exact se.nf D' h
  ·rw [al7.mp h]; exact fun z => nD (.inl z)
 ·rcases amh.mp h with h | h
  ·exact se.nm D' h
  ·rw [al7.mp h]; exact fun z => nD (.inr (alX _ z))
theorem CM.less {σ σ' : St} {H H1 H2 H' : Hp} {D : Addr} {ρ' : zq} {cs' : List OC} (x : CM w K f Ds H2 ρ cs σ H) (g : Goes (f.withs Ds) H H1) (hn : H D = none) (y : CM w K f (Ds ++ [D]) H1 ρ' cs' σ' H') :
  CM w K f Ds H2 (ρ'.map (v5 (f.M.length + Ds.length))) (cs'.take Ds.length) σ' H' := by
 have sub : Same (hide H' (f.withs (Ds ++ [D]))) (hide H' (f.withs Ds)) := by rw [yj]; exact ql
 have sm1 : Same (hide H (f.withs Ds)) (hide H1 (f.withs (Ds ++ [D]))) := fun b o hb => by
  have hb1 := g.sm b o hb
  rw [yj]
  refine zC (fun z => ?_) (zM hb1).2
  rcases z with z | z
  ·exact (zM hb1).1 (.inl z)
  ·rcases alO.mp z with rfl | z
   ·have := (zM hb).2
    rw [hn] at this
    cases this
   ·exact (zM hb1).1 (.inr z)
 have lenr : (f.withs Ds).M.reverse.length = f.M.length + Ds.length := by
  show (Ds.reverse ++ f.M).reverse.length = _
  simp
 have rev : (f.withs (Ds ++ [D])).M.reverse = (f.withs Ds).M.reverse ++ [D] := by
  rw [yj]
  show (D :: (f.withs Ds).M).reverse = _
  rw [aoN]
 have fo : FOk (f.withs Ds) H' := by
  have h := y.env.fd
  rw [yj] at h
  exact ⟨h.fd, fun b hb => h.mm b (alH _ hb), fun p e hp => h.nm p e (alH _ hp)⟩
 refine ⟨⟨by rw [alD]; exact y.env.len, fun q z hz => ?_, fo⟩, (x.sm.trans sm1).trans (y.sm.trans sub), fun b hb => (y.kp b hb).trans ((g.kp b (alX _ hb)).trans (x.kp b hb)), ?_, fun q D' c' h1 h2 => ?_⟩
 ·rw [alJ] at hz
  cases e : ρ'[q]? with
  | none => rw [e] at hz; cases hz
  | some z0 =>
   rw [e] at hz
   cases z0 with
   | none => cases hz
   | some z0 =>
    obtain ⟨v, a1, a2⟩ := y.env.get q z0 e
    cases z0 with
    | dat d =>
     cases hz
     exact ⟨v, a1, Rep.mono sub d v a2⟩
    | feed =>
     cases hz
     rw [yj] at a2
     exact ⟨v, a1, a2⟩
    | exc C =>
     cases hz
     obtain ⟨b, h3, h4⟩ := a2
     exact ⟨v, a1, b, h3, sub _ _ h4⟩
    | mon φ =>
     cases hz
     exact ⟨v, a1, fun H' s => a2 H' (sub.trans s)⟩
    | own k =>
     have hz' : (if k < f.M.length + Ds.length then some (DV.own k) else none) = some z := Option.some.inj hz
     by_cases hk : k < f.M.length + Ds.length
     ·rw [if_pos hk] at hz'
      cases hz'
      obtain ⟨b, h3, h4⟩ := a2
      refine ⟨v, a1, b, ?_, h4⟩
      rw [rev, alP (by omega)] at h3
      exact h3
     ·rw [if_neg hk] at hz'
      cases hz'
 ·rw [amk, y.len]
  simp
 ·have hq : q < Ds.length := (alG.mp h1).1
  rw [anI hq] at h2
  exact (y.own q D' c' (by rw [alP hq]; exact h1) h2).mono rfl sub
theorem ac3 (h : ahj w K (f.withs Ds) te ρ fun c => i < ρ.length /\ ∀ D, PSm w K f (Ds ++ [D]) ts (ρ.set i (some (.own (f.M.length + Ds.length)))) (cs ++ [c]) { nx := fun ρ' cs' => O.nx (ρ'.map (v5 (f.M.length + Ds.length))) (cs'.take Ds.length), rt := O.rt, bk := fun ρ' cs' => O.bk (ρ'.map (v5 (f.M.length + Ds.length))) (cs'.take Ds.length), ct := fun ρ' cs' => O.ct (ρ'.map (v5 (f.M.length + Ds.length))) (cs'.take Ds.length) }) :
  PSm w K f Ds (vT (qx te (yP i)) ts) ρ cs O := fun se σ H H2 E x n r b k =>
 h σ H _ x.env fun c D H1 g1 hn ho ⟨hi, p⟩ =>
  p D (se.more x.env.fd hn) _ H1 H1 E (x.more g1 hn ho hi) (fun ρ' cs' σ' H' y q => n _ _ σ' H' (x.less g1 hn y) q) (fun d v ρ' cs' σ' H' y r' q => r d v _ _ σ' H' (x.less g1 hn y) r' q) (fun ρ' cs' σ' H' y q => b _ _ σ' H' (x.less g1 hn y) q) (fun ρ' cs' σ' H' y q => k _ _ σ' H' (x.less g1 hn y) q)
theorem vd {P : OC -> Prop} (h : PEdO K f te ρ fun es => P (.lst es)) : ahj w K f te ρ P := fun σ H Q e q => h σ H Q e fun es D vs H' g hn h1 rs p => q (.lst es) D H' g hn ⟨vs, h1, rs⟩ p
def freed (n : Nat) (cs : List OC) : Option DV -> Option DV
 | some (.own k) => if k < n then some (.own k) else match cs[k - n]? with
  | some (.lst es) => some (.dat (.list es))
  | _ => none
 | x => x
theorem CM.free {σ : St} {H H2 : Hp} (se : Sep f Ds) (x : CM w K f Ds H2 ρ cs σ H) : EnvOk K f (ρ.map (freed f.M.length cs)) σ H := by
 have fo : FOk f H := ⟨x.env.fd.fd, fun b hb => x.env.fd.mm b (alX _ hb), fun p e hp => x.env.fd.nm p e (alX _ hp)⟩
 refine ⟨by rw [alD]; exact x.env.len, fun q z hz => ?_, fo⟩
 rw [alJ] at hz
 cases e : ρ[q]? with
 | none => rw [e] at hz; cases hz
 | some z0 =>
  rw [e] at hz
  cases z0 with
  | none => cases hz
  | some z0 =>
   obtain ⟨v, a1, a2⟩ := x.env.get q z0 e
   cases z0 with
   | dat d =>
    cases hz
    exact ⟨v, a1, Rep.mono same_withs d v a2⟩
   | feed =>
    cases hz
    exact ⟨v, a1, a2⟩
   | exc C =>
    cases hz
    obtain ⟨b, h3, h4⟩ := a2
    exact ⟨v, a1, b, h3, same_withs _ _ h4⟩
   | mon φ =>
    cases hz
    exact ⟨v, a1, fun H' s => a2 H' (same_withs.trans s)⟩
   | own k =>
    obtain ⟨b, h3, h4⟩ := a2
    have h3' : (Ds.reverse ++ f.M).reverse[k]? = some b := h3
    rw [anD, apk] at h3'
    have hz' : (if k < f.M.length then some (DV.own k) else match cs[k - f.M.length]? with | some (.lst es) => some (.dat (.list es)) | _ => none) = some z := Option.some.inj hz
    by_cases hk : k < f.M.length
    ·rw [if_pos hk] at hz'
     cases hz'
     rw [alP (by simpa using hk)] at h3'
     exact ⟨v, a1, b, h3', h4⟩
    ·rw [if_neg hk] at hz'
     rw [alU (by simpa using Nat.not_lt.mp hk), apu] at h3'
     cases ec : cs[k - f.M.length]? with
     | none => rw [ec] at hz'; cases hz'
     | some c =>
      rw [ec] at hz'
      cases c with
      | lst es =>
       cases hz'
       obtain ⟨vs, h5, h6⟩ := x.own _ _ _ h3' ec
       have hb := alN h3'
       exact ⟨v, a1, rep_list.mpr ⟨b, vs, h4, .of (zC (fun z => z.elim (se.nf b hb) (se.nm b hb)) h5), Reps.mono same_withs es vs h6⟩⟩
      | set ks => cases hz'
      | dic kvs => cases hz'
theorem CM.goF {σ : St} {H H2 H' : Hp} (se : Sep f Ds) (x : CM w K f Ds H2 ρ cs σ H) (g : Goes f H H') : CM w K f Ds H2 ρ cs σ H' := by
 have keep : ∀ b ∈ Ds, H' b = H b := fun b hb => by
  obtain ⟨o, ho⟩ := x.env.fd.mm b (y8 hb)
  rw [ho]
  exact (zM (g.sm b o (zC (fun z => z.elim (se.nf b hb) (se.nm b hb)) ho))).2
 have g2 : Goes (f.withs Ds) H H' := ⟨fun b o hb => by
   have hb' := zM hb
   have := zM (g.sm b o (same_withs b o hb))
   exact zC hb'.1 this.2, ⟨g.ok.fd, fun b hb => by
   rcases amh.mp hb with hb | hb
   ·obtain ⟨o, ho⟩ := x.env.fd.mm b (amt _ hb)
    exact ⟨o, by rw [keep b (am1.mp hb)]; exact ho⟩
   ·exact g.ok.mm b hb, x.env.fd.nm⟩, fun b hb => by
   rcases amh.mp hb with hb | hb
   ·exact keep b (am1.mp hb)
   ·exact g.kp b hb⟩
 exact x.go g2 (x.env.mono g2)
theorem abY (h : PSd K f ts (ρ.map (freed f.M.length cs)) { nx := fun _ => False, rt := O.rt }) : PSm w K f Ds ts ρ cs O := fun se σ H H2 E x n r b k =>
 h σ H E (x.free se) (fun _ _ _ _ _ z => z.elim) (fun d v H' g' r' p => r d v ρ cs σ H' (x.goF se g') r' p) (fun _ _ _ _ _ z => z.elim) (fun _ _ _ _ _ z => z.elim)
end
def afV (w : World) (K : alE) (f : Fx) (Ds : List Addr) (ts : TS) (ρ : zq) (cs : List OC) (R : List PyData -> Prop) : Prop := Sep f Ds -> ∀ (σ : St) (H H2 : Hp) (E : Ends), CM w K f Ds H2 ρ cs σ H ->
 (∀ es D vs ρ' cs' σ' H0 H', CM w K f Ds H2 ρ' cs' σ' H0 -> Goes f H0 H' -> H0 D = none -> H' D = some (.lst vs) -> Reps K (hide H' (f.with D)) es vs -> R es -> E.rt (.ref D) H') -> ts E σ H
section
variable {w : World} {K : alE} {f : Fx} {Ds : List Addr} {ρ : zq} {cs : List OC} {ts tu : TS} {te : TE} {R : List PyData -> Prop} {i : Nat}
theorem aiD (h : afV w K f [] ts ρ [] R) : PSn K f ts ρ R := fun σ H E e q => by
 refine h ⟨anv, (fun _ z => nomatch z), (fun _ z => nomatch z)⟩ σ H H E ⟨e, Same.refl _, fun _ _ => rfl, rfl, (fun i D c z => nomatch z)⟩ fun es D vs ρ' cs' σ' H0 H' x g hn h1 rs p => ?_
 have g0 : Goes f H H0 := ⟨x.sm, x.env.fd, x.kp⟩
 exact q es D vs H' (g0.trans g) (g0.free e.fd hn) h1 rs p
theorem akp (h : PSm w K f Ds ts ρ cs { nx := fun ρ' cs' => afV w K f Ds tu ρ' cs' R, rt := fun _ => False }) : afV w K f Ds (vT ts tu) ρ cs R := fun se σ H H2 E x q =>
 h se σ H H2 _ x (fun ρ' cs' σ' H' x' p => p se σ' H' H2 E x' q) (fun _ _ _ _ _ _ _ _ z => z.elim) (fun _ _ _ _ _ z => z.elim) (fun _ _ _ _ _ z => z.elim)
theorem ahk (h : ahj w K (f.withs Ds) te ρ fun c => i < ρ.length /\ ∀ D, afV w K f (Ds ++ [D]) ts (ρ.set i (some (.own (f.M.length + Ds.length)))) (cs ++ [c]) R) :
  afV w K f Ds (vT (qx te (yP i)) ts) ρ cs R := fun se σ H H2 E x q =>
 h σ H _ x.env fun c D H1 g1 hn ho ⟨hi, p⟩ =>
  p D (se.more x.env.fd hn) _ H1 H1 E (x.more g1 hn ho hi) fun es D' vs ρ' cs' σ' H0 H' y g hn' h1 rs pr => q es D' vs _ _ σ' H0 H' (x.less g1 hn y) g hn' h1 rs pr
theorem aiE (h : PSn K f ts (ρ.map (freed f.M.length cs)) R) : afV w K f Ds ts ρ cs R := fun se σ H H2 E x q =>
 h σ H E (x.free se) fun es D vs H' g hn h1 rs p => q es D vs ρ cs σ H H' x g hn h1 rs p
end
theorem SetO.ok {P : Program} {w : World} {H : Hp} {h : Heap} {a : Addr} {xs : List (PyData × Addr)} {o : Obj} {es : Array (Int × Value)} {ep : Nat} {t : SetTable} (S : SetObj w h a xs o es ep t) : ObjOk P w H h a (SetO w a xs) :=
 ⟨⟨o, es, ep, t, S⟩, ⟨o, S.ob⟩, fun h1 h2 ⟨o, es, ep, t, S⟩ k => ⟨o, es, ep, t, ⟨k o S.ob, S.ex, S.da, S.el, S.ok⟩⟩⟩
theorem afW (led : Bool) : ST.TOk (SetTable.fresh 0 0 led) [] where
 mask := .inl rfl
 dum := rfl
 rise := fun i j _ hj => absurd hj (amU _)
 le := fun i hi => absurd hi (amU _)
 size := rfl
 most := ama _
 reach := fun i hi => absurd hi (amU _)
 room := by show 0 * 5 < 7 * 3; decide
def abZ (w : World) : List V -> Hp -> VK -> Prop := fun xs H Q => xs = [] /\ ∀ a, H a = none -> Q (.ref a) (upd H a (SetO w a []))
theorem ac4 {X : Cx} : yf X (.type "set") (abZ X.w) := by
 intro pins s σ H xs us Q I r h
 obtain ⟨rfl, q⟩ := h
 cases r
 refine call_set_0 fun led => ?_
 refine ⟨.ref s.heap.objs.size, _, I.laid (t' := s.toks) (fun b u e => alQ _ e) (alI _) (SetO.ok (xs := []) (o := { cls := .type "set", dict := none, data := .set #[] 0 (.fresh 0 0 led) }) (es := #[]) (ep := 0) (t := .fresh 0 0 led) ⟨amj _ rfl, ⟨rfl, rfl, rfl⟩, rfl, rfl, afW led⟩), rfl, q _ (I.hok.fresh (alI _))⟩
def afX (d : PyData) : Prop := vb d /\ ∃ xs, d = .tuple xs
theorem aaa {K : alE} {H : Hp} {d : PyData} {v : V} (k : afX d) (r : Rep K H d v) : ∃ b, v = .ref b := by
 obtain ⟨_, xs, rfl⟩ := k
 obtain ⟨a, _, e, _⟩ := rep_tuple.mp r
 exact ⟨a, e⟩
theorem qM {X : Cx} {pins : List (Addr × Obj)} {σ : St} {H : Hp} {s : Shared} {d : PyData} {b : Addr} (I : Inv X pins σ H s) (k : vb d) (r : Rep X.K H d (.ref b)) : KeyAt s.heap d b := by
 obtain ⟨as, ra⟩ := yH I d (.ref b) (.ref b) r rfl
 exact ⟨⟨as, ra⟩, k.1, k.2⟩
def akq (w : World) (K : alE) (neg : Bool) : R2 := fun x y H Q => ∃ a b d xs, x = .ref b /\ y = .ref a /\ H a = some (SetO w a xs) /\ (∀ z ∈ xs, vb z.1 /\ Rep K H z.1 (.ref z.2)) /\ vb d /\ Rep K H d (.ref b) /\ Q (.bl (if neg then !decide (d ∈ xs.map (·.1)) else decide (d ∈ xs.map (·.1)))) H
theorem aiF {X : Cx} (hu : X.A.units + 64 < cLine) {pins : List (Addr × Obj)} {s : Shared} {σ : St} {H : Hp} {a b : Addr} {d : PyData} {xs : List (PyData × Addr)} (I : Inv X pins σ H s) (hS : H a = some (SetO X.w a xs)) (ks : ∀ z ∈ xs, vb z.1 /\ Rep X.K H z.1 (.ref z.2)) (kd : vb d) (rd : Rep X.K H d (.ref b)) {Q : Bool -> Shared -> Prop} {E : Value -> Shared -> Prop}
  (q : Q (decide (d ∈ xs.map (·.1))) { s with toks := s.toks + zS d }) : wpAny (model X.prog X.w) X.A (contains (.ref a) (.ref b)) Q E s := by
 obtain ⟨⟨o, es, ep, t, S⟩, _⟩ := I.hok a _ hS
 exact ac0 S (fun x hx => qM I (ks x hx).1 (ks x hx).2) (qM I kd rd) (by omega) q
theorem afY {X : Cx} (hu : X.A.units + 64 < cLine) : OpR X (compareOp .NotIn) (akq X.w X.K true) := by
 intro pins s σ H x y v u Q I rx ry h
 obtain ⟨a, b, d, xs, rfl, rfl, hS, ks, kd, rd, q⟩ := h
 cases rx
 cases ry
 show wpAny _ _ (do return Value.bool (!(<- contains (.ref a) (.ref b)))) _ _ s
 apply wpAny_bind
 exact aiF hu I hS ks kd rd (wpAny_pure ⟨.bl _, H, I.tok _, rfl, q⟩)
theorem adX {X : Cx} {K : alE} {w : World} (hw : X.w = w) (hK : X.K = K) (hu : X.A.units + 64 < cLine) : OpR X (compareOp .NotIn) (akq w K true) := hw ▸ hK ▸ afY hu
def ahl (w : World) (K : alE) : V -> List V -> Hp -> VK -> Prop := fun x ys H Q => ∃ a b d xs, x = .ref a /\ ys = [.ref b] /\ H a = some (SetO w a xs) /\ (∀ z ∈ xs, vb z.1 /\ Rep K H z.1 (.ref z.2)) /\ vb d /\ Rep K H d (.ref b) /\ xs.length < 300 /\
 (d ∈ xs.map (·.1) -> Q .non H) /\ (d ∉ xs.map (·.1) -> ∀ xs', xs'.Perm ((d, b) :: xs) -> Q .non (upd H a (SetO w a xs')))
theorem aiG {X : Cx} (hu : X.A.units + 64 < cLine) : MtR X "set.add" (ahl X.w X.K) := by
 intro pins s σ H x ys v us Q I rx ry h
 obtain ⟨a, b, d, xs, rfl, rfl, hS, ks, kd, rd, few, q1, q2⟩ := h
 obtain ⟨u, rfl, ru⟩ := vals1 ry
 cases rx
 cases ru
 obtain ⟨⟨o, es, ep, t, S⟩, _⟩ := I.hok a _ hS
 refine ako S (fun x hx => qM I (ks x hx).1 (ks x hx).2) (qM I kd rd) (by omega) few (fun hd => ⟨.non, H, I.tok _, rfl, q1 hd⟩) fun hd xs' o' es' ep' t' h' pm sb S' => ?_
 refine ⟨.non, _, I.write (t' := s.toks + zS d) (x := a) (e := a) (by rw [hS]; exact trivial) (.inl rfl) (fun b u nb e => (sb.2 b nb).trans e) ⟨o', S'.ob⟩ (SetO.ok S'), rfl, q2 hd xs' pm⟩
theorem ahm {X : Cx} {K : alE} {w : World} (hw : X.w = w) (hK : X.K = K) (hu : X.A.units + 64 < cLine) : MtR X "set.add" (ahl w K) := hw ▸ hK ▸ aiG hu
theorem ab0 {X : Cx} {w : World} (hw : X.w = w) : yf X (.type "set") (abZ w) := hw ▸ ac4
def ala (w : World) (r : V -> List V -> Hp -> VK -> Prop) (to : TE) (t : TA) : TE := fun σ H Q => to σ H fun x H1 => (∃ a xs, x = .ref a /\ H1 a = some (SetO w a xs)) /\ t σ H1 fun xs H2 => r x xs H2 Q
theorem akr {X : Cx} {w : World} {o e : Expr} {es : List Expr} {to : TE} {t : TA} {name : Str} {apos cpos : Pos} {id : String} {r : V -> List V -> Hp -> VK -> Prop} (hw : X.w = w) (slot : Slot "set" name id) (hty : typeOf (.builtin id) = pure (.type "method_descriptor")) (hm : MtR X id r) (ho : PE X o to) (ha : PA X (e :: es) t)
  (hbase : attributeBase o name X.env (eval o X.env) = eval o X.env := by rfl)
  (hfew : ((backTo cpos (starEach (e :: es) X.env)).all (fun x => !x.1) && (backToKw cpos (keywordEach [] X.env)).all (fun x => x.1.isSome)
   && decide ((e :: es).length + ([] : List Keyword).length + (if ([] : List Keyword).isEmpty then 0 else 1) < 30)) = true := by rfl)
  (hline : (apos.endLine == cpos.line) = true := by rfl) (hs : starEach (e :: es) X.env = (false, eval e X.env) :: starEach es X.env := by rfl) (hplain : (backTo cpos (starEach es X.env)).any (·.1) = false := by rfl) :
  PE X (.Call (.Attribute o name apos) (e :: es) [] cpos) (ala w r to t) := by
 subst hw
 intro pins s σ H Q I h
 refine wpAny_Call_method_late hbase hfew hline rfl (thn (ho pins s σ H _ I h) fun v s1 ⟨x, H1, I1, r1, ty, q1⟩ => ?_)
 obtain ⟨a, xs, rfl, hS⟩ := ty
 cases r1
 obtain ⟨⟨ob, es', ep, t', S⟩, _⟩ := I1.hok a _ hS
 refine ⟨"set", id, PySem.F.plainAttrs_set, slot, hty, ⟨ob, S.ob, S.ex.1⟩, fun b e => ?_, ?_⟩
 ·cases e
  exact ⟨ob, S.ob, S.ex.2.1⟩
 have hA := ha cpos pins s1 σ H1 _ I1 q1
 rw [hs] at hA ⊢
 refine ao1 (by show (false || (backTo cpos (starEach es X.env)).any (·.1)) = false; rw [hplain] <;> rfl) (apf ?_)
 exact thn hA fun us s2 ⟨vs, H2, I2, r2, q2⟩ => hm pins s2 σ H2 (.ref a) vs (.ref a) us Q I2 rfl r2 q2
section
variable {w : World} {K : alE} {f : Fx} {Ds : List Addr} {ρ : zq} {cs : List OC} {te : TE} {O : MEnds} {i j : Nat} {ks : List PyData}
theorem aks {P : OC -> Prop} (p : P (.set [])) : ahj w K f (tCB (abZ w) jX) ρ P := fun σ H Q e q =>
 ⟨rfl, fun a hn => q (.set []) a _ (.of_same (yd hn _) e.fd) hn ⟨[], zE, (fun _ z => nomatch z), (fun d => Iff.rfl), alI 0⟩ p⟩
theorem alb {neg : Bool} {B : Bool -> Prop} (hi : ρ[i]? = some (some (.own (f.M.length + j)))) (hc : cs[j]? = some (.set ks)) (h : PEm w K f Ds te ρ cs fun d => afX d /\ B (if neg then !decide (d ∈ ks) else decide (d ∈ ks))) :
  PTm w K f Ds (aep (tOp (akq w K neg) te (yg i))) ρ cs B := fun se σ H H2 Q x q => by
 have hj : j < Ds.length := by rw [<- x.len]; exact (alG.mp hc).1
 have hD : Ds[j]? = some Ds[j] := alB hj
 refine h se σ H H2 _ x fun d v H1 g1 r1 ⟨kd, p⟩ => ?_
 have x1 := x.go g1 (x.env.mono g1)
 obtain ⟨b, rfl⟩ := aaa kd r1
 obtain ⟨xs, h1, h2, h3, _⟩ := x1.own j _ _ hD hc
 refine ⟨_, vc hi x1 hD, Ds[j], b, d, xs, rfl, rfl, h1, fun z hz => ⟨(h2 z hz).1, Rep.mono (zm _ _) _ _ (h2 z hz).2⟩, kd.1, Rep.mono (zm _ _) _ _ r1, _, rfl, ?_⟩
 have : decide (d ∈ xs.map (·.1)) = decide (d ∈ ks) := decide_eq_decide.mpr (h3 d)
 rw [this]
 exact q _ H1 g1 p
theorem alc (hi : ρ[i]? = some (some (.own (f.M.length + j)))) (hc : cs[j]? = some (.set ks)) (hl : ks.length < 300) (h : PEm w K f Ds te ρ cs fun d => afX d /\ (d ∈ ks -> O.nx ρ cs) /\ (d ∉ ks -> O.nx ρ (cs.set j (.set (d :: ks))))) :
  PSm w K f Ds (aem (ala w (ahl w K) (yg i) (yc te jX))) ρ cs O := fun se σ H H2 E x n r b k => by
 have hj : j < Ds.length := by rw [<- x.len]; exact (alG.mp hc).1
 have hD : Ds[j]? = some Ds[j] := alB hj
 obtain ⟨xs0, h0, _⟩ := x.own j _ _ hD hc
 refine ⟨_, vc hi x hD, ⟨Ds[j], xs0, rfl, h0⟩, ?_⟩
 refine h se σ H H2 _ x fun d v H1 g1 r1 ⟨kd, p1, p2⟩ => ?_
 have x1 := x.go g1 (x.env.mono g1)
 obtain ⟨b, rfl⟩ := aaa kd r1
 obtain ⟨xs, h1, h2, h3, h4⟩ := x1.own j _ _ hD hc
 refine ⟨Ds[j], b, d, xs, rfl, rfl, h1, fun z hz => ⟨(h2 z hz).1, Rep.mono (zm _ _) _ _ (h2 z hz).2⟩, kd.1, Rep.mono (zm _ _) _ _ r1, by omega, fun hd => n _ _ _ _ x1 (p1 ((h3 d).mp hd)), fun hd xs' pm => n _ _ _ _ (x1.put se hD (c' := .set (d :: ks)) ⟨xs', zE, fun z hz => ?_, fun e => ?_, ?_⟩) (p2 fun z => hd ((h3 d).mpr z))⟩
 ·rcases alO.mp (pm.mem_iff.mp hz) with rfl | hz
  ·exact ⟨kd.1, r1⟩
  ·exact h2 z hz
 ·rw [(pm.map (·.1)).mem_iff, al3, alO, alO, h3 e]
 ·rw [pm.length_eq, alV, alV]
  omega
end
theorem DicO.ok {P : Program} {w : World} {H : Hp} {h : Heap} {a : Addr} {xs : List (PyData × Addr × Value)} {o : Obj} {es : Array DictEntry} {ep : Nat} (S : DicObj w h a xs o es ep) : ObjOk P w H h a (DicO w a xs) :=
 ⟨⟨o, es, ep, S⟩, ⟨o, S.ob⟩, fun h1 h2 ⟨o, es, ep, S⟩ k => ⟨o, es, ep, ⟨k o S.ob, S.ex, S.da, S.el, S.nd, S.ns⟩⟩⟩
theorem aiH {X : Cx} {pins : List (Addr × Obj)} {σ : St} {H : Hp} {s : Shared} (I : Inv X pins σ H s) : sysModules < s.heap.objs.size :=
 apy (by decide) (I.ok.mod.glob.keeps I.bk).lt
def aeU (w : World) : TE := fun _ H Q => ∀ p, H p = none -> Q (.ref p) (upd H p (DicO w p []))
theorem afZ {X : Cx} {w : World} {pos : Pos} (hw : X.w = w) : PE X (.Dict [] [] pos) (aeU w) := by
 subst hw
 intro pins s σ H Q I h
 refine wpAny_Dict_empty ⟨.ref s.heap.objs.size, _, I.laid (a := s.heap.objs.size) (t' := s.toks) (fun _ _ q => alQ _ q) (alI _) (DicO.ok (xs := []) (o := { cls := .type "dict", data := .dict #[] }) (es := #[]) (ep := 0) ⟨amj _ rfl, ⟨rfl, rfl, rfl⟩, rfl, rfl, anv, beq_eq_false_iff_ne.mpr (amN (amd (aiH I)))⟩), rfl, h _ (I.hok.fresh (alI _))⟩
abbrev ab1 (K : alE) (H : Hp) (xs : List (PyData × Addr × Value)) : Prop := ∀ z ∈ xs, vb z.1 /\ Rep K H z.1 (.ref z.2.1)
theorem ahn {X : Cx} {pins : List (Addr × Obj)} {σ : St} {H : Hp} {s : Shared} {a : Addr} {xs : List (PyData × Addr × Value)} (I : Inv X pins σ H s) (hS : H a = some (DicO X.w a xs)) (ks : ab1 X.K H xs) : s.heap.DictOfH (v9 X.prog X.w) a xs /\ (a == sysModules) = false := by
 obtain ⟨⟨o, es, ep, S⟩, _⟩ := I.hok a _ hS
 exact ⟨⟨o, es, ep, S.ob, S.ex, S.da, S.el, fun x hx => qM I (ks x hx).1 (ks x hx).2, S.nd⟩, S.ns⟩
def ab2 (w : World) (K : alE) : V -> V -> V -> Hp -> (Hp -> Prop) -> Prop := fun o i v H Q => ∃ a b d xs, o = .ref a /\ i = .ref b /\ H a = some (DicO w a xs) /\ ab1 K H xs /\ vb d /\ Rep K H d (.ref b) /\ xs.length <= 1000 /\ ∀ u, RelV v u -> Q (upd H a (DicO w a (storedH xs d b u)))
theorem aiI {X : Cx} (hu : X.A.units + 64 < cLine) : ah6 X (ab2 X.w X.K) := by
 intro pins s σ H o i v ov iv u Q I ro ri rv h
 obtain ⟨a, b, d, xs, rfl, rfl, hS, ks, kd, rd, hl, q⟩ := h
 cases ro
 cases ri
 obtain ⟨hm, ns⟩ := ahn I hS ks
 have hu1 : X.A.in1.units = X.A.units + 1 := rfl
 refine wpAny_setItem_heap (by show _ + 40 < cLine; omega) (qM I kd rd) hm (fun h' hm' sb => ?_) (amM (yl hl))
 obtain ⟨o', es', ep', x1, x2, x3, x4, x5, x6⟩ := hm'
 exact ⟨_, I.write (t' := s.toks + zS d) (x := a) (e := a) (by rw [hS]; exact trivial) (.inl rfl) (fun b u nb e => (sb.2 b nb).trans e) ⟨o', x1⟩ (DicO.ok ⟨x1, x2, x3, x4, x6, ns⟩), q u rv⟩
theorem ac5 {X : Cx} {K : alE} {w : World} (hw : X.w = w) (hK : X.K = K) (hu : X.A.units + 64 < cLine) : ah6 X (ab2 w K) := hw ▸ hK ▸ aiI hu
def adY (w : World) (K : alE) : R2 := fun x y H Q => ∃ a b d xs p v, x = .ref a /\ y = .ref b /\ H a = some (DicO w a xs) /\ ab1 K H xs /\ vb d /\ Rep K H d (.ref b) /\ atKey xs d = some p /\ RelV v p.2 /\ Q v H
theorem akt {X : Cx} (hu : X.A.units + 64 < cLine) : IxR X (adY X.w X.K) := by
 intro value slice pins s σ H x y v u Q I rx ry h hs
 obtain ⟨a, b, d, xs, p, z, rfl, rfl, hS, ks, kd, rd, hp, rz, q⟩ := h
 cases rx
 cases ry
 obtain ⟨hm, ns⟩ := ahn I hS ks
 have hu1 : X.A.in1.units = X.A.units + 1 := rfl
 refine subscriptTail_builtinR (x := p.2) hm.typeIs aoI.lookup ?_ hs
 exact wpAny_getItem_heap (by show _ + 40 < cLine; omega) (qM I kd rd) hm hp ⟨rfl, z, H, I.tok _, rz, q⟩
theorem aiJ {X : Cx} {K : alE} {w : World} (hw : X.w = w) (hK : X.K = K) (hu : X.A.units + 64 < cLine) : IxR X (adY w K) := hw ▸ hK ▸ akt hu
noncomputable def dput (k v : PyData) (kvs : List (PyData × PyData)) : List (PyData × PyData) := if k ∈ kvs.map (·.1) then kvs.map (fun p => if p.1 = k then (p.1, v) else p) else kvs ++ [(k, v)]
noncomputable def ve (k : PyData) (kvs : List (PyData × PyData)) : Option PyData := (kvs.find? fun p => decide (p.1 = k)).map (·.2)
section
variable {K : alE} {Hh : Hp}
theorem aeV : ∀ {xs : List (PyData × Addr × Value)} {kvs : List (PyData × PyData)}, Paired (EntR K Hh) xs kvs -> xs.length = kvs.length
 | _, _, .nil => rfl
 | _, _, .cons _ t => by rw [alV, alV, aeV t]
theorem qd : ∀ {xs : List (PyData × Addr × Value)} {kvs : List (PyData × PyData)}, Paired (EntR K Hh) xs kvs -> ab1 K Hh xs
 | _, _, .nil => fun z hz => nomatch hz
 | _, _, .cons h t => fun z hz => by
  rcases alO.mp hz with rfl | hz
  ·exact ⟨h.2.1, h.2.2.1⟩
  ·exact qd t z hz
theorem ab3 (k : PyData) : ∀ {xs : List (PyData × Addr × Value)} {kvs : List (PyData × PyData)}, Paired (EntR K Hh) xs kvs -> (atKey xs k = none /\ ve k kvs = none /\ k ∉ kvs.map (·.1)) \/ ∃ p d v, atKey xs k = some p /\ ve k kvs = some d /\ Rep K Hh d v /\ RelV v p.2 /\ k ∈ kvs.map (·.1)
 | _, _, .nil => .inl ⟨rfl, rfl, fun z => nomatch z⟩
 | x :: xs, p :: kvs, .cons ⟨h1, h2, h3, v, h4, h5⟩ t => by
  by_cases e : x.1 = k
  ·refine .inr ⟨x.2, p.2, v, ?_, ?_, h4, h5, ?_⟩
   ·unfold atKey; rw [aop, decide_eq_true e]; rfl
   ·unfold ve; rw [aop, decide_eq_true (h1 ▸ e)]; rfl
   ·rw [al3]; exact alO.mpr (.inl (h1 ▸ e).symm)
  ·have e' : ¬ p.1 = k := fun z => e (h1.trans z)
   have a1 : atKey (x :: xs) k = atKey xs k := by unfold atKey; rw [aop, decide_eq_false e]
   have a2 : ve k (p :: kvs) = ve k kvs := by unfold ve; rw [aop, decide_eq_false e']
   rw [a1, a2, al3]
   rcases ab3 k t with ⟨b1, b2, b3⟩ | ⟨q, d, u, b1, b2, b3, b4, b5⟩
   ·exact .inl ⟨b1, b2, fun z => (alO.mp z).elim (fun z => e' z.symm) b3⟩
   ·exact .inr ⟨q, d, u, b1, b2, b3, b4, alH _ b5⟩
theorem aeW (k : PyData) {d : PyData} {v : V} {u : Value} (rd : Rep K Hh d v) (rv : RelV v u) : ∀ {xs : List (PyData × Addr × Value)} {kvs : List (PyData × PyData)}, Paired (EntR K Hh) xs kvs -> Paired (EntR K Hh) (xs.map (putAt k u)) (kvs.map fun p => if p.1 = k then (p.1, d) else p)
 | _, _, .nil => .nil
 | x :: xs, p :: kvs, .cons ⟨h1, h2, h3, w, h4, h5⟩ t => by
  rw [al3, al3]
  refine .cons ?_ (aeW k rd rv t)
  unfold putAt
  by_cases e : x.1 = k
  ·rw [if_pos e, if_pos (h1 ▸ e)]
   exact ⟨h1, h2, h3, v, rd, rv⟩
  ·rw [if_neg e, if_neg (fun z => e (h1.trans z))]
   exact ⟨h1, h2, h3, w, h4, h5⟩
theorem aeX {x : PyData × Addr × Value} {p : PyData × PyData} (h : EntR K Hh x p) : ∀ {xs : List (PyData × Addr × Value)} {kvs : List (PyData × PyData)}, Paired (EntR K Hh) xs kvs -> Paired (EntR K Hh) (xs ++ [x]) (kvs ++ [p])
 | _, _, .nil => .cons h .nil
 | _, _, .cons h' t => .cons h' (aeX h t)
theorem aiK {k d : PyData} {b : Addr} {v : V} {u : Value} (kk : vb k) (rk : Rep K Hh k (.ref b)) (rd : Rep K Hh d v) (rv : RelV v u) {xs : List (PyData × Addr × Value)} {kvs : List (PyData × PyData)} (t : Paired (EntR K Hh) xs kvs) : Paired (EntR K Hh) (storedH xs k b u) (dput k d kvs) := by
 unfold storedH dput
 rcases ab3 k t with ⟨b1, b2, b3⟩ | ⟨q, d', v', b1, b2, b3, b4, b5⟩
 ·rw [b1, if_neg (by simp), if_neg b3]
  exact aeX ⟨rfl, kk, rk, v, rd, rv⟩ t
 ·rw [b1, if_pos (show (some q).isSome = true from rfl), if_pos b5]
  exact aeW k rd rv t
end
section
variable {w : World} {K : alE} {f : Fx} {Ds : List Addr} {ρ : zq} {cs : List OC} {te tk : TE} {O : MEnds} {i j : Nat} {kvs : List (PyData × PyData)}
theorem aku {P : OC -> Prop} (p : P (.dic [])) : ahj w K f (aeU w) ρ P := fun σ H Q e q =>
 fun a hn => q (.dic []) a _ (.of_same (yd hn _) e.fd) hn ⟨[], zE, .nil⟩ p
theorem ajx (hi : ρ[i]? = some (some (.own (f.M.length + j)))) (hc : cs[j]? = some (.dic kvs)) (hl : kvs.length <= 1000)
  (h : PEd K (f.withs Ds) te ρ fun v => PEd K (f.withs Ds) tk ρ fun k => afX k /\ O.nx ρ (cs.set j (.dic (dput k v kvs)))) :
  PSm w K f Ds (qx te (acs (yg i) tk (ab2 w K))) ρ cs O := fun se σ H H2 E x n r b k => by
 have hj : j < Ds.length := by rw [<- x.len]; exact (alG.mp hc).1
 have hD : Ds[j]? = some Ds[j] := alB hj
 refine h σ H _ x.env fun v vv H1 g1 r1 p1 => ?_
 have x1 := x.go g1 (x.env.mono g1)
 refine ⟨_, vc hi x1 hD, ?_⟩
 refine p1 σ H1 _ x1.env fun kd kv H3 g3 r3 ⟨kt, p3⟩ => ?_
 have x3 := x1.go g3 (x1.env.mono g3)
 obtain ⟨b', rfl⟩ := aaa kt r3
 obtain ⟨xs, h1, h2⟩ := x3.own j _ _ hD hc
 have rv := Rep.mono g3.sm _ _ r1
 refine ⟨Ds[j], b', kd, xs, rfl, rfl, h1, fun z hz => ⟨(qd h2 z hz).1, Rep.mono (zm _ _) _ _ (qd h2 z hz).2⟩, kt.1, Rep.mono (zm _ _) _ _ r3, by rw [aeV h2]; exact hl, fun u ru => ?_⟩
 exact n _ _ _ _ (x3.put se hD (c' := .dic (dput kd v kvs)) ⟨_, zE, aiK kt.1 r3 rv ru h2⟩) p3
theorem ald {P : PyData -> Prop} (hi : ρ[i]? = some (some (.own (f.M.length + j)))) (hc : cs[j]? = some (.dic kvs)) (h : PEm w K f Ds tk ρ cs fun k => afX k /\ ∃ d, ve k kvs = some d /\ P d) : PEm w K f Ds (tOp (adY w K) (yg i) tk) ρ cs P := fun se σ H H2 Q x q => by
 have hj : j < Ds.length := by rw [<- x.len]; exact (alG.mp hc).1
 have hD : Ds[j]? = some Ds[j] := alB hj
 refine ⟨_, vc hi x hD, ?_⟩
 refine h se σ H H2 _ x fun k v H1 g1 r1 ⟨kt, d, hd, p⟩ => ?_
 have x1 := x.go g1 (x.env.mono g1)
 obtain ⟨b, rfl⟩ := aaa kt r1
 obtain ⟨xs, h1, h2⟩ := x1.own j _ _ hD hc
 rcases ab3 k h2 with ⟨b1, b2, b3⟩ | ⟨pp, d', v', b1, b2, b3, b4, b5⟩
 ·rw [b2] at hd; cases hd
 ·rw [b2] at hd
  cases hd
  exact ⟨Ds[j], b, k, xs, pp, v', rfl, rfl, h1, fun z hz => ⟨(qd h2 z hz).1, Rep.mono (zm _ _) _ _ (qd h2 z hz).2⟩, kt.1, Rep.mono (zm _ _) _ _ r1, b1, b4, q _ _ H1 g1 b3 p⟩
theorem ale (h : PEm w K f Ds te ρ cs O.rt) : PSm w K f Ds (afq te) ρ cs O := fun se σ H H2 E x n r b k =>
 h se σ H H2 _ x fun d v H' g' r' p => r d v ρ cs σ H' (x.go g' (x.env.mono g')) (Rep.mono same_withs d v r') p
end
def aiL (K : alE) (ns : List Int) (v : Value) : Bool := match v with
 | .ref t => (match K.lookup t with
  | some o => o.cls == .type "tuple" && (match o.data with
   | .seq its _ => KTD.intsLook its.toList ns && decide (its.size <= 1000)
   | _ => false)
  | none => false)
 | _ => false
def af0 (K : alE) (a : Addr) (D : List (Str × List Int)) : Bool := !(a == sysModules) && (match K.lookup a with
 | some o => o.cls == .type "dict" && o.dict.isNone && o.slots.isEmpty && (match o.data with
  | .dict es _ => KTD.rowsLook (aiL K) es.toList D
  | _ => false)
 | none => false)
theorem abi : ∀ {vs : List Value} {ns : List Int}, IntsAre vs ns -> Vals (ns.map V.int) vs
 | _, _, .nil => .nil
 | _, _, .cons n t h => .cons ⟨t, rfl⟩ (abi h)
theorem akv {K : alE} {ns : List Int} {v : Value} (h : aiL K ns v = true) : ∃ t, v = .ref t /\ ∀ H, SqT K H t (ns.map V.int) := by
 unfold aiL at h
 split at h
 ·rename_i t
  split at h
  ·rename_i o ho
   rw [alM] at h
   obtain ⟨h1, h2⟩ := h
   split at h2
   ·rename_i its n hd
    rw [alM] at h2
    exact ⟨t, rfl, fun H => .inr ⟨o, its, n, ho, beq_iff_eq.mp h1, hd, amM (yl (of_decide_eq_true h2.2)), abi (KTD.ints_of_look h2.1)⟩⟩
   ·cases h2
  ·cases h
 ·cases h
def alf (K : alE) (D : List (Str × List Int)) (tk : TE) : TE := fun σ H Q => tk σ H fun y H1 => ∃ x ns, y = .str x /\ apl x D = some ns /\ ∀ t, (∀ H', SqT K H' t (ns.map V.int)) -> Q (.ref t) H1
theorem aho {X : Cx} {K : alE} {x : Str} {a : Addr} {D : List (Str × List Int)} {key : Expr} {tk : TE} {p pos : Pos} (hK : X.K = K) (hg : Gl X x) (hm : X.mg x = some (.ref a)) (hT : af0 K a D = true) (hk : PE X key tk) (hs : aes key) (hd : (x == ("__debug__" : Str)) = false := by decide) :
  PE X (.Subscript (.Name x p) key pos) (alf K D tk) := by
 subst hK
 intro pins s σ H Q I h
 unfold af0 at hT
 rw [alM] at hT
 obtain ⟨h0, hT⟩ := hT
 split at hT
 case h_2 => cases hT
 case h_1 o ho =>
  simp only [alM] at hT
  obtain ⟨⟨⟨e1, e2⟩, e3⟩, e4⟩ := hT
  split at e4
  case h_2 => cases e4
  case h_1 es ep hdat =>
   have rows : KTD.Rows (fun ns v => aiL X.K ns v = true) es.toList D := KTD.rows_of_look (fun _ _ z => z) e4
   refine Subscript_ (aby I hg hm ?_ hd)
   refine thn (hk pins s σ H _ I h) fun u s1 ⟨y, H1, I1, ry, z, ns, ey, dat, q⟩ => ?_
   subst ey
   obtain ⟨tk', rfl⟩ := ry
   have ho1 : s1.heap.get? a = some o := I1.kIn a o ho
   have hT1 : s1.TypeIs (.ref a) "dict" := ⟨o, ho1, beq_iff_eq.mp e1⟩
   obtain ⟨v, hv, hr⟩ := rows.find_some dat
   obtain ⟨t, rfl, sq⟩ := akv hr
   refine subscriptTail_builtinR (x := .ref t) hT1 aoI.lookup ?_ (hs _ _)
   unfold getItem
   try with_reducible refine wpAny_holding ?_
   apply wpAny_bind; refine wpAny_sequenceKey hT1 (by decide) ?_
   apply wpAny_bind
   refine wpAny_callSpecial?_slot (name := Str.ofString "__getitem__") hT1 slot_dict_getitem (wpAny_call_entry slot_dict_getitem hT1 entry_dict_getitem ?_ (args_dict_getitem _ _))
   show wpAny _ _ (dictGet a (.str z tk') >>= _) _ _ s1
   apply wpAny_bind
   unfold dictGet
   try with_reducible refine wpAny_holding ?_
   apply wpAny_bind; apply wpAny_pyHash_str
   apply wpAny_bind
   refine KTD.kt_dictFind_strs (s := { s1 with toks := s1.toks + 1 }) ho1 hdat (by obtain ⟨l⟩ := es; simpa using rows.exact) ?_
   cases hi : es.findIdx? fun e => e.key.isStr z with
   | none =>
    exfalso
    have hn : es.toList.find? (fun e => e.key.isStr z) = none := by
     rw [List.find?_eq_none]
     intro e he
     have := Array.findIdx?_eq_none_iff.mp hi e (ans.mp he)
     simpa using this
    rw [hn] at hv
    cases hv
   | some i =>
    obtain ⟨hlt, hi1, hi2⟩ := Array.findIdx?_eq_some_iff_getElem.mp hi
    have hval : es[i].val = .ref t := by
     have hf : es.toList.find? (fun e => e.key.isStr z) = some es[i] := by
      rw [List.find?_eq_some_iff_getElem]
      refine ⟨hi1, i, by simpa using hlt, by simp, fun j hj => ?_⟩
      have := hi2 j hj
      simpa using this
     rw [hf] at hv
     exact Option.some.inj hv
    apply wpAny_bind
    refine wpAny_dictEntries (s := { s1 with toks := s1.toks + 1 }) ho1 hdat (wpAny_pure ?_)
    rw [aoH hlt]
    refine wpAny_pure ⟨es[i].val, rfl, wpAny_pure ?_⟩
    rw [hval]
    exact ⟨rfl, .ref t, H1, I1.tok _, rfl, q t sq⟩
section
variable {K : alE} {f : Fx} {ρ : zq} {P : PyData -> Prop} {tk : TE} {D : List (Str × List Int)}
theorem ajy (h : PEd K f tk ρ fun y => ∃ x ns, y = .str x /\ apl x D = some ns /\ P (.tuple (ns.map .int))) : PEd K f (alf K D tk) ρ P := fun σ H Q e q =>
 h σ H _ e fun y v H1 g1 r1 ⟨x, ns, ey, hd, p⟩ => by
  subst ey
  exact ⟨x, ns, rep_str.mp r1, hd, fun t sq => q _ _ H1 g1 (rep_tuple.mpr ⟨t, ns.map V.int, rfl, sq _, Reps.ints' ns⟩) p⟩
end
structure MinAt (h0 : Heap) (its : List Value) (ds : List PyData) (as : List Addr) : Prop where
 ra : ReadsAll h0 its ds as
 pl : ∀ d ∈ ds, zw d = true
 cp : ∀ d ∈ ds, ∀ e ∈ ds, vV d e = true
 dp : ∀ d ∈ ds, d.depth <= 50
section
variable {w : World} {K : alE} {f : Fx} {Ds : List Addr} {ρ : zq} {cs : List OC} {O : MEnds} {tt : TT} {te : TE} {i j n : Nat}
theorem af1 {H H' H2 : Hp} {σ : St} (se : Sep f Ds) (x : CM w K f Ds H2 ρ cs σ H) (g : Goes f H H') : Goes (f.withs Ds) H H' := by
 have kp : ∀ D ∈ Ds, H' D = H D := fun D hD => by
  obtain ⟨o, ho⟩ := x.env.fd.mm D (y8 hD)
  have h1 : hide H f D = some o := zC (fun z => z.elim (se.nf D hD) (se.nm D hD)) ho
  rw [ho, (zM (g.sm D o h1)).2]
 refine ⟨fun b o hb => ?_, ⟨fun p e => ?_, fun b hb => ?_, x.env.fd.nm⟩, fun b hb => ?_⟩
 ·obtain ⟨n1, n2⟩ := zM hb
  have h1 : hide H f b = some o := zC (fun z => n1 (z.elim .inl fun z => .inr (alX _ z))) n2
  exact zC n1 (zM (g.sm b o h1)).2
 ·exact g.2.fd p e
 ·rcases amh.mp hb with h | h
  ·rw [kp b (am1.mp h)]
   exact x.env.fd.mm b hb
  ·exact g.2.mm b h
 ·rcases amh.mp hb with h | h
  ·exact kp b (am1.mp h)
  ·exact g.kp b h
theorem aeY {B : Bool -> Prop} (h : PTd K f tt (ρ.map (freed f.M.length cs)) B) : PTm w K f Ds tt ρ cs B := fun se σ H H2 Q x q =>
 h σ H Q (x.free se) fun b H' g p => q b H' (af1 se x g) p
end
end L2
end
section
namespace L2
open PySem PySem.Spec PyProof.Rows
structure TM (K : alE) (f : Fx) (a : Addr) (as : List Addr) (H2 : Hp) (ρ : zq) (rows : List (List Int)) (σ : St) (H : Hp) : Prop where
 env : EnvOk K (f.withs (a :: as)) ρ σ H
 sm : Same (hide H2 (f.withs (a :: as))) (hide H (f.withs (a :: as)))
 kp : ∀ b ∈ f.M, H b = H2 b
 tab : TabAt H a as rows
end L2
end
section
namespace L2
open PySem PySem.Spec PyProof.Rows
section
variable {K : alE} {f : Fx} {ρ : zq} {ts tu : TS} {O : DEnds} {te : TE} {i : Nat}
theorem ac6 (J : zq -> Prop) (h1 : PSd K f ts ρ { O with nx := J }) (h2 : ∀ ρ', J ρ' -> PSd K f tu ρ' O) : PSd K f (vT ts tu) ρ O :=
 zQ fun σ H E e n r b k => h1 σ H E e (fun ρ' σ' H' g' e' p => n ρ' σ' H' g' e' (h2 ρ' p)) r b k
theorem ajz {w : World} {Ds : List Addr} {cs : List OC} {O : MEnds} (J : zq -> List OC -> Prop) (h1 : PSm w K f Ds ts ρ cs { O with nx := J }) (h2 : ∀ ρ' cs', J ρ' cs' -> PSm w K f Ds tu ρ' cs' O) : PSm w K f Ds (vT ts tu) ρ cs O :=
 jC fun se σ H H2 E x n r b k => h1 se σ H H2 E x (fun ρ' cs' σ' H' x' p => n ρ' cs' σ' H' x' (h2 ρ' cs' p)) r b k
theorem aiM {P : PyData -> Prop} {γ : Type} {n : Nat} {pre : γ -> List DV -> Prop} {post : γ -> PyData -> Prop} {E : XK} {t : TA} (h : PAd K f t ρ fun xs => ∃ c, xs.length = n /\ pre c xs /\ ∀ r, post c r -> P r) : PEd K f (aa2 (spD K n pre post) [] E t) ρ P := fun σ H Q e q =>
 h σ H _ e fun xs vs H1 g1 r1 ⟨c, hl, hp, k⟩ => ⟨f, xs, c, by rw [amq]; exact r1, hl, g1.2, hp, fun r v H' g' r' p' => q r v H' (g1.trans g') r' (k r p')⟩
end
section
variable {K : alE} {f : Fx} {ρ : zq} {wi : TI} {g : TG} {tt : TT} {own : Nat} {fr : List Nat} {tb : Addr -> TB} {P : List PyData -> Prop}
theorem akw {α : Type} {A B : α -> PyData} (p : α -> Bool) (xs : List α) (h : PId K f wi ρ fun ds => ds = xs.map A /\ xs.length <= 1000 /\
   (∀ D x ρ' es, x ∈ xs -> OwnE own (frD fr ρ) ρ' -> es.length < 1000 -> PGd K (f.with D) g (A x) ρ' fun ρ2 => PTd K (f.with D) tt ρ2 fun b => b = p x /\ if b = true then PBd K f D (tb D) ρ2 es fun ρ3 es3 => OwnE own (frD fr ρ) ρ3 /\ es3 = es ++ [B x] else OwnE own (frD fr ρ) ρ2) /\ P ((xs.filter p).map B)) :
  PEdO K f (jz wi own fr g tt tb) ρ P :=
 qb (h.imp fun ds ⟨ed, hl, hs, hp⟩ => by
  subst ed
  refine ⟨fun i ρ' es => OwnE own (frD fr ρ) ρ' /\ es = ((xs.take i).filter p).map B, ⟨⟨anf own none, by simp, rfl⟩, by simp⟩, fun D i d ρ' es hd ⟨ho, he⟩ => ?_, fun ρ' es ⟨_, he⟩ => ?_⟩
  ·rw [alJ] at hd
   cases eq : xs[i]? with
   | none => rw [eq] at hd; cases hd
   | some x =>
    rw [eq] at hd
    cases hd
    have hi : i < xs.length := (alG.mp eq).1
    have tk : xs.take (i + 1) = xs.take i ++ [x] := by rw [amB, eq]; rfl
    have hb : es.length < 1000 := by
     have := amD p (xs.take i)
     rw [amk] at this
     rw [he, alD]
     omega
    intro σ H v Q e r q
    refine hs D x ρ' es (alN eq) ho hb σ H v Q e r fun ρ2 σ2 H2 g2 e2 p2 => q ρ2 σ2 H2 g2 e2 (p2.imp fun b hb2 => ?_)
    obtain ⟨eb, hb2⟩ := hb2
    cases b with
    | false =>
     rw [if_neg alC] at hb2 ⊢
     refine ⟨hb2, ?_⟩
     rw [tk, amG, al6, amv, <- eb, if_neg alC, he]
     simp
    | true =>
     rw [if_pos rfl] at hb2 ⊢
     intro h1 h2 σ3 H3 H4 W c k
     exact hb2 h1 h2 σ3 H3 H4 W c fun ρ5 es5 σ5 H5 c5 ⟨o5, p5⟩ => k ρ5 es5 σ5 H5 c5 ⟨o5, by rw [p5, he, tk, amG, al6, amv, <- eb, if_pos rfl]; rfl⟩
  ·rw [he, alD, amg]
   exact hp)
end
end L2
end
section
namespace L2
open PySem PySem.Spec PyProof.Rows
end L2
end
section
namespace L2
open PySem PySem.Spec PyProof.Rows
end L2
end
section
namespace L2
open PySem PySem.Spec PyProof.Rows
open PySem.SeqAt
open PySem.AutoSeq1 (wpAny_loadPart')
def aly (A : Around) (s : Shared) (y x : Value) (b : Bool) : Prop :=
 ∀ (prog : Program) (w : World) (E : Value -> Shared -> Prop) (Q : Value -> Shared -> Prop), Q (.bool b) s -> wpAny (model prog w) A (richCompare .GtE y x) Q E s
inductive Gex (A : Around) (s : Shared) : List Value -> List Value -> Bool -> Prop where
 | nn : Gex A s [] [] true
 | eq {v w vs ws b} : EqAt A s v w true -> Gex A s vs ws b -> Gex A s (v :: vs) (w :: ws) b
 | ge {v w vs ws b} : EqAt A s v w false -> aly A s v w b -> vs.length = ws.length -> Gex A s (v :: vs) (w :: ws) b
def alz (o : Obj) : Option Value := match o.data with
 | .fields vs => vs[2]?
 | _ => none
local macro_rules | `(tactic| walk_at "kd") => `(tactic| with_reducible first
  | assumption
  | exact kd_pure _
  | exact kd_uns _
  | exact kd_load _
  | exact kd_loadPart _ _
  | exact kd_stack
  | exact kd_alloc _
  | exact kd_reg _
  | apply kd_ite
  | apply kd_bind
  | intro _
  | split)
def Dct (a : Addr) (o : Option Addr) (h : Heap) : Prop := ∃ u, h.get? a = some u /\ alz u = some .none /\ ∀ dx, o = some dx -> u.dict = some dx
def CXf (P : Program) (w : World) : CXT := fun outer H s E e s' => ∃ a C o H', e = .ref a /\ XLie P w outer H s a C H' s' /\ Dct a o s'.heap /\ E C o H'
def ajA (a : Addr) (C : Value) (o : Option Addr) (h : Heap) : Prop := ∃ t, h.get? a = some { cls := C, dict := o, data := .fields #[.ref t, .none, .none, .none, .bool false, .none] }
end L2
end
section
namespace L2
open PySem PySem.Spec PyProof.Rows PySem.Builtin Builtin Builtin.ObjectAttr
def ahp (K : alE) (C f : Addr) (bmB : List Value) (newId : String) : Bool :=
 match K.lookup C with
 | some ⟨c0, _, .cls cd, sl⟩ => c0 == .type "type" && cd.mro.head? == some (.ref C) && cd.hasDel == false && cd.hasDict && PySem.W.tailIn K bmB cd.mro.tail && PySem.W.nsOkIn K cd.ns && ame K cd.ns "__init__" == some (some (.ref f))
   && sl.toList.length == 6 && sl.toList[4]? == some (some (.builtin newId))
 | _ => false
structure XCls (h : Heap) (C f : Addr) (bmB : List Value) (newId : String) : Prop where
 ex : ∃ nm q N bs bm sn sub ab col dd k0 k1 k2 k3 k5 mN, h.get? C = some (excClassObj nm q C N bs bm true sn sub ab col dd k0 k1 k2 k3 k5 newId) /\ h.Ns N mN /\ mN "__init__" = some (.ref f) /\ OwnTail h bmB bm
end L2
end
section
namespace L2
open PySem PySem.Spec PySem.W PyProof.Rows PySem.Calls PySem.Builtin Builtin Builtin.ObjectAttr
abbrev bare (C : Addr) (o : Option Addr) (t : Addr) : Obj := { cls := .ref C, dict := o, data := .fields #[.ref t, .none, .none, .none, .bool false, .none] }
abbrev bmV : List Value := [.type "ValueError", .type "Exception", .type "BaseException", .type "object"]
structure FldC (K : alE) (C f D : Addr) (name : Str) : Prop where
 wi : ahp K C f bmV "ValueError.__new__" = true
 fn : PySem.W.typeIn K (.ref f) = some (.type "function")
 ob : PySem.W.mroIn K C (.type "object") = some true
 sa : ane K (.ref C) "__setattr__" = some (some (.builtin "object.__setattr__"))
 na : ane K (.ref C) name = some none
 rd : PySem.W.readsIn K D (.type "type") = true
 sp : aoL K (.ref D) "__getattribute__" = some (some (.builtin "type.__getattribute__"))
 kp : amz K (.ref C) = true
 fi : PySem.W.findCls K (.ref D) (.type "type") "__init__" = some (.val (.builtin "ValueError.__init__"))
section
variable {X : Cx} {pins : List (Addr × Obj)} {σ : St} {H H' : Hp} {s s' : Shared} {h' : Heap} {a b dx C D f : Addr} {o : HO} {t' : Nat} {name : Str}
def akx (C : Addr) (name : Str) : Sp := fun vs H Q _ => ∃ a y, vs = [.ref a, y] /\ H a = some (.ext (ajA a (.ref C) none)) /\ ∀ dx, H dx = none -> dx ≠ a -> Q .non (upd (upd H dx (.xd [(name, y)])) a (.ext (ajA a (.ref C) (some dx))))
end
end L2
end
section
namespace L2
open PySem PySem.Spec PyProof.Rows
end L2
end
section
namespace L2
open PySem PySem.Spec PySem.W PyProof.Rows PySem.Calls PySem.Builtin Builtin Builtin.ObjectAttr Builtin.Getset_descriptor
abbrev XD := Option (Str × PyData)
structure FnInF (P : Program) (w : World) (K : alE) (mg : Str -> Option Value) (base : Heap) (k : Nat) (x : Str) (ps : List Str) (sp : Sp) : Prop where
 ex : ∃ (f : Addr) (fd : FuncData), FnOk P w K mg base (CXf P w) k f fd ps sp /\ mg x = some (.ref f) /\ amz K (.ref f) = true /\ Binds K fd ps []
structure FCls (K : alE) (mg : Str -> Option Value) (x base : Str) (C : Addr) (name : Str) (st : Stmt) (ps : List Str) : Prop where
 ex : ∃ (f D : Addr) (fd : FuncData), FldC K C f D name /\ mg x = some (.ref C) /\ mg base = some (.ref D) /\ Fun K "__init__" (x ++ ".__init__") st f fd /\ Binds K fd ps []
structure InitOk (P : Program) (w : World) (K : alE) (mg : Str -> Option Value) (base : Heap) (k : Nat) (C : Addr) (name : Str) : Prop where
 ex : ∃ (f D : Addr) (fd : FuncData) (ps : List Str), FldC K C f D name /\ FnOk P w K mg base CX0 k f fd ps (akx C name) /\ Binds K fd ps []
theorem alg {K : alE} {f : Fx} {ρ : zq} {D : DEnds} {tt : TT} {ts tu : TS} (h : PTd K f tt ρ fun _ => True) (h1 : PSd K f ts ρ D) (h2 : PSd K f tu ρ D) : PSd K f (afr tt ts tu) ρ D := aaS fun σ H Q e q => h σ H Q e fun b H' g _ => q b H' g (by cases b <;> simpa)
theorem ajB {K : alE} {f : Fx} {ρ : zq} {D : DEnds} {tt : TT} {ts tu : TS} (p : Prop) [Decidable p] (h : PTd K f tt ρ fun b => b = decide p) (h1 : p -> PSd K f ts ρ D) (h2 : ¬ p -> PSd K f tu ρ D) : PSd K f (afr tt ts tu) ρ D := aaS fun σ H Q e q => h σ H Q e fun b H' g z => q b H' g (by
 subst z
 by_cases hp : p
 ·rw [decide_eq_true hp, if_pos rfl]; exact h1 hp
 ·rw [decide_eq_false hp, if_neg alC]; exact h2 hp)
structure RoomM (k : Nat) (A : Around) : Prop where
 dp : A.depth + 3 * k + 5 < recursionLimit
 un : A.units + 16 * k + 200 < cLine
structure FnOkM (P : Program) (w : World) (K : alE) (mg : Str -> Option Value) (base : Heap) (k : Nat) (f : Addr) (fd : FuncData) (ps : List Str) (sp : Addr -> Sp) : Prop where
 len : ∀ a vs H Q E, sp a vs H Q E -> vs.length = ps.length
 run : ∀ (A : Around) (outer : List Env) (s : Shared) (H : Hp) (args : Args) (us : List Value) (vs : List V) (Q : VK) (a : Addr), A.handled = some (.ref a) -> RoomM k A -> Env0 P w K mg base A outer s H -> BindsTo s fd args (ps.zip us) -> Vals vs us -> sp a vs H Q E0 ->
  codeAny (model P w) A (.call (.ref f) args) (CR CX0 outer P w H s Q E0) s
structure FnInM (P : Program) (w : World) (K : alE) (mg : Str -> Option Value) (base : Heap) (k : Nat) (x : Str) (ps : List Str) (sp : Addr -> Sp) : Prop where
 ex : ∃ (f : Addr) (fd : FuncData), FnOkM P w K mg base k f fd ps sp /\ mg x = some (.ref f) /\ amz K (.ref f) = true /\ Binds K fd ps []
structure TN (K : alE) (f : Fx) (a : Addr) (as : List Addr) (H2 : Hp) (ρ : zq) (R : Option (List (List Int))) (σ : St) (H : Hp) : Prop where
 env : EnvOk K (f.withs (a :: as)) ρ σ H
 sm : Same (hide H2 (f.withs (a :: as))) (hide H (f.withs (a :: as)))
 kp : ∀ b ∈ f.M, H b = H2 b
 tab : ∀ rows, R = some rows -> TabAt H a as rows
end L2
end
section
namespace L2
open PySem PySem.Spec PyProof.Rows
structure GoesW (f : Fx) (As : List Addr) (H2 H' : Hp) : Prop where
 sm : Same (hide H2 (f.withs As)) (hide H' f)
 ok : FOk f H'
 kp : ∀ b ∈ f.M, H' b = H2 b
structure FnAt (P : Program) (w : World) (K : alE) (mg : Str -> Option Value) (base : Heap) (CX : CXT) (k : Nat) (a : Addr) (sp : Sp) : Prop where
 ex : ∃ (fd : FuncData) (ps : List Str), FnOk P w K mg base CX k a fd ps sp /\ amz K (.ref a) = true /\ Binds K fd ps []
end L2
namespace L2
open PySem PySem.Spec PyProof.Rows
end L2
end
section
namespace L2
open PySem PySem.Spec PyProof.Rows
end L2
end
section
namespace L2
open PySem PySem.Spec PyProof.Rows
structure Src (prog : Program) (w : World) (j : Addr) (xs : Array Value) (dep : List Addr) (St : Nat -> Heap -> Prop) : Prop where
 own : j ∈ dep
 keep : ∀ {k : Nat} {h h' : Heap}, St k h -> (∀ c ∈ dep, ∀ o, h.get? c = some o -> h'.get? c = some o) -> St k h'
 there : ∀ {k : Nat} {h : Heap}, St k h -> ∃ o, h.get? j = some o
 item : ∀ {A : Around} {E : Value -> Shared -> Prop} {s : Shared} {k : Nat} {x : Value} {Q : Value -> Shared -> Prop}, St k s.heap -> xs[k]? = some x -> (∀ h', St (k + 1) h' -> ani j s.heap h' -> Q x { s with heap := h' }) -> wpAny (model prog w) A (aoJ (.ref j)) Q E s
 stop : ∀ {A : Around} {E : Value -> Shared -> Prop} {s : Shared} {k : Nat} {Q : Value -> Shared -> Prop}, A.handled = none -> St k s.heap -> xs[k]? = none -> (∀ h' e, Heap.ExtBut j s.heap h' -> (∃ o, h'.get? e = some o /\ o.cls = .type "StopIteration") -> E (.ref e) { s with heap := h' }) -> wpAny (model prog w) A (aoJ (.ref j)) Q E s
section
variable {prog : Program} {w : World} {A : Around} {E : Value -> Shared -> Prop} {s : Shared}
structure Far (z q1 q2 j1 j2 : Addr) (e1 e2 : List Addr) : Prop where
 q1z : q1 ≠ z
 q2z : q2 ≠ z
 q12 : q1 ≠ q2
 j12 : j1 ≠ j2
 q1j1 : q1 ≠ j1
 q1j2 : q1 ≠ j2
 z1 : z ∉ e1
 z2 : z ∉ e2
 o1 : q2 ∉ e1
 o2 : q2 ∉ e2
 d12 : j2 ∉ e1
 d21 : j1 ∉ e2
end
end L2
end
section
namespace L2
open PySem PySem.Spec PyProof.Rows
end L2
end
section
namespace L2
open PySem PySem.Spec PyProof.Rows
end L2
namespace L2
open PySem PySem.Spec PyProof.Rows
section
variable {K : alE} {f : Fx} {ρ : zq} {R : List DV -> Prop} {i j m n : Nat} {d0 d1 d2 d3 : PyData}
theorem ac7 (h0 : ρ[i]? = some (some (.dat d0))) (h : R [.dat d0]) : PAd K f (yc (yg i) jX) ρ R := zy (zl h0 (ya h))
theorem af2 (h0 : ρ[i]? = some (some (.dat d0))) (h1 : ρ[j]? = some (some (.dat d1))) (h : R [.dat d0, .dat d1]) : PAd K f (yc (yg i) (yc (yg j) jX)) ρ R := zy (zl h0 (ac7 h1 h))
theorem aky (h0 : ρ[i]? = some (some (.dat d0))) (h1 : ρ[j]? = some (some (.dat d1))) (h2 : ρ[m]? = some (some (.dat d2))) (h : R [.dat d0, .dat d1, .dat d2]) : PAd K f (yc (yg i) (yc (yg j) (yc (yg m) jX))) ρ R := zy (zl h0 (af2 h1 h2 h))
theorem alh (h0 : ρ[i]? = some (some (.dat d0))) (h1 : ρ[j]? = some (some (.dat d1))) (h2 : ρ[m]? = some (some (.dat d2))) (h3 : ρ[n]? = some (some (.dat d3))) (h : R [.dat d0, .dat d1, .dat d2, .dat d3]) : PAd K f (yc (yg i) (yc (yg j) (yc (yg m) (yc (yg n) jX)))) ρ R := zy (zl h0 (aky h1 h2 h3 h))
end
end L2
namespace L2
open PySem PySem.Spec PyProof.Rows
theorem vf {α β : Type} {F : α -> β} {l : List β} {m : List α} (h : l.Perm (m.map F)) : ∃ m' : List α, m'.Perm m /\ l = m'.map F := by
 generalize e : m.map F = k at h
 induction h generalizing m with
 | nil => exact ⟨m, .refl _, e.symm⟩
 | cons x _ ih =>
  cases m with
  | nil => cases e
  | cons a m =>
   injection e with e1 e2
   obtain ⟨m', p, r⟩ := ih e2
   exact ⟨a :: m', p.cons a, by rw [al3, e1, r]⟩
 | swap x y l =>
  cases m with
  | nil => cases e
  | cons a m =>
   cases m with
   | nil => injection e with _ e; cases e
   | cons b m =>
    injection e with e1 e2
    injection e2 with e2 e3
    exact ⟨b :: a :: m, .swap a b m, by rw [al3, al3, e1, e2, e3]⟩
 | trans _ _ ih1 ih2 =>
  obtain ⟨m', p, r⟩ := ih2 e
  obtain ⟨m'', p', r'⟩ := ih1 r.symm
  exact ⟨m'', p'.trans p, r'⟩
abbrev FD (K : alE) (x : Str) (st : Stmt) (f : Addr) (od an : Option Addr) (sl : Array (Option Value)) (oc kV dc pm cd ct : Value) : Prop := ame K mainGlobals x = some (some (.ref f)) /\ K.lookup f = some ⟨oc, od, .func (am8 x x (jH st) (yG st) (zk st) .none kV dc pm an cd ct), sl⟩ /\ aox K cd x = true /\ amz K (.ref f) = true
theorem ye {K : alE} {h : Heap} {mg : Str -> Option Value} {x : Str} {st : Stmt} {f : Addr} {od an : Option Addr} {sl : Array (Option Value)} {oc kV dc pm cd ct : Value} (X : K.In h) (G : h.Ns mainGlobals mg) (a : FD K x st f od an sl oc kV dc pm cd ct) {ps : List Str}
  (hb : ∀ (kV doc pm : Value) (an : Option Addr) (cdv ct : Value) (us : List Value), us.length = ps.length -> bindArgs (am8 x x (jH st) (yG st) (zk st) .none kV doc pm an cdv ct) ⟨us, []⟩ = pure (ps.zip us)) : Def K mg x st ps :=
 ⟨f, _, adK a.2.1 a.2.2.1 a.2.2.2, (adK (st := st) a.2.1 a.2.2.1 a.2.2.2).binds hb, am0 X G a.1⟩
end L2
namespace L2
open PySem PySem.Spec PyProof.Rows
section
variable {w : World} {K : alE} {f : Fx} {Ds : List Addr} {ρ : zq} {cs : List OC} {O : MEnds} {i : Nat}
theorem ali {v k : Int} (hi : ρ[i]? = some (some (.dat (.int v)))) : PTd K f (aep (tOp (afC K false) (yg i) (tC (.int k)))) ρ fun b => b = decide (v = k) :=
 yv (jU (zl hi (yk ⟨rfl, rfl, by show min 0 0 <= 60; decide, _, rfl, rfl⟩)))
end
end L2
namespace L2
open PySem PySem.Spec PyProof.Rows
end L2
end
section
namespace L2
open PySem PySem.Spec PyProof.Rows
def qy : Nat := 2 ^ 9000
theorem jK {n m : Nat} (h : n < 2 ^ m) (hm : m <= 9000) : n < qy := al0 h (api (by decide) hm)
theorem abj {k : Int} (h : k.natAbs < qy) : anE k <= 9000 := by
 unfold anE
 split
 ·exact ama _
 ·have : k.natAbs.log2 < 9000 := by
   rcases Nat.eq_zero_or_pos k.natAbs with h0 | hp
   ·rw [h0]; decide
   ·exact (apB (anw hp)).mpr h
  omega
def CMulH (i j : Int) : Prop := i.natAbs < qy /\ j.natAbs < qy
theorem CMulH.ok {i j : Int} (h : CMulH i j) : IntMulOk i j := by
 have e1 := abj h.1
 have e2 := abj h.2
 have : apc ((anE i : Int) + (anE j : Int)) = false := by
  unfold apc
  refine decide_eq_false ?_
  have : (100000 : Int) <= (bitsLine : Int) := by decide +kernel
  omega
 unfold IntMulOk
 rw [this, aoA]
 exact alC
theorem z7 {X : Cx} : OpR X (binaryOp .Mult) (rI CMulH fun i j => .int (i * j)) := opI fun _ _ _ _ _ _ _ hc q => mul_int q hc.ok
def ahq (_ j : Int) : Prop := j ≠ 0 /\ j.natAbs < qy
theorem jD {X : Cx} : OpR X (binaryOp .FloorDiv) (rI ahq fun i j => .int (i.fdiv j)) := opI fun i j _ _ _ _ _ hc q => by
 obtain ⟨h1, h2⟩ := hc
 refine floordiv_int h1 q (.inl (aoP ?_))
 exact (apB (by omega)).mpr h2
def akz (q : Rat) : PyData := .tuple [.int q.num, .int (q.den : Nat)]
theorem aaC {g t : Int} (h : g ≠ 0) : (g * t).fdiv g = t := by
 rw [aoT _ h]
theorem af3 {t b : Int} (hb : b ≠ 0) : (t.fdiv (b.sign * (amC t b : Int)) = (aoE t b).num) /\ (b.fdiv (b.sign * (amC t b : Int)) = ((aoE t b).den : Int)) := by
 have gp : 0 < amC t b := aoq t hb
 have g0 : ((amC t b : Nat) : Int) ≠ 0 := by omega
 obtain ⟨u, hu⟩ := Int.gcd_dvd_left t b
 obtain ⟨v, hv⟩ := Int.gcd_dvd_right t b
 have ss : b.sign * b.sign = 1 := by
  rcases anZ b 0 with h | h | h
  ·rw [amI h]; rfl
  ·exact absurd h hb
  ·rw [amY h]; rfl
 have s0 : b.sign * ((amC t b : Nat) : Int) ≠ 0 := Int.mul_ne_zero (fun z => by rw [z] at ss; cases ss) g0
 refine ⟨?_, ?_⟩
 ·rw [Rat.num_divInt, Int.gcd_comm b t]
  have e1 : t = b.sign * ((amC t b : Nat) : Int) * (b.sign * u) := by
   rw [show b.sign * ((amC t b : Nat) : Int) * (b.sign * u) = (b.sign * b.sign) * (((amC t b : Nat) : Int) * u) by grind, ss, apC, <- hu]
  have e2 : b.sign * t = ((amC t b : Nat) : Int) * (b.sign * u) := by rw [show ((amC t b : Nat) : Int) * (b.sign * u) = b.sign * (((amC t b : Nat) : Int) * u) by grind, <- hu]
  rw [e2, anK _ g0]
  generalize hG : b.sign * ((amC t b : Nat) : Int) = G at *
  rw [e1]
  exact aaC s0
 ·rw [apm, if_neg hb, Int.gcd_comm b t]
  have e1 : b = b.sign * ((amC t b : Nat) : Int) * (b.sign * v) := by
   rw [show b.sign * ((amC t b : Nat) : Int) * (b.sign * v) = (b.sign * b.sign) * (((amC t b : Nat) : Int) * v) by grind, ss, apC, <- hv]
  have e3 : (b.natAbs : Int) = ((amC t b : Nat) : Int) * (b.sign * v) := by
   rw [show ((amC t b : Nat) : Int) * (b.sign * v) = b.sign * (((amC t b : Nat) : Int) * v) by grind, <- hv]
   rcases anZ b 0 with h | h | h
   ·rw [amI h]; omega
   ·exact absurd h hb
   ·rw [amY h]; omega
  rw [Int.natCast_ediv, e3, anK _ g0]
  have key : ∀ G X : Int, G ≠ 0 -> b = G * X -> b.fdiv G = X := fun G X h e => by rw [e]; exact aaC h
  exact key _ _ s0 e1
theorem adZ (t b : Int) : (aoE t b).num.natAbs <= t.natAbs := by
 rw [Rat.num_divInt]
 refine alZ (Int.natAbs_ediv_le_natAbs _ _) ?_
 rw [aoF]
 refine alZ (apn _ (show b.sign.natAbs <= 1 from ?_)) (by rw [Nat.one_mul]; exact alI _)
 rcases anZ b 0 with h | h | h
 ·rw [amI h]; decide
 ·rw [h]; decide
 ·rw [amY h]; decide
theorem ad0 {t b : Int} (h : b ≠ 0) : (aoE t b).den <= b.natAbs := by
 rw [apm, if_neg h]
 exact Nat.div_le_self _ _
end L2
namespace L2
open PySem PySem.Spec PyProof.Rows
section
variable {K : alE} {f : Fx} {ρ : zq} {R : zq -> Prop} {P : PyData -> Prop} {i j m : Nat}
theorem aiN {a b : PyData} (h : R ((ρ.set i (some (.dat a))).set j (some (.dat b)))) : PGd K f (agu K 2 (aah (yP i) (aah (yP j) ah7))) (.tuple [a, b]) ρ R := yE rfl (zr (zj (zr (zj (zZ h)))))
theorem alj {a b c : PyData} (h : R (((ρ.set i (some (.dat a))).set j (some (.dat b))).set m (some (.dat c)))) : PGd K f (agu K 3 (aah (yP i) (aah (yP j) (aah (yP m) ah7)))) (.tuple [a, b, c]) ρ R := yE rfl (zr (zj (zr (zj (zr (zj (zZ h)))))))
theorem af4 {C : Int -> Int -> Prop} {g : Int -> Int -> Int} {a b : Int} (hi : ρ[i]? = some (some (.dat (.int a)))) (hj : ρ[j]? = some (some (.dat (.int b)))) (c : C a b) (p : P (.int (g a b))) : PEd K f (tOp (rI C fun i j => .int (g i j)) (yg i) (yg j)) ρ P := z9 (zl hi ⟨_, rfl, zl hj ⟨_, rfl, c, p⟩⟩)
end
end L2
end
section
namespace My
open PySem PySem.Spec PyProof.Rows L2
def top (i : Nat) : Stmt := PySem.Challenge.pw_heightrings_k53_webs_of_tables.main.body.getD i (.Pass ⟨0, 0, 0, 0⟩)
abbrev ab4 : Stmt := top 1
abbrev akA : List Str := ["rows"]
theorem aiO : FnScope akA ["rows"] (zk ab4) := ⟨rfl, rfl, rfl, by decide +kernel, rfl, by decide +kernel, by decide +kernel⟩
abbrev vg : Stmt := top 2
abbrev ahr : List Str := ["rows", "wide", "tall"]
theorem sc_points : FnScope ahr ["rows"] (zk vg) := ⟨rfl, rfl, rfl, by decide +kernel, rfl, by decide +kernel, by decide +kernel⟩
abbrev jl : Stmt := top 3
abbrev ac8 : List Str := ["rows", "x", "y", "wide", "tall"]
theorem sc_has_point : FnScope ac8 ["rows", "x", "y"] (zk jl) := ⟨rfl, rfl, rfl, by decide +kernel, rfl, by decide +kernel, by decide +kernel⟩
abbrev yW : Stmt := top 4
abbrev ab5 : List Str := ["rows", "x", "y", "beside"]
theorem sc_neighbours : FnScope ab5 ["rows", "x", "y"] (zk yW) := ⟨rfl, rfl, rfl, by decide +kernel, rfl, by decide +kernel, by decide +kernel⟩
abbrev jL : Stmt := top 5
abbrev ad1 : List Str := ["rows", "x", "y"]
theorem ac9 : FnScope ad1 ["rows", "x", "y"] (zk jL) := ⟨rfl, rfl, rfl, by decide +kernel, rfl, by decide +kernel, by decide +kernel⟩
abbrev qq : Stmt := top 6
abbrev af5 : List Str := ["x", "y"]
theorem ad2 : FnScope af5 ["x", "y"] (zk qq) := ⟨rfl, rfl, rfl, by decide +kernel, rfl, by decide +kernel, by decide +kernel⟩
abbrev vh : Stmt := top 8
abbrev ahs : List Str := ["one", "other"]
theorem sc_common : FnScope ahs ["one", "other"] (zk vh) := ⟨rfl, rfl, rfl, by decide +kernel, rfl, by decide +kernel, by decide +kernel⟩
abbrev jm : Stmt := top 9
abbrev ada : List Str := ["top", "bottom", "by"]
theorem sc_shortened : FnScope ada ["top", "bottom"] (zk jm) := ⟨rfl, rfl, rfl, by decide +kernel, rfl, by decide +kernel, by decide +kernel⟩
abbrev jn : Stmt := top 18
abbrev adb : List Str := ["rows", "at", "row"]
theorem sc_ask_table : FnScope adb ["rows"] (zk jn) := ⟨rfl, rfl, rfl, by decide +kernel, rfl, by decide +kernel, by decide +kernel⟩
abbrev ab6 : Stmt := top 19
abbrev akB : List Str := ["things"]
theorem aiP : FnScope akB ["things"] (zk ab6) := ⟨rfl, rfl, rfl, by decide +kernel, rfl, by decide +kernel, by decide +kernel⟩
abbrev vi : Stmt := top 20
abbrev aht : List Str := ["row"]
theorem af6 : FnScope aht ["row"] (zk vi) := ⟨rfl, rfl, rfl, by decide +kernel, rfl, by decide +kernel, by decide +kernel⟩
abbrev aab : Stmt := top 24
abbrev aiQ : List Str := ["rows", "cut", "sides"]
theorem sc_gates : FnScope aiQ ["rows", "cut"] (zk aab) := ⟨rfl, rfl, rfl, by decide +kernel, rfl, by decide +kernel, by decide +kernel⟩
abbrev yN : Stmt := top 25
abbrev aaT : List Str := ["rows", "cut", "point", "x", "y"]
theorem sc_stands_high : FnScope aaT ["rows", "cut", "point"] (zk yN) := ⟨rfl, rfl, rfl, by decide +kernel, rfl, by decide +kernel, by decide +kernel⟩
abbrev yO : Stmt := top 26
abbrev aaU : List Str := ["gate", "x", "y", "way"]
theorem sc_gate_points : FnScope aaU ["gate"] (zk yO) := ⟨rfl, rfl, rfl, by decide +kernel, rfl, by decide +kernel, by decide +kernel⟩
abbrev jM : Stmt := top 27
abbrev ad3 : List Str := ["rows", "gate"]
theorem ade : FnScope ad3 ["rows", "gate"] (zk jM) := ⟨rfl, rfl, rfl, by decide +kernel, rfl, by decide +kernel, by decide +kernel⟩
abbrev qr : Stmt := top 28
abbrev af7 : List Str := ["rows", "cut", "gate", "first", "second"]
theorem sc_is_open : FnScope af7 ["rows", "cut", "gate"] (zk qr) := ⟨rfl, rfl, rfl, by decide +kernel, rfl, by decide +kernel, by decide +kernel⟩
abbrev yX : Stmt := top 29
abbrev ab7 : List Str := ["cell", "x", "y"]
theorem sc_cell_gates : FnScope ab7 ["cell"] (zk yX) := ⟨rfl, rfl, rfl, by decide +kernel, rfl, by decide +kernel, by decide +kernel⟩
abbrev yY : Stmt := top 30
abbrev ab8 : List Str := ["rows", "cut", "cell"]
theorem aaV : FnScope ab8 ["rows", "cut", "cell"] (zk yY) := ⟨rfl, rfl, rfl, by decide +kernel, rfl, by decide +kernel, by decide +kernel⟩
abbrev yo : Stmt := top 31
abbrev vj : List Str := ["rows", "cut", "cell", "x", "y"]
theorem sc_has_high_middle : FnScope vj ["rows", "cut", "cell"] (zk yo) := ⟨rfl, rfl, rfl, by decide +kernel, rfl, by decide +kernel, by decide +kernel⟩
abbrev jo : Stmt := top 32
abbrev adf : List Str := ["rows", "cut", "cell", "through"]
theorem sc_cell_ties : FnScope adf ["rows", "cut", "cell"] (zk jo) := ⟨rfl, rfl, rfl, by decide +kernel, rfl, by decide +kernel, by decide +kernel⟩
abbrev yI : Stmt := top 33
abbrev aaD : List Str := ["rows", "cut", "cell", "above", "left", "below", "right"]
theorem sc_crossed_ties : FnScope aaD ["rows", "cut", "cell"] (zk yI) := ⟨rfl, rfl, rfl, by decide +kernel, rfl, by decide +kernel, by decide +kernel⟩
abbrev qs : Stmt := top 34
abbrev af8 : List Str := ["rows", "cut", "gate", "x", "y", "way", "near_is_high"]
theorem sc_heading : FnScope af8 ["rows", "cut", "gate"] (zk qs) := ⟨rfl, rfl, rfl, by decide +kernel, rfl, by decide +kernel, by decide +kernel⟩
abbrev yZ : Stmt := top 35
abbrev ab9 : List Str := ["rows", "cut", "gate", "across", "down"]
theorem sc_cell_ahead : FnScope ab9 ["rows", "cut", "gate"] (zk yZ) := ⟨rfl, rfl, rfl, by decide +kernel, rfl, by decide +kernel, by decide +kernel⟩
abbrev jN : Stmt := top 36
abbrev ad4 : List Str := ["rows", "cut", "gate", "across", "down"]
theorem sc_comes_in : FnScope ad4 ["rows", "cut", "gate"] (zk jN) := ⟨rfl, rfl, rfl, by decide +kernel, rfl, by decide +kernel, by decide +kernel⟩
abbrev y3 : Stmt := top 37
abbrev aca : List Str := ["rows", "cut", "gate", "x", "y", "partners", "one", "other"]
theorem sc_gate_ahead : FnScope aca ["rows", "cut", "gate"] (zk y3) := ⟨rfl, rfl, rfl, by decide +kernel, rfl, by decide +kernel, by decide +kernel⟩
abbrev aac : Stmt := top 39
abbrev aiR : List Str := ["rows", "cut", "through", "starts", "told", "passed", "start", "line", "gate"]
theorem sc_lines : FnScope aiR ["rows", "cut"] (zk aac) := ⟨rfl, rfl, rfl, by decide +kernel, rfl, by decide +kernel, by decide +kernel⟩
abbrev jq : Stmt := top 40
abbrev adg : List Str := ["rows", "cut", "start", "path", "gate"]
theorem sc_line_from : FnScope adg ["rows", "cut", "start"] (zk jq) := ⟨rfl, rfl, rfl, by decide +kernel, rfl, by decide +kernel, by decide +kernel⟩
abbrev jO : Stmt := top 42
abbrev ad5 : List Str := ["rows", "cut", "gate", "x", "y", "way", "part", "whole"]
theorem sc_place_of : FnScope ad5 ["rows", "cut", "gate"] (zk jO) := ⟨rfl, rfl, rfl, by decide +kernel, rfl, by decide +kernel, by decide +kernel⟩
abbrev aad : Stmt := top 43
abbrev aiS : List Str := ["rows", "cut", "gate", "first", "second"]
theorem sc_share : FnScope aiS ["rows", "cut", "gate"] (zk aad) := ⟨rfl, rfl, rfl, by decide +kernel, rfl, by decide +kernel, by decide +kernel⟩
abbrev jP : Stmt := top 45
abbrev ad6 : List Str := ["rows", "scale", "x", "y", "a", "b", "by"]
theorem sc_scale_of : FnScope ad6 ["rows"] (zk jP) := ⟨rfl, rfl, rfl, by decide +kernel, rfl, by decide +kernel, by decide +kernel⟩
abbrev vk : Stmt := top 46
abbrev ahu : List Str := ["rows", "cuts", "scale"]
theorem sc_web_of : FnScope ahu ["rows", "cuts"] (zk vk) := ⟨rfl, rfl, rfl, by decide +kernel, rfl, by decide +kernel, by decide +kernel⟩
abbrev yJ : Stmt := top 47
abbrev aaE : List Str := ["rows", "cut", "gate", "scale", "x", "y", "by"]
theorem sc_scaled_place : FnScope aaE ["rows", "cut", "gate", "scale"] (zk yJ) := ⟨rfl, rfl, rfl, by decide +kernel, rfl, by decide +kernel, by decide +kernel⟩
abbrev jQ : Stmt := top 49
abbrev qN : List Str := ["_law_script", "_law_k", "_law_cell"]
theorem sc_law_feed : FnScope qN ["_law_script", "_law_k"] (zk jQ) := ⟨rfl, rfl, rfl, by decide +kernel, rfl, by decide +kernel, by decide +kernel⟩
abbrev jR : Stmt := top 50
abbrev ad7 : List Str := ["_law_feed_here", "_law_many", "_law_found"]
theorem sc_law_draw : FnScope ad7 ["_law_feed_here", "_law_many"] (zk jR) := ⟨rfl, rfl, rfl, by decide +kernel, rfl, by decide +kernel, by decide +kernel⟩
abbrev y4 : Stmt := top 51
abbrev acb : List Str := ["_law_feed_here", "_law_far", "_law_base"]
theorem aaW : FnScope acb ["_law_feed_here", "_law_far", "_law_base"] (zk y4) := ⟨rfl, rfl, rfl, by decide +kernel, rfl, by decide +kernel, by decide +kernel⟩
abbrev jr : Stmt := top 52
abbrev adh : List Str := ["_law_feed_here", "_law_wide", "_law_high", "_law_far", "_law_base"]
theorem sc_law_table : FnScope adh ["_law_feed_here"] (zk jr) := ⟨rfl, rfl, rfl, by decide +kernel, rfl, by decide +kernel, by decide +kernel⟩
abbrev jS : Stmt := top 53
abbrev ad8 : List Str := ["_law_feed_here", "_law_rows", "_law_cuts_here", "_law_k", "_law_row", "_law_cut"]
theorem sc_law_cuts : FnScope ad8 ["_law_feed_here", "_law_rows"] (zk jS) := ⟨rfl, rfl, rfl, by decide +kernel, rfl, by decide +kernel, by decide +kernel⟩
abbrev jt : Stmt := top 54
abbrev adi : List Str := ["_law_rows", "_law_cut", "_law_gate", "_law_scale", "_law_x", "_law_y", "_law_way", "_law_one", "_law_other", "_law_along", "_law_apart"]
theorem sc_law_place : FnScope adi ["_law_rows", "_law_cut", "_law_gate", "_law_scale"] (zk jt) := ⟨rfl, rfl, rfl, by decide +kernel, rfl, by decide +kernel, by decide +kernel⟩
abbrev qt : Stmt := top 55
abbrev af9 : List Str := ["_law_rows", "_law_cuts_here", "_law_scale", "_law_web", "_law_cut", "_law_word", "_law_some"]
theorem sc_law_due : FnScope af9 ["_law_rows", "_law_cuts_here", "_law_scale"] (zk qt) := ⟨rfl, rfl, rfl, by decide +kernel, rfl, by decide +kernel, by decide +kernel⟩
abbrev ju : Stmt := top 56
abbrev adj : List Str := ["_law_web", "_law_word", "_law_points", "_law_x", "_law_y"]
theorem sc_law_whole : FnScope adj ["_law_web"] (zk ju) := ⟨rfl, rfl, rfl, by decide +kernel, rfl, by decide +kernel, by decide +kernel⟩
abbrev vQ : Stmt := top 57
abbrev aeZ : List Str := ["_law_script", "_law_k", "_law_feed_here", "_law_rows", "_law_cuts_here", "_law_kept", "_law_handed", "_law_due_here", "_law_found"]
theorem sc_law : FnScope aeZ ["_law_script"] (zk vQ) := ⟨rfl, rfl, rfl, by decide +kernel, rfl, by decide +kernel, by decide +kernel⟩
def tab (rows : List (List Int)) : PyData := .list (rows.map fun r => .list (r.map .int))
structure Good (w : Nat) (rows : List (List Int)) : Prop where
 h1 : 2 <= rows.length
 h2 : rows.length <= 7
 w1 : 2 <= w
 w2 : w <= 7
 row : ∀ r ∈ rows, r.length = w
 hgt : ∀ r ∈ rows, ∀ n ∈ r, -1000000000 <= n /\ n <= 1000000000
theorem Good.ne {w : Nat} {rows : List (List Int)} (g : Good w rows) : ∃ r rs, rows = r :: rs := by
 cases rows with
 | nil => have := g.h1; simp at this
 | cons r rs => exact ⟨r, rs, rfl⟩
theorem y6 {α β : Type} {F : α -> β} {xs : List α} {k : Int} {j : Nat} (hk : (j : Int) = k) (h : j < xs.length) : atI (xs.map F) k = some (F xs[j]) := by
 subst hk
 exact vY (by rw [alJ, alB h]; rfl)
local macro_rules | `(tactic| walk_at "dl") => `(tactic| first
 | (with_reducible show PSd _ _ (qx _ (acs (yg _) (tC (V.int 0)) aam)) _ _; refine aez rfl ?_)
 | (with_reducible show PSd _ _ (qx _ (acs (yg _) (tC (V.int 1)) aam)) _ _; refine aeA rfl ?_)
 | with_reducible refine zQ ?_ | with_reducible refine aaS ?_ | with_reducible refine yy ?_ | with_reducible refine zJ ?_ | with_reducible refine vw ?_ | with_reducible refine jZ ?_
 | with_reducible refine zj ?_ | with_reducible refine yE rfl ?_ | with_reducible refine zr ?_ | with_reducible refine zZ ?_
 | with_reducible refine yv ?_ | with_reducible refine t_b ?_ | with_reducible refine agK ?_ | with_reducible refine adN ?_ | with_reducible refine aa8 ?_ | with_reducible refine yV ?_
 | with_reducible refine aex ?_ | with_reducible refine aew ?_ | with_reducible refine yx ?_ | with_reducible refine z9 ?_ | with_reducible refine jU ?_
 | with_reducible refine aij ?_ | with_reducible refine adO ?_ | with_reducible refine d_orV ?_ | with_reducible refine agL ?_
 | with_reducible refine yk ?_ | with_reducible refine aj7 ?_ | with_reducible refine ajp ?_ | with_reducible refine ajq ?_
 | (with_reducible show PEd _ _ (yg _) _ _; refine zl rfl ?_)
 | (with_reducible show PEd _ _ (tOp (afy _) (yg _) _) _ _; refine ajr rfl ?_)
 | with_reducible refine yQ ?_ | with_reducible refine agJ ?_
 | (with_reducible show PAd _ _ (yc (yg _) _) _ _; refine jY rfl ?_)
 | with_reducible refine zy ?_ | with_reducible refine ya ?_
 | with_reducible refine jV ?_ | with_reducible refine acE ?_ | with_reducible refine aey ?_ | with_reducible refine agM ?_ | with_reducible refine agN ?_ | with_reducible refine agO ?_ | with_reducible refine agP ?_
 | (with_reducible show (∃ _, _) \/ (∃ _, _); refine Or.inl ⟨_, rfl, ?_⟩) | refine ⟨_, rfl, ?_⟩ | refine ⟨_, _, rfl, ?_⟩
 | (with_reducible show (_ = _ /\ ∀ _, _) \/ _; first | refine Or.inl ⟨rfl, fun a ha => ?_⟩ | refine Or.inr ⟨rfl, fun b hb hb' => ?_⟩)
 | refine ⟨rfl, ?_⟩
 | (refine And.intro ?side ?_; (case side => first | omega | exact Int.ediv_nonneg (by omega) (by omega) | exact aon _ (by omega) | exact am2 _ (by omega) | decide | exact ⟨by decide, by decide, by decide⟩ | exact ⟨by omega, by omega⟩ | exact Or.inl ⟨by omega, by omega⟩ | exact Or.inr ⟨by omega, by omega⟩ | (refine alZ (anz (by rfl)) (show _ <= 1000 by decide)) | ((repeat' apply And.intro) <;> first | rfl | omega | decide | assumption) | (simp [aou]))))
section
variable {P : Program} {w : World} {K : alE} {mg : Str -> Option Value} {base : Heap} {k : Nat}
theorem aiT (F : Def K mg "size" ab4 ["rows"]) (m_len : mg "len" = none) : FnIn P w K mg base (k + 1) "size" ["rows"] (spD K 1 (fun (c : List (List Int) × Nat) xs => xs = [.dat (tab c.1)] /\ Good c.2 c.1) fun c r => r = .tuple [.int c.2, .int c.1.length]) := by
 refine F.ok aiO rfl fun fa cdv A outer s H E hr => ⟨_, (zh (zu (zA (za (zB (ym (K := K) rfl) rfl m_len amJ (za (zN (zx (K := K) rfl) (pv 0) zd (fun _ _ => rfl)) zb)) (za (zB (ym (K := K) rfl) rfl m_len amJ (za (pv 0) zb)) zb))))), ?_⟩
 rintro f xs ⟨rows, wd⟩ hl ⟨rfl, g⟩
 try dsimp only [zW, zi]
 obtain ⟨r, rs, rfl⟩ := g.ne
 repeat walk_at "dl"
 refine ⟨_, y6 (j := 0) rfl (by simp), ?_⟩
 repeat walk_at "dl"
 have hw := g.row r alL
 show PyData.tuple [.int _, .int _] = _
 rw [alD, alD]
 show PyData.tuple [.int (r.length : Nat), _] = _
 rw [hw]
theorem aiU (F : Def K mg "fits" ab6 ["things"]) (m_len : mg "len" = none) (m_FEWEST : ∃ t, mg "FEWEST" = some (.int 2 t)) (m_MOST : ∃ t, mg "MOST" = some (.int 7 t)) :
  FnIn P w K mg base (k + 1) "fits" ["things"] (spD K 1 (fun (c : List PyData) xs => xs = [.dat (.list c)]) fun c r => r = .bool (decide (2 <= c.length /\ c.length <= 7))) := by
 obtain ⟨_, m_FEWEST⟩ := m_FEWEST
 obtain ⟨_, m_MOST⟩ := m_MOST
 refine F.ok aiP rfl fun fa cdv A outer s H E hr => ⟨_, (zh (zu (aaj aa0 aa0 (qU rfl m_FEWEST) (zB (ym (K := K) rfl) rfl m_len amJ (za (pv 0) zb)) (qU rfl m_MOST)))), ?_⟩
 rintro f xs ds hl rfl
 try dsimp only [zW, zi]
 repeat walk_at "dl"
 by_cases h : 2 <= ds.length
 ·rw [if_pos (by simp; omega)]
  repeat walk_at "dl"
  show PyData.bool _ = _
  congr 1
  by_cases h7 : ds.length <= 7 <;> simp [h, h7] <;> omega
 ·rw [if_neg (by simp; omega)]
  show PyData.bool _ = _
  congr 1
  simp [h]
theorem aga (F : Def K mg "is_row" vi ["row"]) (m_min : mg "min" = none) (m_max : mg "max" = none) (m_LEAST : ∃ t, mg "LEAST" = some (.int (-1000000000) t)) (m_GREATEST : ∃ t, mg "GREATEST" = some (.int 1000000000 t))
  (G_fits : FnIn P w K mg base k "fits" ["things"] (spD K 1 (fun (c : List PyData) xs => xs = [.dat (.list c)]) fun c r => r = .bool (decide (2 <= c.length /\ c.length <= 7)))) :
  FnIn P w K mg base (k + 1) "is_row" ["row"] (spD K 1 (fun (c : List Int) xs => xs = [.dat (.list (c.map .int))]) fun c r => r = .bool (decide (2 <= c.length /\ c.length <= 7 /\ ∀ n ∈ c, -1000000000 <= n /\ n <= 1000000000))) := by
 obtain ⟨_, m_LEAST⟩ := m_LEAST
 obtain ⟨_, m_GREATEST⟩ := m_GREATEST
 refine F.ok af6 rfl fun fa cdv A outer s H E hr => ⟨_, (zh (zu (abB (ze G_fits hr rfl (za (pv 0) zb)) (abB (qR aa0 (qU rfl m_LEAST) (zB (afI (K := K) rfl rfl) rfl m_min boot_min (za (pv 0) zb)) (zX _)) (adD (qR aa0 (zB (afJ (K := K) rfl rfl) rfl m_max boot_max (za (pv 0) zb)) (qU rfl m_GREATEST) (zX _))))))), ?_⟩
 rintro f xs c hl rfl
 try dsimp only [zW, zi]
 repeat walk_at "dl"
 refine zp (c.map .int) ?_
 repeat walk_at "dl"
 rintro r rfl
 rw [alD]
 repeat walk_at "dl"
 by_cases h : 2 <= c.length /\ c.length <= 7
 ·have hne : c ≠ [] := by rintro rfl; simp at h
  rw [if_pos (by simpa using h)]
  repeat walk_at "dl"
  intro M hM hM'
  repeat walk_at "dl"
  by_cases h2 : -1000000000 <= M
  ·rw [if_pos (by simpa using h2)]
   repeat walk_at "dl"
   intro M' hN hN'
   repeat walk_at "dl"
   show PyData.bool _ = _
   congr 1
   rw [decide_eq_decide]
   refine ⟨fun q => ⟨h.1, h.2, fun n hn => ⟨Int.le_trans h2 (hM' n hn), Int.le_trans (hN' n hn) q⟩⟩, fun q => (q.2.2 M' hN).2⟩
  ·rw [if_neg (by simpa using h2)]
   show PyData.bool _ = _
   congr 1
   symm
   rw [decide_eq_false_iff_not]
   exact fun q => h2 (q.2.2 M hM).1
 ·rw [if_neg (by simpa using h)]
  show PyData.bool _ = _
  congr 1
  symm
  rw [decide_eq_false_iff_not]
  exact fun q => h ⟨q.1, q.2.1⟩
abbrev adk (K : alE) : Sp := spD K 1 (fun (c : List (List Int) × Nat) xs => xs = [.dat (tab c.1)] /\ Good c.2 c.1) fun _ r => r = .bool true
theorem akC (F : Def K mg "ask_table" jn ["rows"]) (m_len : mg "len" = none) (m_enumerate : mg "enumerate" = none)
  (G_fits : FnIn P w K mg base k "fits" ["things"] (spD K 1 (fun (c : List PyData) xs => xs = [.dat (.list c)]) fun c r => r = .bool (decide (2 <= c.length /\ c.length <= 7))))
  (G_is_row : FnIn P w K mg base k "is_row" ["row"] (spD K 1 (fun (c : List Int) xs => xs = [.dat (.list (c.map .int))]) fun c r => r = .bool (decide (2 <= c.length /\ c.length <= 7 /\ ∀ n ∈ c, -1000000000 <= n /\ n <= 1000000000)))) :
  FnIn P w K mg base (k + 1) "ask_table" ["rows"] (adk K) := by
 refine F.ok sc_ask_table rfl fun fa cdv A outer s H E hr => ⟨_, (zc (yt (vu (z3 (K := K) rfl (ze G_fits hr rfl (za (pv 0) zb)) (fun _ => rfl))) (zh acr) zP) (zc (yR aml rfl (agU (K := K) rfl rfl m_enumerate (za (pv 0) zb)) (zH (K := K) (n := 2) rfl rfl (zg (zf (i := 1) sc_ask_table.nd rfl (Or.inl rfl) (Or.inr rfl)) (zg (zf (i := 2) sc_ask_table.nd rfl (Or.inl rfl) (Or.inr rfl)) zF))) (zh (yt (PW.pt (aaZ (zR (j9 (K := K) rfl hr.units) (zB (ym (K := K) rfl) rfl m_len amJ (za (pv 2) zb)) (zB (ym (K := K) rfl) rfl m_len amJ (za (zN (zx (K := K) rfl) (pv 0) zd (fun _ _ => rfl)) zb)) (zX _)) (abA (vu (z3 (K := K) rfl (ze G_is_row hr rfl (za (pv 2) zb)) (fun _ => rfl)))))) (zh acr) zP))) (zh (zu vJ)))), ?_⟩
 rintro f xs ⟨rows, wd⟩ hl ⟨rfl, g⟩
 try dsimp only [zW, zi]
 have g1 := g.h1
 have g2 := g.h2
 repeat walk_at "dl"
 refine zp (rows.map fun r => .list (r.map .int)) ?_
 repeat walk_at "dl"
 rintro r rfl
 dsimp only at g1 g2
 refine ⟨_, rfl, ?_⟩
 rw [alD, decide_eq_true ⟨g1, g2⟩, amm, if_neg alC]
 repeat walk_at "dl"
 refine adP ?_
 repeat walk_at "dl"
 refine ⟨fun i ρ => ∃ a b, ρ = [some (.dat (tab rows)), a, b], ⟨_, _, rfl⟩, ?_, ?_⟩
 ·rintro i d ρ hd ⟨a, b, rfl⟩
  rw [alJ] at hd
  cases hr : rows[i]? with
  | none => rw [hr] at hd; cases hd
  | some r =>
   rw [hr] at hd
   cases hd
   have hm := alN hr
   have hw := g.row r hm
   obtain ⟨r0, rs, hrs⟩ := g.ne
   dsimp only at hrs
   subst hrs
   have hw0 := g.row r0 alL
   repeat walk_at "dl"
   refine ⟨_, y6 (j := 0) rfl (by simp), ?_⟩
   repeat walk_at "dl"
   dsimp only at hw hw0
   rw [if_pos rfl, alD, alD]
   show (if (!(((r.length : Nat) : Int) == ((r0.length : Nat) : Int))) = true then _ else _)
   rw [hw, hw0, beq_self_eq_true, amm, if_neg alC]
   repeat walk_at "dl"
   refine zp r ?_
   repeat walk_at "dl"
   rintro _ rfl
   refine ⟨_, rfl, ?_⟩
   have w1 := g.w1
   have w2 := g.w2
   dsimp only at w1 w2
   rw [decide_eq_true ⟨by omega, by omega, g.hgt r hm⟩, amm, if_neg alC]
   repeat walk_at "dl"
   exact ⟨_, _, rfl⟩
 ·rintro ρ ⟨a, b, rfl⟩
  repeat walk_at "dl"
  rfl
theorem aiV (F : Def K mg "_law_draw" jR ["_law_feed_here", "_law_many"]) : FnIn P w K mg base (k + 1) "_law_draw" ["_law_feed_here", "_law_many"] (spD K 2 (fun (c : Int) xs => xs = [.feed, .dat (.int c)] /\ 0 < c /\ c < 1152921504606846976) fun c r => ∃ i : Int, r = .int i /\ 0 <= i /\ i < c) := by
 refine F.ok sc_law_draw rfl fun fa cdv A outer s H E hr => ⟨_, (zc (yt (zR ajn (zN (zx (K := K) rfl) (pv 0) zd (fun _ _ => rfl)) (zo qI zd zd) (zX _)) (zc (zD (i := 2) sc_law_draw.nd rfl (Or.inl rfl) (zo qH (zN (zx (K := K) rfl) (pv 0) zd (fun _ _ => rfl)) (pv 1))) (zc (z8 (zo aat (zN (zx (K := K) rfl) (pv 0) zd (fun _ _ => rfl)) (pv 1)) (abC (pv 0) zd set_list)) (zh (zu (pv 2))))) zP) (zc (z8 (zo qH (zo zI (zo zI (zo qG (zN (zx (K := K) rfl) (pv 0) zd (fun _ _ => rfl)) zd) (zo qH (zN (zx (K := K) rfl) (pv 0) zd (fun _ _ => rfl)) zd)) zd) zd) (abC (pv 0) zd set_list)) (zh (zu (zo qH (zo aat (zo qH (zo qG (zN (zx (K := K) rfl) (pv 0) zd (fun _ _ => rfl)) zd) zd) zd) (pv 1)))))), ?_⟩
 rintro f xs c hl ⟨rfl, c0, c1⟩
 try dsimp only [zW, zi]
 repeat walk_at "dl"
 split
 ·repeat walk_at "dl"
  exact am2 _ c0
 ·repeat walk_at "dl"
  exact am2 _ c0
abbrev ad9 (K : alE) : Sp := spD K 2 (fun (c : Int) xs => xs = [.feed, .dat (.int c)] /\ 0 < c /\ c < 1152921504606846976) fun c r => ∃ i : Int, r = .int i /\ 0 <= i /\ i < c
abbrev adl (K : alE) : Sp := spD K 3 (fun (c : Int × Int) xs => xs = [.feed, .dat (.int c.1), .dat (.int c.2)] /\ 0 <= c.1 /\ c.1 <= 10 /\ -1000000000 <= c.2 /\ c.2 <= 999999991) fun c r => ∃ i : Int, r = .int i /\ -1000000000 <= i /\ i <= 1000000000
theorem agb (F : Def K mg "_law_height" y4 ["_law_feed_here", "_law_far", "_law_base"]) (m_min : mg "min" = none) (G__law_draw : FnIn P w K mg base k "_law_draw" ["_law_feed_here", "_law_many"] (ad9 K)) :
  FnIn P w K mg base (k + 1) "_law_height" ["_law_feed_here", "_law_far", "_law_base"] (adl K) := by
 refine F.ok aaW rfl fun fa cdv A outer s H E hr => ⟨_, (zc (yt (zR agA (pv 1) zd (zX _)) (zh (zu (zo zI (pv 2) (ze G__law_draw hr rfl (za (pv 0) (za (pv 1) zb)))))) zP) (zh (zu (zB (aa1 rfl) rfl m_min boot_min (za (zo qI zd zd) (za (zo yB (zo zI (zo qG (ze G__law_draw hr rfl (za (pv 0) (za zd zb))) zd) (ze G__law_draw hr rfl (za (pv 0) (za zd zb)))) (zo qI zd zd)) zb)))))), ?_⟩
 rintro f xs ⟨far, bs⟩ hl ⟨rfl, c0, c1, c2, c3⟩
 dsimp only at c0 c1 c2 c3
 try dsimp only [zW, zi]
 repeat walk_at "dl"
 by_cases h : 0 < far
 ·rw [if_pos (by simpa using h)]
  repeat walk_at "dl"
  refine zp far ?_
  repeat walk_at "dl"
  rintro r ⟨i, rfl, h1, h2⟩
  repeat walk_at "dl"
  show bs + i <= 1000000000
  omega
 ·rw [if_neg (by simpa using h)]
  repeat walk_at "dl"
  refine zp 20001 ?_
  repeat walk_at "dl"
  rintro r ⟨i, rfl, h1, h2⟩
  repeat walk_at "dl"
  refine zp 100000 ?_
  repeat walk_at "dl"
  rintro r ⟨j, rfl, h3, h4⟩
  repeat walk_at "dl"
  have e9 : (10 : Int) ^ Int.toNat 9 = 1000000000 := by decide
  rw [e9]
  omega
end
open PySem PySem.Spec PyProof.Rows L2
section
variable {P : Program} {w : World} {K : alE} {mg : Str -> Option Value} {base : Heap} {k : Nat}
abbrev ae0 (K : alE) : Sp := spD K 1 (fun (_ : Unit) xs => xs = [.feed]) fun _ r => ∃ wd rows, r = tab rows /\ Good wd rows
theorem menu {ds : List PyData} {i n : Int} (h0 : 0 <= i) (h1 : i < n) (hn : n = (ds.length : Int)) : ∃ d, atI ds i = some d /\ d ∈ ds := by
 have hi : i.toNat < ds.length := by omega
 have e : i = ((i.toNat : Nat) : Int) := by omega
 have q := vY (alB hi)
 rw [<- e] at q
 exact ⟨_, q, al9 hi⟩
theorem ae1 : ∀ {es : List PyData} {p : Int -> Prop}, (∀ (i : Nat) e, es[i]? = some e -> ∃ n : Int, e = .int n /\ p n) -> ∃ ns : List Int, es = ns.map .int /\ ∀ n ∈ ns, p n
 | [], p, _ => ⟨[], rfl, fun n h => by cases h⟩
 | e :: es, p, h => by
  obtain ⟨n, rfl, hn⟩ := h 0 e rfl
  obtain ⟨ns, rfl, hs⟩ := ae1 (es := es) (p := p) fun i e' he => h (i + 1) e' (by simpa using he)
  exact ⟨n :: ns, rfl, fun m hm => by
   rcases alO.mp hm with rfl | hm
   ·exact hn
   ·exact hs m hm⟩
theorem ae2 : ∀ {es : List PyData} {p : List Int -> Prop}, (∀ (i : Nat) e, es[i]? = some e -> ∃ r : List Int, e = .list (r.map .int) /\ p r) -> ∃ rows : List (List Int), es = rows.map (fun r => .list (r.map .int)) /\ ∀ r ∈ rows, p r
 | [], p, _ => ⟨[], rfl, fun n h => by cases h⟩
 | e :: es, p, h => by
  obtain ⟨n, rfl, hn⟩ := h 0 e rfl
  obtain ⟨ns, rfl, hs⟩ := ae2 (es := es) (p := p) fun i e' he => h (i + 1) e' (by simpa using he)
  exact ⟨n :: ns, rfl, fun m hm => by
   rcases alO.mp hm with rfl | hm
   ·exact hn
   ·exact hs m hm⟩
theorem ahv (F : Def K mg "_law_table" jr ["_law_feed_here"]) (m_range : mg "range" = none) (G__law_draw : FnIn P w K mg base k "_law_draw" ["_law_feed_here", "_law_many"] (ad9 K)) (G__law_height : FnIn P w K mg base k "_law_height" ["_law_feed_here", "_law_far", "_law_base"] (adl K)) :
  FnIn P w K mg base (k + 1) "_law_table" ["_law_feed_here"] (ae0 K) := by
 refine F.ok sc_law_table rfl fun fa cdv A outer s H E hr => ⟨_, (zc (zD (i := 1) sc_law_table.nd rfl (Or.inr rfl) (zo zI zd (ze G__law_draw hr rfl (za (pv 0) (za zd zb))))) (zc (zD (i := 2) sc_law_table.nd rfl (Or.inl rfl) (zo zI zd (ze G__law_draw hr rfl (za (pv 0) (za zd zb))))) (zc (zD (i := 3) sc_law_table.nd rfl (Or.inr rfl) (zN (zx (K := K) rfl) (yn (za zd (za zd (za zd (za zd (za zd (za zd (za zd zb)))))))) (ze G__law_draw hr rfl (za (pv 0) (za zd zb))) (fun _ _ => rfl))) (zc (zD (i := 4) sc_law_table.nd rfl (Or.inr rfl) (zN (zx (K := K) rfl) (yn (za zd (za (zo yB zd zd) (za (zo yB (zo qI zd zd) zd) (za (zo yB zd (zo qI zd zd)) zb))))) (ze G__law_draw hr rfl (za (pv 0) (za zd zb))) (fun _ _ => rfl))) (zh (zu (yp (N := ["_law_y", "_law_feed_here", "_law_wide", "_law_far", "_law_base"]) (own := 1) (fr := [0, 1, 3, 4]) ⟨rfl, by decide +kernel, of_decide_eq_true (by kernel_rfl), of_decide_eq_true (by kernel_rfl), of_decide_eq_true (by kernel_rfl), rfl⟩ rfl (y7 rfl m_range (za (pv 2) zb)) (fun _ _ _ _ => (zf (i := 0) (show (["_law_y", "_law_feed_here", "_law_wide", "_law_far", "_law_base"] : List Str).Nodup by decide +kernel) rfl (Or.inl rfl) (Or.inr rfl))) (fun _ _ _ _ => yh) (fun _ _ _ _ => (yp (N := ["_law_x", "_law_feed_here", "_law_far", "_law_base"]) (own := 1) (fr := [1, 3, 4]) ⟨rfl, by decide +kernel, of_decide_eq_true (by kernel_rfl), of_decide_eq_true (by kernel_rfl), of_decide_eq_true (by kernel_rfl), rfl⟩ rfl (y7 rfl m_range (za (pv 2) zb)) (fun _ _ _ _ => (zf (i := 0) (show (["_law_x", "_law_feed_here", "_law_far", "_law_base"] : List Str).Nodup by decide +kernel) rfl (Or.inl rfl) (Or.inr rfl))) (fun _ _ _ _ => yh) (fun _ _ _ _ => (ze G__law_height hr rfl (za (pv 1) (za (pv 2) (za (pv 3) zb))))) rfl rfl (fun _ => rfl))) rfl rfl (fun _ => rfl)))))))), ?_⟩
 rintro f xs ⟨⟩ hl rfl
 try dsimp only [zW, zi]
 repeat walk_at "dl"
 refine zp 6 ?_
 repeat walk_at "dl"
 rintro r ⟨i1, rfl, h1, h2⟩
 repeat walk_at "dl"
 refine zp 6 ?_
 repeat walk_at "dl"
 rintro r ⟨i2, rfl, h3, h4⟩
 repeat walk_at "dl"
 refine zp 7 ?_
 repeat walk_at "dl"
 rintro r ⟨i3, rfl, h5, h6⟩
 refine ⟨_, rfl, ?_⟩
 obtain ⟨d3, e3, m3⟩ := menu (ds := [.int 2, .int 3, .int 5, .int 10, .int 2, .int 3, .int 0]) h5 h6 (by simp)
 obtain ⟨far, rfl, f0, f1⟩ : ∃ n : Int, d3 = .int n /\ 0 <= n /\ n <= 10 := by
  simp only [alO, amL, or_false] at m3
  rcases m3 with rfl | rfl | rfl | rfl | rfl | rfl | rfl <;> exact ⟨_, rfl, by decide, by decide⟩
 refine ⟨_, e3, ?_⟩
 repeat walk_at "dl"
 refine zp 4 ?_
 repeat walk_at "dl"
 rintro r ⟨i4, rfl, h7, h8⟩
 refine ⟨_, rfl, ?_⟩
 obtain ⟨d4, e4, m4⟩ := menu (ds := [.int 0, .int (0 - 3), .int (10 ^ Int.toNat 9 - 9), .int (0 - 10 ^ Int.toNat 9)]) h7 h8 (by simp)
 obtain ⟨bs, rfl, b0, b1⟩ : ∃ n : Int, d4 = .int n /\ -1000000000 <= n /\ n <= 999999991 := by
  simp only [alO, amL, or_false] at m4
  rcases m4 with rfl | rfl | rfl | rfl <;> exact ⟨_, rfl, by decide, by decide⟩
 refine ⟨_, e4, ?_⟩
 repeat walk_at "dl"
 refine acH ?_
 repeat walk_at "dl"
 refine ⟨fun _ e => ∃ r : List Int, e = .list (r.map .int) /\ r.length = (2 + i1).toNat /\ ∀ n ∈ r, -1000000000 <= n /\ n <= 1000000000, fun D i hi => ?_, fun es hes hR => ?_⟩
 ·refine acH ?_
  repeat walk_at "dl"
  refine ⟨fun _ e => ∃ n : Int, e = .int n /\ -1000000000 <= n /\ n <= 1000000000, fun D' i' hi' => ?_, fun es hes hR => ?_⟩
  ·refine zp (far, bs) ?_
   repeat walk_at "dl"
   rintro r ⟨n, rfl, n0, n1⟩
   exact ⟨n, rfl, n0, n1⟩
  ·obtain ⟨ns, rfl, hs⟩ := ae1 (p := fun n => -1000000000 <= n /\ n <= 1000000000) hR
   exact ⟨ns, rfl, by rw [alD] at hes; exact hes, hs⟩
 ·obtain ⟨rows, rfl, hs⟩ := ae2 (p := fun r => r.length = (2 + i1).toNat /\ ∀ n ∈ r, -1000000000 <= n /\ n <= 1000000000) hR
  rw [alD] at hes
  exact ⟨(2 + i1).toNat, rows, rfl, by omega, by omega, by omega, by omega, fun r hr => (hs r hr).1, fun r hr => (hs r hr).2⟩
end
open PySem PySem.Spec PyProof.Rows L2
local macro_rules | `(tactic| walk_at "dl") => `(tactic| first
 | (with_reducible show PSd _ _ (qx _ (acs (yg _) (tC (V.int 0)) aam)) _ _; refine aez rfl ?_)
 | (with_reducible show PSd _ _ (qx _ (acs (yg _) (tC (V.int 1)) aam)) _ _; refine aeA rfl ?_)
 | with_reducible refine zQ ?_ | with_reducible refine aaS ?_ | with_reducible refine yy ?_ | with_reducible refine zJ ?_ | with_reducible refine vw ?_ | with_reducible refine jZ ?_
 | with_reducible refine zj ?_ | with_reducible refine yE rfl ?_ | with_reducible refine zr ?_ | with_reducible refine zZ ?_
 | with_reducible refine yv ?_ | with_reducible refine t_b ?_ | with_reducible refine agK ?_ | with_reducible refine adN ?_ | with_reducible refine aa8 ?_ | with_reducible refine yV ?_
 | with_reducible refine aex ?_ | with_reducible refine aew ?_ | with_reducible refine yx ?_ | with_reducible refine z9 ?_ | with_reducible refine jU ?_
 | with_reducible refine aij ?_ | with_reducible refine adO ?_ | with_reducible refine d_orV ?_ | with_reducible refine agL ?_
 | with_reducible refine yk ?_ | with_reducible refine aj7 ?_ | with_reducible refine ajp ?_ | with_reducible refine ajq ?_
 | (with_reducible show PEd _ _ (yg _) _ _; refine zl rfl ?_)
 | (with_reducible show PEd _ _ (tOp (afy _) (yg _) _) _ _; refine ajr rfl ?_)
 | with_reducible refine yQ ?_ | with_reducible refine agJ ?_
 | (with_reducible show PAd _ _ (yc (yg _) _) _ _; refine jY rfl ?_)
 | with_reducible refine zy ?_ | with_reducible refine ya ?_
 | with_reducible refine d_catT ?_ | with_reducible refine d_cut ?_ | with_reducible refine po_no ?_ | with_reducible refine po_at ?_ | with_reducible refine d_int1 ?_ | with_reducible refine abI ?_ | with_reducible refine ja ?_
 | with_reducible refine jV ?_ | with_reducible refine acE ?_ | with_reducible refine aey ?_ | with_reducible refine agM ?_ | with_reducible refine agN ?_ | with_reducible refine agO ?_ | with_reducible refine agP ?_
 | (with_reducible show (∃ _, _) \/ (∃ _, _); first | refine Or.inl ⟨_, rfl, ?_⟩ | refine Or.inr ⟨_, rfl, ?_⟩) | refine ⟨_, rfl, ?_⟩ | refine ⟨_, _, rfl, ?_⟩
 | (with_reducible show (_ = _ /\ ∀ _, _) \/ _; first | refine Or.inl ⟨rfl, fun a ha => ?_⟩ | refine Or.inr ⟨rfl, fun b hb hb' => ?_⟩)
 | (with_reducible show PyData.canLay0 _ = true /\ _; refine And.intro (by first | rfl | assumption | decide +kernel) ?_)
 | (with_reducible show min _ _ <= 60 /\ _; refine And.intro (by first | assumption | (simp [aou, alK]; done)) ?_)
 | refine ⟨rfl, ?_⟩
 | (refine And.intro ?side ?_; (case side => first | omega | exact Int.ediv_nonneg (by omega) (by omega) | exact aon _ (by omega) | exact am2 _ (by omega) | decide | exact ⟨by decide, by decide, by decide⟩ | exact ⟨by omega, by omega⟩ | exact Or.inl ⟨by omega, by omega⟩ | exact Or.inr ⟨by omega, by omega⟩ | (refine alZ (anz (by rfl)) (show _ <= 1000 by decide)) | ((repeat' apply And.intro) <;> first | rfl | omega | decide | assumption) | (simp [aou]))))
theorem yF {b : Bool} {p q : Prop} (h1 : b = true -> p) (h2 : b = false -> q) : if b = true then p else q := by
 cases b with
 | true => rw [if_pos rfl]; exact h1 rfl
 | false => rw [if_neg alC]; exact h2 rfl
def zT (rows : List (List Int)) (wd : Nat) (x y : Int) : Bool := decide (0 <= x /\ x < wd) && decide (0 <= y /\ y < rows.length)
def zv (rows : List (List Int)) (x y : Int) : Int := (rows.getD y.toNat []).getD x.toNat 0
theorem yL {rows : List (List Int)} {wd : Nat} {x y : Int} (h : zT rows wd x y = true) : 0 <= x /\ x < wd /\ 0 <= y /\ y < rows.length := by
 unfold zT at h
 rw [alM] at h
 have h1 := of_decide_eq_true h.1
 have h2 := of_decide_eq_true h.2
 omega
def jv (x y w : Int) : PyData := .tuple [.int x, .int y, .int w]
def px (x : Int) (w : Int) : Int := if w = 0 then x + 1 else x
def py (y : Int) (w : Int) : Int := if w = 0 then y else y + 1
def qe (rows : List (List Int)) (wd : Nat) (x y w : Int) : Bool := decide (w = 0 \/ w = 1) && (zT rows wd x y && zT rows wd (px x w) (py y w))
def yb (rows : List (List Int)) (wd : Nat) (cut x y w : Int) : Bool := qe rows wd x y w && (decide (cut < zv rows x y) != decide (cut < zv rows (px x w) (py y w)))
def abk (rows : List (List Int)) (cut x y w : Int) : Str := if w = 0 then (if cut < zv rows x y then "up" else "down") else (if cut < zv rows x y then "right" else "left")
theorem acd (a b : Int) : al4 (.int a) (.int b) = decide (a = b) := rfl
theorem adm (a b : Bool) : al4 (.bool a) (.bool b) = (a == b) := rfl
section
variable {P : Program} {w : World} {K : alE} {mg : Str -> Option Value} {base : Heap} {k : Nat}
abbrev ahw (K : alE) : Sp := spD K 1 (fun (c : List (List Int) × Nat) xs => xs = [.dat (tab c.1)] /\ Good c.2 c.1) fun c r => r = .tuple [.int c.2, .int c.1.length]
abbrev ae3 (K : alE) : Sp := spD K 3 (fun (c : List (List Int) × Nat × Int × Int) xs => xs = [.dat (tab c.1), .dat (.int c.2.2.1), .dat (.int c.2.2.2)] /\ Good c.2.1 c.1) fun c r => r = .bool (zT c.1 c.2.1 c.2.2.1 c.2.2.2)
theorem akD (F : Def K mg "has_point" jl ["rows", "x", "y"]) (G_size : FnIn P w K mg base k "size" ["rows"] (ahw K)) : FnIn P w K mg base (k + 1) "has_point" ["rows", "x", "y"] (ae3 K) := by
 refine F.ok sc_has_point rfl fun fa cdv A outer s H E hr => ⟨_, (zc (z8 (ze G_size hr rfl (za (pv 0) zb)) (zH (K := K) (n := 2) rfl rfl (zg (zf (i := 3) sc_has_point.nd rfl (Or.inl rfl) (Or.inr rfl)) (zg (zf (i := 4) sc_has_point.nd rfl (Or.inl rfl) (Or.inr rfl)) zF)))) (zh (zu (abB (aaj aa0 agz zd (pv 1) (pv 3)) (adD (aaj aa0 agz zd (pv 2) (pv 4))))))), ?_⟩
 rintro f xs ⟨rows, wd, x, y⟩ hl ⟨rfl, g⟩
 try dsimp only [zW, zi]
 dsimp only at *
 refine zQ (zJ (zp (rows, wd) ?_))
 repeat walk_at "dl"
 rintro _ rfl
 repeat walk_at "dl"
 have fin : ∀ b : Bool, b = zT rows wd x y -> PyData.bool b = PyData.bool (zT rows wd x y) := fun b h => by rw [h]
 refine yF (fun h1 => ?_) fun h1 => ?_
 ·have h1' := of_decide_eq_true h1
  repeat walk_at "dl"
  refine yF (fun h2 => ?_) fun h2 => ?_
  ·have h2' := of_decide_eq_true h2
   repeat walk_at "dl"
   refine yF (fun h3 => ?_) fun h3 => ?_
   ·have h3' := of_decide_eq_true h3
    repeat walk_at "dl"
    refine fin _ ?_
    unfold zT
    dsimp only at h2' ⊢
    rw [decide_eq_true (p := (0 <= x /\ x < (wd : Int))) (by omega), aok]
    exact decide_eq_decide.mpr (by omega)
   ·have h3' := of_decide_eq_false h3
    refine fin _ ?_
    unfold zT
    rw [decide_eq_false (p := (0 <= y /\ y < (rows.length : Int))) (by omega), aoA]
  ·have h2' := of_decide_eq_false h2
   refine fin _ ?_
   unfold zT
   dsimp only at h2'
   rw [decide_eq_false (p := (0 <= x /\ x < (wd : Int))) (by omega), anQ]
 ·have h1' := of_decide_eq_false h1
  refine ⟨_, rfl, ?_⟩
  rw [if_neg alC]
  refine fin _ ?_
  unfold zT
  rw [decide_eq_false (p := (0 <= x /\ x < (wd : Int))) (by omega), anQ]
abbrev ace (K : alE) : Sp := spD K 3 (fun (c : List (List Int) × Nat × Int × Int × Int) xs => xs = [.dat (tab c.1), .dat (.int c.2.2.1), .dat (.tuple [.int c.2.2.2.1, .int c.2.2.2.2])] /\ Good c.2.1 c.1 /\ zT c.1 c.2.1 c.2.2.2.1 c.2.2.2.2 = true) fun c r => r = .bool (decide (c.2.2.1 < zv c.1 c.2.2.2.1 c.2.2.2.2))
theorem qf {rows : List (List Int)} {wd : Nat} {x y : Int} (g : Good wd rows) (h : zT rows wd x y = true) : ∃ r : List Int, atI (rows.map fun q => PyData.list (q.map .int)) y = some (.list (r.map .int)) /\ atI (r.map PyData.int) x = some (.int (zv rows x y)) := by
 obtain ⟨x0, x1, y0, y1⟩ := yL h
 have hy : y.toNat < rows.length := by omega
 have hr := g.row _ (al9 hy)
 have hx : x.toNat < rows[y.toNat].length := by omega
 refine ⟨rows[y.toNat], y6 (F := fun q : List Int => PyData.list (q.map .int)) (by omega) hy, ?_⟩
 rw [y6 (j := x.toNat) (by omega) hx]
 unfold zv
 rw [alF, alF, alB hy, Option.getD_some, alB hx]
 rfl
theorem aiW (F : Def K mg "stands_high" yN ["rows", "cut", "point"]) : FnIn P w K mg base (k + 1) "stands_high" ["rows", "cut", "point"] (ace K) := by
 refine F.ok sc_stands_high rfl fun fa cdv A outer s H E hr => ⟨_, (zc (z8 (pv 2) (zH (K := K) (n := 2) rfl rfl (zg (zf (i := 3) sc_stands_high.nd rfl (Or.inl rfl) (Or.inr rfl)) (zg (zf (i := 4) sc_stands_high.nd rfl (Or.inl rfl) (Or.inr rfl)) zF)))) (zh (zu (qR agA (zN (zx (K := K) rfl) (zN (zx (K := K) rfl) (pv 0) (pv 4) (fun _ _ => rfl)) (pv 3) (fun _ _ => rfl)) (pv 1) (zX _))))), ?_⟩
 rintro f xs ⟨rows, wd, cut, x, y⟩ hl ⟨rfl, g, hi⟩
 try dsimp only [zW, zi]
 dsimp only at *
 obtain ⟨r, h1, h2⟩ := qf g hi
 unfold tab
 repeat walk_at "dl"
 refine ⟨_, h1, ?_⟩
 repeat walk_at "dl"
 refine ⟨_, h2, ?_⟩
 repeat walk_at "dl"
 rfl
abbrev ae4 (K : alE) : Sp := spD K 1 (fun (c : Int × Int × Int) xs => xs = [.dat (jv c.1 c.2.1 c.2.2)]) fun c r => r = .list [.tuple [.int c.1, .int c.2.1], .tuple [.int (px c.1 c.2.2), .int (py c.2.1 c.2.2)]]
theorem akE (F : Def K mg "gate_points" yO ["gate"]) : FnIn P w K mg base (k + 1) "gate_points" ["gate"] (ae4 K) := by
 refine F.ok sc_gate_points rfl fun fa cdv A outer s H E hr => ⟨_, (zc (z8 (pv 0) (zH (K := K) (n := 3) rfl rfl (zg (zf (i := 1) sc_gate_points.nd rfl (Or.inl rfl) (Or.inr rfl)) (zg (zf (i := 2) sc_gate_points.nd rfl (Or.inl rfl) (Or.inr rfl)) (zg (zf (i := 3) sc_gate_points.nd rfl (Or.inl rfl) (Or.inr rfl)) zF))))) (zc (yt (zR (aar (K := K) rfl hr.units) (pv 3) zd (zX _)) (zh (zu (yn (za (zA (za (pv 1) (za (pv 2) zb))) (za (zA (za (zo zI (pv 1) zd) (za (pv 2) zb))) zb))))) zP) (zh (zu (yn (za (zA (za (pv 1) (za (pv 2) zb))) (za (zA (za (pv 1) (za (zo zI (pv 2) zd) zb))) zb))))))), ?_⟩
 rintro f xs ⟨x, y, w⟩ hl rfl
 try dsimp only [zW, zi]
 dsimp only at *
 unfold jv
 repeat walk_at "dl"
 rw [if_neg alC, acd]
 refine yF (fun h => ?_) fun h => ?_
 ·have h' := of_decide_eq_true h
  repeat walk_at "dl"
  unfold px py
  rw [if_pos h', if_pos h']
 ·have h' := of_decide_eq_false h
  repeat walk_at "dl"
  unfold px py
  rw [if_neg h', if_neg h']
abbrev ahx (K : alE) : Sp := spD K 2 (fun (c : List (List Int) × Nat × Int × Int × Int) xs => xs = [.dat (tab c.1), .dat (jv c.2.2.1 c.2.2.2.1 c.2.2.2.2)] /\ Good c.2.1 c.1) fun c r => r = .bool (qe c.1 c.2.1 c.2.2.1 c.2.2.2.1 c.2.2.2.2)
theorem aiX (F : Def K mg "has_gate" jM ["rows", "gate"]) (m_all : mg "all" = none) (G_has_point : FnIn P w K mg base k "has_point" ["rows", "x", "y"] (ae3 K)) (G_gate_points : FnIn P w K mg base k "gate_points" ["gate"] (ae4 K)) : FnIn P w K mg base (k + 1) "has_gate" ["rows", "gate"] (ahx K) := by
 refine F.ok ade rfl fun fa cdv A outer s H E hr => ⟨_, (zc (yt (zR (afL (K := K) rfl) (zN (qo (K := K) rfl) (pv 1) zd (fun _ _ => rfl)) (zA (za zd (za zd zb))) rfl) (zh (zu vJ)) zP) (zh (zu (zB (aa9 (K := K) rfl rfl) rfl m_all apd (za (yp (N := ["x", "y", "rows"]) (own := 2) (fr := [0]) ⟨rfl, by decide +kernel, of_decide_eq_true (by kernel_rfl), of_decide_eq_true (by kernel_rfl), of_decide_eq_true (by kernel_rfl), rfl⟩ rfl (zO (K := K) rfl (ze G_gate_points hr rfl (za (pv 1) zb))) (fun _ _ _ _ => (zH (K := K) (n := 2) rfl rfl (zg (zf (i := 0) (show (["x", "y", "rows"] : List Str).Nodup by decide +kernel) rfl (Or.inl rfl) (Or.inr rfl)) (zg (zf (i := 1) (show (["x", "y", "rows"] : List Str).Nodup by decide +kernel) rfl (Or.inl rfl) (Or.inr rfl)) zF)))) (fun _ _ _ _ => yh) (fun _ _ _ _ => (ze G_has_point hr rfl (za (pv 2) (za (pv 0) (za (pv 1) zb))))) rfl rfl (fun _ => rfl)) zb))))), ?_⟩
 rintro f xs ⟨rows, wd, x, y, w⟩ hl ⟨rfl, g⟩
 try dsimp only [zW, zi]
 dsimp only at *
 refine zQ (aaS (yv (agZ ?_)))
 unfold jv
 repeat walk_at "dl"
 refine ⟨[0, 1], rfl, _, rfl, ?_⟩
 have hc : (([0, 1] : List Int).contains w) = decide (w = 0 \/ w = 1) := by
  rw [Bool.eq_iff_iff]
  simp
 rw [hc]
 by_cases h : w = 0 \/ w = 1
 ·rw [decide_eq_true h, amm, if_neg alC]
  refine jZ (yy (ajs (PEdO.ped (aau (A := fun p : Int × Int => PyData.tuple [.int p.1, .int p.2]) (B := fun p : Int × Int => PyData.bool (zT rows wd p.1 p.2)) [(x, y), (px x w, py y w)] (yi (zp (x, y, w) ?_))))))
  repeat walk_at "dl"
  rintro _ rfl
  refine ⟨_, rfl, rfl, show 2 <= 1000 by decide, ?_, ?_⟩
  ·rintro D p ρ' es hp ho hes
   obtain ⟨u, v, rfl⟩ := ho.two
   refine yE rfl (zr (zj (zr (zj (zZ (ja ?_))))))
   rw [if_pos rfl]
   refine yC hes (zp (rows, wd, p.1, p.2) ?_)
   repeat walk_at "dl"
   rintro _ rfl
   exact ⟨.mk2, rfl⟩
  ·refine ⟨[zT rows wd x y, zT rows wd (px x w) (py y w)], rfl, ?_⟩
   show PyData.bool _ = PyData.bool _
   unfold qe
   rw [decide_eq_true h, aok]
   show PyData.bool (zT rows wd x y && (zT rows wd (px x w) (py y w) && true)) = _
   rw [Bool.and_true]
 ·rw [decide_eq_false h, aoB, if_pos rfl]
  repeat walk_at "dl"
  unfold qe
  rw [decide_eq_false h]
  rfl
abbrev acf (K : alE) : Sp := spD K 3 (fun (c : List (List Int) × Nat × Int × Int × Int × Int) xs => xs = [.dat (tab c.1), .dat (.int c.2.2.1), .dat (jv c.2.2.2.1 c.2.2.2.2.1 c.2.2.2.2.2)] /\ Good c.2.1 c.1) fun c r => r = .bool (yb c.1 c.2.1 c.2.2.1 c.2.2.2.1 c.2.2.2.2.1 c.2.2.2.2.2)
theorem jc {rows : List (List Int)} {wd : Nat} {x y w : Int} (h : qe rows wd x y w = true) : zT rows wd x y = true /\ zT rows wd (px x w) (py y w) = true := by
 unfold qe at h
 rw [alM, alM] at h
 exact h.2
theorem aiY (F : Def K mg "is_open" qr ["rows", "cut", "gate"]) (G_has_gate : FnIn P w K mg base k "has_gate" ["rows", "gate"] (ahx K)) (G_gate_points : FnIn P w K mg base k "gate_points" ["gate"] (ae4 K)) (G_stands_high : FnIn P w K mg base k "stands_high" ["rows", "cut", "point"] (ace K)) : FnIn P w K mg base (k + 1) "is_open" ["rows", "cut", "gate"] (acf K) := by
 refine F.ok sc_is_open rfl fun fa cdv A outer s H E hr => ⟨_, (zc (yt (vu (z3 (K := K) rfl (ze G_has_gate hr rfl (za (pv 0) (za (pv 2) zb))) (fun _ => rfl))) (zh (zu vJ)) zP) (zc (z8 (ze G_gate_points hr rfl (za (pv 2) zb)) (abK (K := K) (n := 2) rfl rfl (zg (zf (i := 3) sc_is_open.nd rfl (Or.inl rfl) (Or.inr rfl)) (zg (zf (i := 4) sc_is_open.nd rfl (Or.inl rfl) (Or.inr rfl)) zF)))) (zh (zu (qR (j9 (K := K) rfl hr.units) (ze G_stands_high hr rfl (za (pv 0) (za (pv 1) (za (pv 3) zb)))) (ze G_stands_high hr rfl (za (pv 0) (za (pv 1) (za (pv 4) zb)))) (zX _)))))), ?_⟩
 rintro f xs ⟨rows, wd, cut, x, y, w⟩ hl ⟨rfl, g⟩
 try dsimp only [zW, zi]
 dsimp only at *
 refine zQ (aaS (aa8 (yV (zp (rows, wd, x, y, w) ?_))))
 repeat walk_at "dl"
 rintro _ rfl
 refine ⟨_, rfl, ?_⟩
 dsimp only
 cases h : qe rows wd x y w with
 | false =>
  rw [aoB, if_pos rfl]
  repeat walk_at "dl"
  unfold yb
  rw [h]
  rfl
 | true =>
  rw [amm, if_neg alC]
  obtain ⟨i1, i2⟩ := jc h
  refine jZ (zQ (zJ (zp (x, y, w) ?_)))
  repeat walk_at "dl"
  rintro _ rfl
  dsimp only
  refine agX rfl (zr (zj (zr (zj (zZ ?_)))))
  refine yy (jU (zp (rows, wd, cut, x, y) ?_))
  repeat walk_at "dl"
  rintro _ rfl
  refine zp (rows, wd, cut, px x w, py y w) ?_
  repeat walk_at "dl"
  rintro _ rfl
  dsimp only
  repeat walk_at "dl"
  show PyData.bool _ = PyData.bool _
  unfold yb
  rw [h, aok, if_pos rfl, adm]
  rfl
end
open PySem PySem.Spec PyProof.Rows L2
theorem vm {n i : Nat} {d : PyData} (h : (qa n)[i]? = some d) : i < n /\ d = .int (i : Int) := by
 unfold qa at h
 rw [alJ] at h
 by_cases hi : i < n
 ·rw [anb hi] at h
  cases h
  exact ⟨hi, rfl⟩
 ·rw [al5 (by rw [amx]; omega)] at h
  cases h
theorem vF (n : Nat) : (qa n).length = n := by unfold qa; simp
def aiZ (x y : Nat) : PyData := .tuple [.int x, .int y]
def jE (t n : Nat) : List PyData := (alY n).flatMap fun x => (alY t).map (aiZ x)
theorem adn (t n : Nat) : jE t (n + 1) = jE t n ++ (alY t).map (aiZ n) := by
 unfold jE
 rw [aor, amw]
 simp
theorem ae5 (t : Nat) : ∀ n, (jE t n).length = t * n
 | 0 => rfl
 | n + 1 => by rw [adn, alR, ae5 t n, alD, amx, Nat.mul_succ]
section
variable {P : Program} {w : World} {K : alE} {mg : Str -> Option Value} {base : Heap} {k : Nat}
abbrev aaF (K : alE) : Sp := spD K 1 (fun (c : List (List Int) × Nat) xs => xs = [.dat (tab c.1)] /\ Good c.2 c.1) fun c r => r = .list (jE c.1.length c.2)
theorem agc (F : Def K mg "points" vg ["rows"]) (m_range : mg "range" = none) (G_size : FnIn P w K mg base k "size" ["rows"] (ahw K)) : FnIn P w K mg base (k + 1) "points" ["rows"] (aaF K) := by
 refine F.ok sc_points rfl fun fa cdv A outer s H E hr => ⟨_, (zc (z8 (ze G_size hr rfl (za (pv 0) zb)) (zH (K := K) (n := 2) rfl rfl (zg (zf (i := 1) sc_points.nd rfl (Or.inl rfl) (Or.inr rfl)) (zg (zf (i := 2) sc_points.nd rfl (Or.inr rfl) (Or.inl rfl)) zF)))) (zh (zu (acC (N := ["x", "y", "tall"]) (own := 2) (fr := [2]) ⟨rfl, by decide +kernel, of_decide_eq_true (by kernel_rfl), of_decide_eq_true (by kernel_rfl), of_decide_eq_true (by kernel_rfl), rfl⟩ rfl (y7 rfl m_range (za (pv 1) zb)) (fun _ _ _ _ => (zf (i := 0) (show (["x", "y", "tall"] : List Str).Nodup by decide +kernel) rfl (Or.inl rfl) (Or.inr rfl))) (fun _ _ _ _ => yh) (fun _ _ _ _ => (y7 rfl m_range (za (pv 2) zb))) (fun _ _ _ _ => (zf (i := 1) (show (["x", "y", "tall"] : List Str).Nodup by decide +kernel) rfl (Or.inl rfl) (Or.inr rfl))) (fun _ _ _ _ => yh) (fun _ _ _ _ => (zA (za (pv 0) (za (pv 1) zb)))) rfl rfl (fun _ => rfl) (fun _ _ _ _ _ => rfl))))), ?_⟩
 rintro f xs ⟨rows, wd⟩ hl ⟨rfl, g⟩
 try dsimp only [zW, zi]
 dsimp only at *
 have g2 := g.h2
 have w2 := g.w2
 refine zQ (zJ (zp (rows, wd) ?_))
 repeat walk_at "dl"
 rintro _ rfl
 refine yE rfl (zr (zj (zr (zj (zZ ?_)))))
 refine yy (PEdO.ped (qb (v3 (zy (zl rfl (ya ⟨_, rfl, by dsimp only; omega, by dsimp only; omega, fun n ρ es => (∃ u v, ρ = [u, v, some (.dat (.int rows.length))]) /\ es = jE rows.length n, ⟨⟨_, _, rfl⟩, rfl⟩, ?_, ?_⟩))))))
 ·rintro D n d ρ' es hd ⟨⟨u, v, rfl⟩, rfl⟩
  obtain ⟨hn, rfl⟩ := vm hd
  have hn' : n < wd := by have : n < ((wd : Int)).toNat := hn; omega
  have l1 : rows.length * n <= 7 * 7 := aoG g2 (by omega)
  refine zj (ja ?_)
  rw [if_pos rfl]
  refine akc (v3 (zy (zl rfl (ya ⟨_, rfl, by omega, by omega, fun m ρ es => (∃ v, ρ = [some (.dat (.int n)), v, some (.dat (.int rows.length))]) /\ es = jE rows.length n ++ (alY m).map (aiZ n), ⟨⟨_, rfl⟩, by simp⟩, ?_, ?_⟩))))
  ·rintro m d ρ2 es2 hd2 ⟨⟨v, rfl⟩, rfl⟩
   obtain ⟨hm, rfl⟩ := vm hd2
   have hm' : m < rows.length := by have : m < ((rows.length : Int)).toNat := hm; omega
   refine zj (ja ?_)
   rw [if_pos rfl]
   refine yC (by rw [alR, ae5, alD, amx]; omega) ?_
   repeat walk_at "dl"
   rw [aor, al6, amR]
   rfl
  ·rintro ρ2 es2 ⟨⟨v, rfl⟩, rfl⟩
   rw [vF, Int.toNat_natCast]
   exact ⟨⟨_, _, rfl⟩, by rw [adn]⟩
 ·rintro ρ' es ⟨_, rfl⟩
  rw [vF, Int.toNat_natCast]
end
open PySem PySem.Spec PyProof.Rows L2
def F2 : PyData -> List PyData
 | .tuple [.int x, .int y] => [jv x y 0, jv x y 1]
 | _ => []
def gD3 (g : Int × Int × Int) : PyData := jv g.1 g.2.1 g.2.2
def opG (rows : List (List Int)) (wd : Nat) (cut : Int) (g : Int × Int × Int) : Bool := yb rows wd cut g.1 g.2.1 g.2.2
def yw (t n : Nat) : List (Int × Int × Int) := (alY n).flatMap fun (x : Nat) => (alY t).flatMap fun (y : Nat) => [((x : Int), (y : Int), (0 : Int)), ((x : Int), (y : Int), (1 : Int))]
theorem ado (t n : Nat) : (jE t n).flatMap F2 = (yw t n).map gD3 := by
 unfold jE yw
 rw [List.flatMap_assoc, aoY]
 congr 1
 funext x
 rw [List.flatMap_map, aoY]
 rfl
theorem ai0 {t n : Nat} {d : PyData} (h : d ∈ jE t n) : ∃ x y : Nat, d = aiZ x y := by
 obtain ⟨x, _, h⟩ := amb.mp h
 obtain ⟨y, _, rfl⟩ := al1.mp h
 exact ⟨x, y, rfl⟩
theorem aaG {α : Type} {F : Nat -> List α} {b : Nat} (h : ∀ n, (F n).length <= b) : ∀ n, ((alY n).flatMap F).length <= b * n
 | 0 => by simp
 | n + 1 => by
  rw [aor, amw, alR]
  have := aaG h n
  have := h n
  simp only [an0, aoZ, amq]
  rw [Nat.mul_succ]
  omega
theorem abl {t n : Nat} (ht : t <= 7) (hn : n <= 7) : (yw t n).length <= 98 := by
 have h := aaG (F := fun (x : Nat) => (alY t).flatMap fun (y : Nat) => [((x : Int), (y : Int), (0 : Int)), ((x : Int), (y : Int), (1 : Int))]) (b := 2 * t) (fun x => aaG (F := fun (y : Nat) => [((x : Int), (y : Int), (0 : Int)), ((x : Int), (y : Int), (1 : Int))]) (b := 2) (fun y => alI 2) t) n
 exact alZ h (aoG (show 2 * t <= 14 by omega) hn)
def akF (rows : List (List Int)) (wd : Nat) (cut : Int) (x y : Nat) : List (Int × Int × Int) := (if yb rows wd cut x y 0 = true then [((x : Int), (y : Int), (0 : Int))] else []) ++ if yb rows wd cut x y 1 = true then [((x : Int), (y : Int), (1 : Int))] else []
def z4 (rows : List (List Int)) (wd : Nat) (cut : Int) : List (Int × Int × Int) := (alY wd).flatMap fun x => (alY rows.length).flatMap fun y => akF rows wd cut x y
theorem agd {α : Type} {F : Nat -> List α} (n : Nat) : (alY (n + 1)).flatMap F = (alY n).flatMap F ++ F n := by
 rw [aor, amw]
 simp
theorem ai1 (rows : List (List Int)) (wd : Nat) (cut : Int) (x y : Nat) : akF rows wd cut x y = [((x : Int), (y : Int), (0 : Int)), ((x : Int), (y : Int), (1 : Int))].filter (opG rows wd cut) := by
 unfold akF opG
 simp only [amv, ao9]
 cases yb rows wd cut x y 0 <;> cases yb rows wd cut x y 1 <;> rfl
theorem qg (rows : List (List Int)) (wd : Nat) (cut : Int) : z4 rows wd cut = (yw rows.length wd).filter (opG rows wd cut) := by
 unfold z4 yw
 rw [apv]
 congr 1
 funext x
 rw [apv]
 congr 1
 funext y
 exact ai1 rows wd cut x y
def gLt (a b : Int × Int × Int) : Prop := a.1 < b.1 \/ (a.1 = b.1 /\ (a.2.1 < b.2.1 \/ (a.2.1 = b.2.1 /\ a.2.2 < b.2.2)))
theorem ae6 {α : Type} {R : α -> α -> Prop} {F : Nat -> List α} (n : Nat) (h1 : ∀ i, i < n -> (F i).Pairwise R) (h2 : ∀ i j, i < j -> j < n -> ∀ a ∈ F i, ∀ b ∈ F j, R a b) : ((alY n).flatMap F).Pairwise R := by
 induction n with
 | zero => simp
 | succ n ih =>
  rw [agd, List.pairwise_append]
  refine ⟨ih (fun i hi => h1 i (by omega)) (fun i j hij hj => h2 i j hij (by omega)), h1 n (by omega), fun a ha b hb => ?_⟩
  obtain ⟨i, hi, ha⟩ := amb.mp ha
  exact h2 i n (al8.mp hi) (by omega) a ha b hb
theorem adp (t n : Nat) : (yw t n).Pairwise gLt := by
 unfold yw
 refine ae6 n (fun x _ => ae6 t (fun y _ => ?_) fun y y' hy _ a ha b hb => ?_) fun x x' hx _ a ha b hb => ?_
 ·simp [gLt]
 ·simp only [alO, amL, or_false] at ha hb
  rcases ha with rfl | rfl <;> rcases hb with rfl | rfl <;> (unfold gLt; dsimp only; omega)
 ·obtain ⟨y, _, ha⟩ := amb.mp ha
  obtain ⟨y', _, hb⟩ := amb.mp hb
  simp only [alO, amL, or_false] at ha hb
  rcases ha with rfl | rfl <;> rcases hb with rfl | rfl <;> (unfold gLt; dsimp only; omega)
theorem abm {rows : List (List Int)} {wd : Nat} {cut : Int} (g : Good wd rows) : (z4 rows wd cut).length <= 98 := by
 rw [qg]
 exact alZ (amD _ _) (abl g.h2 g.w2)
theorem ai2 (rows : List (List Int)) : (tab rows).canLay0 = true /\ (tab rows).depth <= 60 := by
 have intz : ∀ r : List Int, ams (r.map .int) = true /\ alK (r.map .int) = 0 := fun r => by
  induction r with
  | nil => exact ⟨rfl, rfl⟩
  | cons n r ih => exact ⟨ih.1, by show max 0 (alK (r.map .int)) = 0; rw [ih.2]; rfl⟩
 have all : ams (rows.map fun r => PyData.list (r.map .int)) = true /\ alK (rows.map fun r => PyData.list (r.map .int)) <= 1 := by
  induction rows with
  | nil => exact ⟨rfl, ama _⟩
  | cons r rows ih =>
   refine ⟨?_, ?_⟩
   ·show (ams (r.map .int) && ams (rows.map fun r => PyData.list (r.map .int))) = true
    rw [(intz r).1, ih.1]
    rfl
   ·show max (alK (r.map .int) + 1) (alK (rows.map fun r => PyData.list (r.map .int))) <= 1
    rw [(intz r).2]
    exact ao4.mpr ⟨alI _, ih.2⟩
 exact ⟨all.1, alZ (ao0 all.2) (by decide)⟩
open PySem PySem.Spec PyProof.Rows L2
section
variable {P : Program} {w : World} {K : alE} {mg : Str -> Option Value} {base : Heap} {k : Nat}
abbrev ae7 (K : alE) : Sp := spN K 2 (fun (c : List (List Int) × Nat × Int) xs => xs = [.dat (tab c.1), .dat (.int c.2.2)] /\ Good c.2.1 c.1) fun c es => es = ((yw c.1.length c.2.1).filter (opG c.1 c.2.1 c.2.2)).map gD3
theorem ahy (F : Def K mg "gates" aab ["rows", "cut"]) (G_ask_table : FnIn P w K mg base k "ask_table" ["rows"] (adk K)) (G_points : FnIn P w K mg base k "points" ["rows"] (aaF K)) (G_is_open : FnIn P w K mg base k "is_open" ["rows", "cut", "gate"] (acf K)) : FnIn P w K mg base (k + 1) "gates" ["rows", "cut"] (ae7 K) := by
 refine F.okN sc_gates rfl fun fa cdv A outer s H E hr => ⟨_, (zc (yM (ze G_ask_table hr rfl (za (pv 0) zb))) (zc (acD (i := 2) (N := ["x", "y", "way"]) (own := 3) (fr := []) ⟨rfl, by decide +kernel, of_decide_eq_true (by kernel_rfl), of_decide_eq_true (by kernel_rfl), of_decide_eq_true (by kernel_rfl), rfl⟩ rfl sc_gates.nd rfl (Or.inl rfl) (zO (K := K) rfl (ze G_points hr rfl (za (pv 0) zb))) (fun _ _ _ _ => (zH (K := K) (n := 2) rfl rfl (zg (zf (i := 0) (show (["x", "y", "way"] : List Str).Nodup by decide +kernel) rfl (Or.inl rfl) (Or.inr rfl)) (zg (zf (i := 1) (show (["x", "y", "way"] : List Str).Nodup by decide +kernel) rfl (Or.inl rfl) (Or.inr rfl)) zF)))) (fun _ _ _ _ => yh) (fun _ _ _ _ => (qV (K := K) rfl (zA (za zd (za zd zb))))) (fun _ _ _ _ => (zf (i := 2) (show (["x", "y", "way"] : List Str).Nodup by decide +kernel) rfl (Or.inl rfl) (Or.inr rfl))) (fun _ _ _ _ => yh) (fun _ _ _ _ => (zA (za (pv 0) (za (pv 1) (za (pv 2) zb))))) rfl rfl (fun _ => rfl) (fun _ _ _ _ _ => rfl) (Or.inl rfl) rfl) (zh (zu (yp (N := ["gate", "rows", "cut"]) (own := 1) (fr := [0, 1]) ⟨rfl, by decide +kernel, of_decide_eq_true (by kernel_rfl), of_decide_eq_true (by kernel_rfl), of_decide_eq_true (by kernel_rfl), rfl⟩ rfl (zO (K := K) rfl (pv 2)) (fun _ _ _ _ => (zf (i := 0) (show (["gate", "rows", "cut"] : List Str).Nodup by decide +kernel) rfl (Or.inl rfl) (Or.inr rfl))) (fun _ _ _ _ => (vZ (z3 (K := K) rfl (ze G_is_open hr rfl (za (pv 1) (za (pv 2) (za (pv 0) zb)))) (fun _ => rfl)))) (fun _ _ _ _ => (pv 0)) rfl rfl (fun _ => rfl)))))), ?_⟩
 rintro f xs ⟨rows, wd, cut⟩ hl ⟨rfl, g⟩
 try dsimp only [zW, zi]
 dsimp only at *
 have sl := abl g.h2 g.w2
 refine qX (vw (zp (rows, wd) ?_))
 repeat walk_at "dl"
 rintro _ rfl
 refine qX (zJ (PEdO.ped (akd (yi (zp (rows, wd) ?_)))))
 repeat walk_at "dl"
 rintro _ rfl
 refine ⟨_, rfl, F2, by rw [ado, alD]; exact alZ sl (by decide), ?_, ?_⟩
 ·rintro D d ρ' es hd ho hes
  obtain ⟨x, y, rfl⟩ := ai0 hd
  obtain ⟨us, hus, rfl⟩ := ho
  match us, hus with
  | [u1, u2, u3], _ =>
   refine yE rfl (zr (zj (zr (zj (zZ (ja ?_))))))
   rw [if_pos rfl]
   have hes' : es.length + 2 <= 1000 := hes
   refine akc (acJ (jV (zy (yk (zy (yk (ya ⟨_, rfl, by simp, _, rfl, fun m ρ es2 => (∃ v, ρ = [some (.dat (.int x)), some (.dat (.int y)), v]) /\ es2 = es ++ [jv x y 0, jv x y 1].take m, ⟨⟨_, rfl⟩, by simp⟩, ?_, ?_⟩)))))))
   ·rintro m d ρ2 es2 hd2 ⟨⟨v, rfl⟩, rfl⟩
    have hm : (m = 0 /\ d = .int 0) \/ (m = 1 /\ d = .int 1) := by
     match m, hd2 with
     | 0, h => cases h; exact .inl ⟨rfl, rfl⟩
     | 1, h => cases h; exact .inr ⟨rfl, rfl⟩
     | (q + 2), h => cases h
    rcases hm with ⟨rfl, rfl⟩ | ⟨rfl, rfl⟩
    ·refine zj (ja ?_)
     rw [if_pos rfl]
     refine yC (by simp; omega) ?_
     repeat walk_at "dl"
     simp
     rfl
    ·refine zj (ja ?_)
     rw [if_pos rfl]
     refine yC (by simp; omega) ?_
     repeat walk_at "dl"
     simp
     rfl
   ·rintro ρ2 es2 ⟨⟨v, rfl⟩, rfl⟩
    exact ⟨⟨[_, _, _], rfl, rfl⟩, rfl⟩
 ·rw [show List.flatMap F2 (jE (rows, wd).1.length (rows, wd).2) = (yw rows.length wd).map gD3 from ado _ _]
  refine zj (abb (qb (yi (zl rfl ⟨_, rfl, fun n ρ es => (∃ u, ρ = [u, some (.dat (tab rows)), some (.dat (.int cut))]) /\ es = (((yw rows.length wd).take n).filter (opG rows wd cut)).map gD3, ⟨⟨_, rfl⟩, rfl⟩, ?_, ?_⟩))))
  ·rintro D n d ρ' es hd ⟨⟨u, rfl⟩, rfl⟩
   rw [alJ] at hd
   cases hq : (yw rows.length wd)[n]? with
   | none => rw [hq] at hd; cases hd
   | some q =>
    rw [hq] at hd
    cases hd
    have tk : (yw rows.length wd).take (n + 1) = (yw rows.length wd).take n ++ [q] := by
     rw [aoa, hq]
     rfl
    have len : ((((yw rows.length wd).take n).filter (opG rows wd cut)).map gD3).length < 1000 := by
     rw [alD]
     have a1 := amD (opG rows wd cut) ((yw rows.length wd).take n)
     rw [amk] at a1
     omega
    refine zj (yV (zp (rows, wd, cut, q.1, q.2.1, q.2.2) ?_))
    unfold gD3 at *
    repeat walk_at "dl"
    rintro _ rfl
    dsimp only
    refine ⟨_, rfl, ?_⟩
    refine yF (fun h => ?_) fun h => ?_
    ·refine yC len ?_
     repeat walk_at "dl"
     rw [tk, amG, al6, amv, show opG rows wd cut q = true from h, if_pos rfl]
     rfl
    ·refine ⟨⟨_, rfl⟩, ?_⟩
     rw [tk, amG, al6, amv, show opG rows wd cut q = false from h, if_neg alC]
     simp
  ·rintro ρ' es ⟨_, rfl⟩
   rw [alD, amg]
end
open PySem PySem.Spec PyProof.Rows L2
abbrev CC := List (List Int) × Nat × Int × Int × Int
def zL (rows : List (List Int)) (wd : Nat) (x y : Int) : Bool := zT rows wd x y && zT rows wd (x + 1) (y + 1)
def hiB (rows : List (List Int)) (cut x y : Int) : Bool := decide (cut < zv rows x y)
theorem cell_in {rows : List (List Int)} {wd : Nat} {x y : Int} (h : zL rows wd x y = true) : zT rows wd x y = true /\ zT rows wd (x + 1) y = true /\ zT rows wd (x + 1) (y + 1) = true /\ zT rows wd x (y + 1) = true := by
 unfold zL at h
 rw [alM] at h
 obtain ⟨a0, a1, a2, a3⟩ := yL h.1
 obtain ⟨b0, b1, b2, b3⟩ := yL h.2
 refine ⟨h.1, ?_, h.2, ?_⟩ <;> unfold zT <;> rw [decide_eq_true (by omega), decide_eq_true (by omega)] <;> rfl
section
variable {rows : List (List Int)} {wd : Nat} {cut x y : Int}
theorem ae8 (h : zL rows wd x y = true) : yb rows wd cut x y 0 = (hiB rows cut x y != hiB rows cut (x + 1) y) := by
 obtain ⟨a, b, c, d⟩ := cell_in h
 unfold yb qe
 show (decide ((0 : Int) = 0 \/ (0 : Int) = 1) && (zT rows wd x y && zT rows wd (x + 1) y) && _) = _
 rw [a, b]
 rfl
theorem ahz (h : zL rows wd x y = true) : yb rows wd cut x y 1 = (hiB rows cut x y != hiB rows cut x (y + 1)) := by
 obtain ⟨a, b, c, d⟩ := cell_in h
 unfold yb qe
 show (decide ((1 : Int) = 0 \/ (1 : Int) = 1) && (zT rows wd x y && zT rows wd x (y + 1)) && _) = _
 rw [a, d]
 rfl
theorem ae9 (h : zL rows wd x y = true) : yb rows wd cut x (y + 1) 0 = (hiB rows cut x (y + 1) != hiB rows cut (x + 1) (y + 1)) := by
 obtain ⟨a, b, c, d⟩ := cell_in h
 unfold yb qe
 show (decide ((0 : Int) = 0 \/ (0 : Int) = 1) && (zT rows wd x (y + 1) && zT rows wd (x + 1) (y + 1)) && _) = _
 rw [c, d]
 rfl
theorem afa (h : zL rows wd x y = true) : yb rows wd cut (x + 1) y 1 = (hiB rows cut (x + 1) y != hiB rows cut (x + 1) (y + 1)) := by
 obtain ⟨a, b, c, d⟩ := cell_in h
 unfold yb qe
 show (decide ((1 : Int) = 0 \/ (1 : Int) = 1) && (zT rows wd (x + 1) y && zT rows wd (x + 1) (y + 1)) && _) = _
 rw [b, c]
 rfl
end
def cg (x y : Int) : List (Int × Int × Int) := [(x, y, 0), (x, y, 1), (x, y + 1, 0), (x + 1, y, 1)]
def acg (rows : List (List Int)) (wd : Nat) (cut x y : Int) : Bool := (cg x y).all (opG rows wd cut)
def alk (rows : List (List Int)) (x y : Int) : Int := zv rows x y + (zv rows (x + 1) y + (zv rows (x + 1) (y + 1) + (zv rows x (y + 1) + 0)))
def aaX (rows : List (List Int)) (cut x y : Int) : Bool := decide (4 * cut + 2 <= alk rows x y)
def pairD (g h : Int × Int × Int) : PyData := .tuple [gD3 g, gD3 h]
section
variable {P : Program} {w : World} {K : alE} {mg : Str -> Option Value} {base : Heap} {k : Nat}
abbrev aea (K : alE) : Sp := spD K 3 (fun (c : List (List Int) × Nat × Int × Int) xs => xs = [.dat (tab c.1), .dat (.int c.2.2.1), .dat (.int c.2.2.2)] /\ Good c.2.1 c.1) fun c r => r = .bool (zL c.1 c.2.1 c.2.2.1 c.2.2.2)
theorem ai3 (F : Def K mg "has_cell" jL ["rows", "x", "y"]) (G_has_point : FnIn P w K mg base k "has_point" ["rows", "x", "y"] (ae3 K)) : FnIn P w K mg base (k + 1) "has_cell" ["rows", "x", "y"] (aea K) := by
 refine F.ok ac9 rfl fun fa cdv A outer s H E hr => ⟨_, (zh (zu (abB (ze G_has_point hr rfl (za (pv 0) (za (pv 1) (za (pv 2) zb)))) (adD (ze G_has_point hr rfl (za (pv 0) (za (zo zI (pv 1) zd) (za (zo zI (pv 2) zd) zb)))))))), ?_⟩
 rintro f xs ⟨rows, wd, x, y⟩ hl ⟨rfl, g⟩
 try dsimp only [zW, zi]
 dsimp only at *
 refine yy (adO (zp (rows, wd, x, y) ?_))
 repeat walk_at "dl"
 rintro _ rfl
 dsimp only
 refine ⟨_, rfl, ?_⟩
 refine yF (fun h => ?_) fun h => ?_
 ·refine zp (rows, wd, x + 1, y + 1) ?_
  repeat walk_at "dl"
  rintro _ rfl
  dsimp only
  unfold zL
  rw [h, aok]
 ·unfold zL
  rw [h, anQ]
abbrev abn (K : alE) : Sp := spD K 2 (fun (c : Int × Int) xs => xs = [.dat (.int c.1), .dat (.int c.2)]) fun c r => r = .list [.tuple [.int c.1, .int c.2], .tuple [.int (c.1 + 1), .int c.2], .tuple [.int (c.1 + 1), .int (c.2 + 1)], .tuple [.int c.1, .int (c.2 + 1)]]
theorem aeb (F : Def K mg "corners" qq ["x", "y"]) : FnIn P w K mg base (k + 1) "corners" ["x", "y"] (abn K) := by
 refine F.ok ad2 rfl fun fa cdv A outer s H E hr => ⟨_, (zh (zu (yn (za (zA (za (pv 0) (za (pv 1) zb))) (za (zA (za (zo zI (pv 0) zd) (za (pv 1) zb))) (za (zA (za (zo zI (pv 0) zd) (za (zo zI (pv 1) zd) zb))) (za (zA (za (pv 0) (za (zo zI (pv 1) zd) zb))) zb))))))), ?_⟩
 rintro f xs ⟨x, y⟩ hl rfl
 try dsimp only [zW, zi]
 dsimp only at *
 repeat walk_at "dl"
 rfl
abbrev vn (K : alE) : Sp := spD K 1 (fun (c : Int × Int) xs => xs = [.dat (.tuple [.int c.1, .int c.2])]) fun c r => r = .list ((cg c.1 c.2).map gD3)
theorem age (F : Def K mg "cell_gates" yX ["cell"]) : FnIn P w K mg base (k + 1) "cell_gates" ["cell"] (vn K) := by
 refine F.ok sc_cell_gates rfl fun fa cdv A outer s H E hr => ⟨_, (zc (z8 (pv 0) (zH (K := K) (n := 2) rfl rfl (zg (zf (i := 1) sc_cell_gates.nd rfl (Or.inl rfl) (Or.inr rfl)) (zg (zf (i := 2) sc_cell_gates.nd rfl (Or.inl rfl) (Or.inr rfl)) zF)))) (zh (zu (yn (za (zA (za (pv 1) (za (pv 2) (za zd zb)))) (za (zA (za (pv 1) (za (pv 2) (za zd zb)))) (za (zA (za (pv 1) (za (zo zI (pv 2) zd) (za zd zb)))) (za (zA (za (zo zI (pv 1) zd) (za (pv 2) (za zd zb)))) zb)))))))), ?_⟩
 rintro f xs ⟨x, y⟩ hl rfl
 try dsimp only [zW, zi]
 dsimp only at *
 repeat walk_at "dl"
 rfl
abbrev ai4 (c : CC) (xs : List DV) : Prop := xs = [.dat (tab c.1), .dat (.int c.2.2.1), .dat (.tuple [.int c.2.2.2.1, .int c.2.2.2.2])] /\ Good c.2.1 c.1 /\ zL c.1 c.2.1 c.2.2.2.1 c.2.2.2.2 = true
abbrev abo (K : alE) : Sp := spD K 3 ai4 fun c r => r = .bool (acg c.1 c.2.1 c.2.2.1 c.2.2.2.1 c.2.2.2.2)
theorem aec (F : Def K mg "is_crossed" yY ["rows", "cut", "cell"]) (m_all : mg "all" = none) (G_is_open : FnIn P w K mg base k "is_open" ["rows", "cut", "gate"] (acf K)) (G_cell_gates : FnIn P w K mg base k "cell_gates" ["cell"] (vn K)) : FnIn P w K mg base (k + 1) "is_crossed" ["rows", "cut", "cell"] (abo K) := by
 refine F.ok aaV rfl fun fa cdv A outer s H E hr => ⟨_, (zh (zu (zB (aa9 (K := K) rfl rfl) rfl m_all apd (za (yp (N := ["gate", "rows", "cut"]) (own := 1) (fr := [0, 1]) ⟨rfl, by decide +kernel, of_decide_eq_true (by kernel_rfl), of_decide_eq_true (by kernel_rfl), of_decide_eq_true (by kernel_rfl), rfl⟩ rfl (zO (K := K) rfl (ze G_cell_gates hr rfl (za (pv 2) zb))) (fun _ _ _ _ => (zf (i := 0) (show (["gate", "rows", "cut"] : List Str).Nodup by decide +kernel) rfl (Or.inl rfl) (Or.inr rfl))) (fun _ _ _ _ => yh) (fun _ _ _ _ => (ze G_is_open hr rfl (za (pv 1) (za (pv 2) (za (pv 0) zb))))) rfl rfl (fun _ => rfl)) zb)))), ?_⟩
 rintro f xs ⟨rows, wd, cut, x, y⟩ hl ⟨rfl, g, hc⟩
 try dsimp only [zW, zi]
 dsimp only at *
 refine yy (ajs (PEdO.ped (aau (A := gD3) (B := fun q => PyData.bool (opG rows wd cut q)) (cg x y) (yi (zp (x, y) ?_)))))
 repeat walk_at "dl"
 rintro _ rfl
 refine ⟨_, rfl, rfl, show 4 <= 1000 by decide, ?_, ?_⟩
 ·rintro D q ρ' es hq ho hes
  obtain ⟨u, rfl⟩ := ho.one
  refine zj (ja ?_)
  rw [if_pos rfl]
  refine yC hes (zp (rows, wd, cut, q.1, q.2.1, q.2.2) ?_)
  unfold gD3
  repeat walk_at "dl"
  rintro _ rfl
  exact ⟨.mk1, rfl⟩
 ·refine ⟨(cg x y).map (opG rows wd cut), by rw [anY]; rfl, ?_⟩
  show PyData.bool _ = PyData.bool _
  unfold acg
  rw [List.all_map]
  rfl
abbrev ajC (K : alE) : Sp := spD K 3 ai4 fun c r => r = .bool (aaX c.1 c.2.2.1 c.2.2.2.1 c.2.2.2.2)
theorem akG (F : Def K mg "has_high_middle" yo ["rows", "cut", "cell"]) (m_sum : mg "sum" = none) (G_corners : FnIn P w K mg base k "corners" ["x", "y"] (abn K)) : FnIn P w K mg base (k + 1) "has_high_middle" ["rows", "cut", "cell"] (ajC K) := by
 refine F.ok sc_has_high_middle rfl fun fa cdv A outer s H E hr => ⟨_, (zc (z8 (pv 2) (zH (K := K) (n := 2) rfl rfl (zg (zf (i := 3) sc_has_high_middle.nd rfl (Or.inl rfl) (Or.inr rfl)) (zg (zf (i := 4) sc_has_high_middle.nd rfl (Or.inl rfl) (Or.inr rfl)) zF)))) (zh (zu (qR ajn (zB (adS (K := K) rfl rfl) rfl m_sum PyProof.Rows.boot_sum (za (yp (N := ["a", "b", "rows"]) (own := 2) (fr := [0]) ⟨rfl, by decide +kernel, of_decide_eq_true (by kernel_rfl), of_decide_eq_true (by kernel_rfl), of_decide_eq_true (by kernel_rfl), rfl⟩ rfl (zO (K := K) rfl (ze G_corners hr rfl (za (pv 3) (za (pv 4) zb)))) (fun _ _ _ _ => (zH (K := K) (n := 2) rfl rfl (zg (zf (i := 0) (show (["a", "b", "rows"] : List Str).Nodup by decide +kernel) rfl (Or.inl rfl) (Or.inr rfl)) (zg (zf (i := 1) (show (["a", "b", "rows"] : List Str).Nodup by decide +kernel) rfl (Or.inl rfl) (Or.inr rfl)) zF)))) (fun _ _ _ _ => yh) (fun _ _ _ _ => (zN (zx (K := K) rfl) (zN (zx (K := K) rfl) (pv 2) (pv 1) (fun _ _ => rfl)) (pv 0) (fun _ _ => rfl))) rfl rfl (fun _ => rfl)) zb)) (zo zI (zo qG zd (pv 1)) zd) (zX _))))), ?_⟩
 rintro f xs ⟨rows, wd, cut, x, y⟩ hl ⟨rfl, g, hc⟩
 try dsimp only [zW, zi]
 dsimp only at *
 obtain ⟨i1, i2, i3, i4⟩ := cell_in hc
 refine zQ (zJ (zl rfl (yE rfl (zr (zj (zr (zj (zZ ?_))))))))
 refine yy (aew (ak7 (PEdO.ped (aau (A := fun p : Int × Int => PyData.tuple [.int p.1, .int p.2]) (B := fun p : Int × Int => PyData.int (zv rows p.1 p.2)) [(x, y), (x + 1, y), (x + 1, y + 1), (x, y + 1)] (yi (zp (x, y) ?_))))))
 repeat walk_at "dl"
 rintro _ rfl
 refine ⟨_, rfl, rfl, show 4 <= 1000 by decide, ?_, ?_⟩
 ·rintro D p ρ' es hp ho hes
  obtain ⟨u, v, rfl⟩ := ho.two
  have hi : zT rows wd p.1 p.2 = true := by
   simp only [alO, amL, or_false] at hp
   rcases hp with rfl | rfl | rfl | rfl
   ·exact i1
   ·exact i2
   ·exact i3
   ·exact i4
  obtain ⟨r, h1, h2⟩ := qf g hi
  refine yE rfl (zr (zj (zr (zj (zZ (ja ?_))))))
  rw [if_pos rfl]
  refine yC hes ?_
  unfold tab
  repeat walk_at "dl"
  refine ⟨_, h1, ?_⟩
  repeat walk_at "dl"
  refine ⟨_, h2, ?_⟩
  exact ⟨.mk2, rfl⟩
 ·refine ⟨[zv rows x y, zv rows (x + 1) y, zv rows (x + 1) (y + 1), zv rows x (y + 1)], rfl, ?_⟩
  repeat walk_at "dl"
  rfl
end
open PySem PySem.Spec PyProof.Rows L2
def ach (rows : List (List Int)) (cut x y : Int) : List PyData := if (hiB rows cut x y == aaX rows cut x y) = true then [pairD (x, y, 0) (x + 1, y, 1), pairD (x, y, 1) (x, y + 1, 0)] else [pairD (x, y, 0) (x, y, 1), pairD (x, y + 1, 0) (x + 1, y, 1)]
def thr (rows : List (List Int)) (wd : Nat) (cut x y : Int) : List (Int × Int × Int) := (cg x y).filter (opG rows wd cut)
def ahA : List (Int × Int × Int) -> List PyData
 | a :: b :: _ => [pairD a b]
 | _ => []
def afb (rows : List (List Int)) (wd : Nat) (cut x y : Int) : List PyData := if acg rows wd cut x y = true then ach rows cut x y else ahA (thr rows wd cut x y)
theorem ai5 {rows : List (List Int)} {wd : Nat} {cut x y : Int} (h : zL rows wd x y = true) : thr rows wd cut x y = [] \/ ∃ a b r, thr rows wd cut x y = a :: b :: r := by
 have e1 : opG rows wd cut (x, y, 0) = _ := ae8 (cut := cut) h
 have e2 : opG rows wd cut (x, y, 1) = _ := ahz (cut := cut) h
 have e3 : opG rows wd cut (x, y + 1, 0) = _ := ae9 (cut := cut) h
 have e4 : opG rows wd cut (x + 1, y, 1) = _ := afa (cut := cut) h
 unfold thr cg
 simp only [amv, e1, e2, e3, e4, ao9]
 cases hiB rows cut x y <;> cases hiB rows cut (x + 1) y <;> cases hiB rows cut (x + 1) (y + 1) <;> cases hiB rows cut x (y + 1) <;> simp
section
variable {P : Program} {w : World} {K : alE} {mg : Str -> Option Value} {base : Heap} {k : Nat}
abbrev adq (K : alE) : Sp := spN K 3 ai4 fun c es => es = ach c.1 c.2.2.1 c.2.2.2.1 c.2.2.2.2
theorem agf (F : Def K mg "crossed_ties" yI ["rows", "cut", "cell"]) (G_cell_gates : FnIn P w K mg base k "cell_gates" ["cell"] (vn K)) (G_stands_high : FnIn P w K mg base k "stands_high" ["rows", "cut", "point"] (ace K)) (G_has_high_middle : FnIn P w K mg base k "has_high_middle" ["rows", "cut", "cell"] (ajC K)) : FnIn P w K mg base (k + 1) "crossed_ties" ["rows", "cut", "cell"] (adq K) := by
 refine F.okN sc_crossed_ties rfl fun fa cdv A outer s H E hr => ⟨_, (zc (z8 (ze G_cell_gates hr rfl (za (pv 2) zb)) (abK (K := K) (n := 4) rfl rfl (zg (zf (i := 3) sc_crossed_ties.nd rfl (Or.inl rfl) (Or.inr rfl)) (zg (zf (i := 4) sc_crossed_ties.nd rfl (Or.inl rfl) (Or.inr rfl)) (zg (zf (i := 5) sc_crossed_ties.nd rfl (Or.inl rfl) (Or.inr rfl)) (zg (zf (i := 6) sc_crossed_ties.nd rfl (Or.inl rfl) (Or.inr rfl)) zF)))))) (zc (yt (zR (aar (K := K) rfl hr.units) (ze G_stands_high hr rfl (za (pv 0) (za (pv 1) (za (pv 2) zb)))) (ze G_has_high_middle hr rfl (za (pv 0) (za (pv 1) (za (pv 2) zb)))) (zX _)) (zh (zu (yn (za (zA (za (pv 3) (za (pv 6) zb))) (za (zA (za (pv 4) (za (pv 5) zb))) zb))))) zP) (zh (zu (yn (za (zA (za (pv 3) (za (pv 4) zb))) (za (zA (za (pv 5) (za (pv 6) zb))) zb))))))), ?_⟩
 rintro f xs ⟨rows, wd, cut, x, y⟩ hl ⟨rfl, g, hc⟩
 try dsimp only [zW, zi]
 dsimp only at *
 have hi := (cell_in hc).1
 refine qX (zJ (zp (x, y) ?_))
 repeat walk_at "dl"
 rintro _ rfl
 refine agX rfl (zr (zj (zr (zj (zr (zj (zr (zj (zZ ?_)))))))))
 refine ajv (yv (jU (zp (rows, wd, cut, x, y) ?_)))
 repeat walk_at "dl"
 rintro _ rfl
 refine zp (rows, wd, cut, x, y) ?_
 repeat walk_at "dl"
 rintro _ rfl
 dsimp only
 repeat walk_at "dl"
 rw [if_neg alC, adm]
 unfold ach
 refine yF (fun h => ?_) fun h => ?_
 ·rw [if_pos (show (hiB rows cut x y == aaX rows cut x y) = true from h)]
  refine acO ?_
  repeat walk_at "dl"
  rfl
 ·rw [if_neg (show ¬ (hiB rows cut x y == aaX rows cut x y) = true from by rw [show (hiB rows cut x y == aaX rows cut x y) = false from h]; exact alC)]
  refine abb (acO ?_)
  repeat walk_at "dl"
  rfl
abbrev afc (K : alE) : Sp := spN K 3 ai4 fun c es => es = afb c.1 c.2.1 c.2.2.1 c.2.2.2.1 c.2.2.2.2
theorem ahB (F : Def K mg "cell_ties" jo ["rows", "cut", "cell"]) (G_is_crossed : FnIn P w K mg base k "is_crossed" ["rows", "cut", "cell"] (abo K)) (G_crossed_ties : FnIn P w K mg base k "crossed_ties" ["rows", "cut", "cell"] (adq K)) (G_cell_gates : FnIn P w K mg base k "cell_gates" ["cell"] (vn K)) (G_is_open : FnIn P w K mg base k "is_open" ["rows", "cut", "gate"] (acf K)) : FnIn P w K mg base (k + 1) "cell_ties" ["rows", "cut", "cell"] (afc K) := by
 refine F.okN sc_cell_ties rfl fun fa cdv A outer s H E hr => ⟨_, (zc (yt (z3 (K := K) rfl (ze G_is_crossed hr rfl (za (pv 0) (za (pv 1) (za (pv 2) zb)))) (fun _ => rfl)) (zh (zu (ze G_crossed_ties hr rfl (za (pv 0) (za (pv 1) (za (pv 2) zb)))))) zP) (zc (vM (i := 3) (N := ["gate", "rows", "cut"]) (own := 1) (fr := [0, 1]) ⟨rfl, by decide +kernel, of_decide_eq_true (by kernel_rfl), of_decide_eq_true (by kernel_rfl), of_decide_eq_true (by kernel_rfl), rfl⟩ rfl sc_cell_ties.nd rfl (Or.inl rfl) (zO (K := K) rfl (ze G_cell_gates hr rfl (za (pv 2) zb))) (fun _ _ _ _ => (zf (i := 0) (show (["gate", "rows", "cut"] : List Str).Nodup by decide +kernel) rfl (Or.inl rfl) (Or.inr rfl))) (fun _ _ _ _ => (vZ (z3 (K := K) rfl (ze G_is_open hr rfl (za (pv 1) (za (pv 2) (za (pv 0) zb)))) (fun _ => rfl)))) (fun _ _ _ _ => (pv 0)) rfl rfl (fun _ => rfl) (Or.inl rfl) rfl) (zh (zu (qP (z3 (K := K) rfl (pv 3) (fun _ => rfl)) (yn (za (zA (za (zN (zx (K := K) rfl) (pv 3) zd (fun _ _ => rfl)) (za (zN (zx (K := K) rfl) (pv 3) zd (fun _ _ => rfl)) zb))) zb)) (yn zb)))))), ?_⟩
 rintro f xs ⟨rows, wd, cut, x, y⟩ hl ⟨rfl, g, hc⟩
 try dsimp only [zW, zi]
 dsimp only at *
 refine ajv (yV (zp (rows, wd, cut, x, y) ?_))
 repeat walk_at "dl"
 rintro _ rfl
 dsimp only
 refine ⟨_, rfl, ?_⟩
 unfold afb
 refine yF (fun h => ?_) fun h => ?_
 ·rw [if_pos h]
  refine qK (rows, wd, cut, x, y) ?_
  repeat walk_at "dl"
  exact fun es he => he
 ·rw [if_neg (by rw [h]; exact alC)]
  refine qX (zJ (PEdO.ped (qb (yi (zp (x, y) ?_)))))
  repeat walk_at "dl"
  rintro _ rfl
  refine ⟨_, rfl, fun n ρ es => (∃ u, ρ = [u, some (.dat (tab rows)), some (.dat (.int cut))]) /\ es = (((cg x y).take n).filter (opG rows wd cut)).map gD3, ⟨⟨_, rfl⟩, rfl⟩, ?_, ?_⟩
  ·rintro D n d ρ' es hd ⟨⟨u, rfl⟩, rfl⟩
   rw [alJ] at hd
   cases hq : (cg x y)[n]? with
   | none => rw [hq] at hd; cases hd
   | some q =>
    rw [hq] at hd
    cases hd
    have hn : n < (cg x y).length := (alG.mp hq).1
    have n4 : n < 4 := hn
    have tk : (cg x y).take (n + 1) = (cg x y).take n ++ [q] := by
     rw [aoa, hq]
     rfl
    have len : ((((cg x y).take n).filter (opG rows wd cut)).map gD3).length < 1000 := by
     rw [alD]
     have a1 := amD (opG rows wd cut) ((cg x y).take n)
     rw [amk] at a1
     omega
    refine zj (yV (zp (rows, wd, cut, q.1, q.2.1, q.2.2) ?_))
    unfold gD3 at *
    repeat walk_at "dl"
    rintro _ rfl
    dsimp only
    refine ⟨_, rfl, ?_⟩
    refine yF (fun h => ?_) fun h => ?_
    ·refine yC len ?_
     repeat walk_at "dl"
     rw [tk, amG, al6, amv, show opG rows wd cut q = true from h, if_pos rfl]
     rfl
    ·refine ⟨⟨_, rfl⟩, ?_⟩
     rw [tk, amG, al6, amv, show opG rows wd cut q = false from h, if_neg alC]
     simp
  ·rintro ρ' es ⟨_, rfl⟩
   rw [alD, amg]
   rw [show List.filter (opG rows wd cut) (cg (x, y).1 (x, y).2) = thr rows wd cut x y from rfl]
   rcases ai5 (cut := cut) hc with e | ⟨a, b, r, e⟩
   ·rw [e]
    refine zj (abb (ajw (yV (zl rfl ⟨false, rfl, ?_⟩))))
    rw [if_neg alC]
    exact agW rfl
   ·rw [e]
    have h0 : atI ((a :: b :: r).map gD3) 0 = some (gD3 a) := y6 (xs := a :: b :: r) (j := 0) rfl (aot _)
    have h1 : atI ((a :: b :: r).map gD3) 1 = some (gD3 b) := y6 (xs := a :: b :: r) (j := 1) rfl (Nat.succ_lt_succ (aot _))
    refine zj (abb (ajw (yV (zl rfl ⟨true, rfl, ?_⟩))))
    rw [if_pos rfl]
    refine acO ?_
    repeat walk_at "dl"
    refine ⟨_, h0, ?_⟩
    repeat walk_at "dl"
    refine ⟨_, h1, ?_⟩
    repeat walk_at "dl"
    rfl
end
open PySem PySem.Spec PyProof.Rows L2
def opF (A B C D : Bool) (i : Fin 4) : Bool := match i with
 | 0 => A != B
 | 1 => A != D
 | 2 => D != C
 | 3 => B != C
def enF (A B C D : Bool) (i : Fin 4) : Bool := match i with
 | 0 => !A
 | 1 => A
 | 2 => D
 | 3 => !B
def aaH (A B C D M : Bool) : List (Fin 4 × Fin 4) :=
 if (opF A B C D 0 && opF A B C D 1 && opF A B C D 2 && opF A B C D 3) = true then (if (A == M) = true then [(0, 3), (1, 2)] else [(0, 1), (2, 3)]) else
 match ([0, 1, 2, 3] : List (Fin 4)).filter (opF A B C D) with
 | a :: b :: _ => [(a, b)]
 | _ => []
def prt {α : Type} [DecidableEq α] (l : List (α × α)) (g : α) : Option α := l.findSome? fun p => if p.1 = g then some p.2 else if p.2 = g then some p.1 else none
theorem ai6 : ∀ (A B C D M : Bool) (i : Fin 4), opF A B C D i = true -> ∃ j, prt (aaH A B C D M) i = some j /\ j ≠ i /\ opF A B C D j = true /\ prt (aaH A B C D M) j = some i /\ enF A B C D j = !enF A B C D i := by decide
theorem ads : ∀ (A B C D M : Bool), aaH A B C D M = [] \/ (∃ a b, a ≠ b /\ aaH A B C D M = [(a, b)]) \/ ∃ a b c d, a ≠ b /\ a ≠ c /\ a ≠ d /\ b ≠ c /\ b ≠ d /\ c ≠ d /\ aaH A B C D M = [(a, b), (c, d)] := by decide
abbrev Gt := Int × Int × Int
def gt (x y : Int) (i : Fin 4) : Gt := match i with
 | 0 => (x, y, 0)
 | 1 => (x, y, 1)
 | 2 => (x, y + 1, 0)
 | 3 => (x + 1, y, 1)
theorem aci {x y : Int} {i j : Fin 4} (h : gt x y i = gt x y j) : i = j := by
 have h1 : (gt x y i).1 = (gt x y j).1 := by rw [h]
 have h2 : (gt x y i).2.1 = (gt x y j).2.1 := by rw [h]
 have h3 : (gt x y i).2.2 = (gt x y j).2.2 := by rw [h]
 revert h1 h2 h3
 clear h
 match i, j with
 | 0, 0 => intros; rfl
 | 0, 1 => intro _ _ h; simp [gt] at h
 | 0, 2 => intro _ h _; simp [gt] at h; omega
 | 0, 3 => intro _ _ h; simp [gt] at h
 | 1, 0 => intro _ _ h; simp [gt] at h
 | 1, 1 => intros; rfl
 | 1, 2 => intro _ _ h; simp [gt] at h
 | 1, 3 => intro h _ _; simp [gt] at h; omega
 | 2, 0 => intro _ h _; simp [gt] at h; omega
 | 2, 1 => intro _ _ h; simp [gt] at h
 | 2, 2 => intros; rfl
 | 2, 3 => intro _ _ h; simp [gt] at h
 | 3, 0 => intro _ _ h; simp [gt] at h
 | 3, 1 => intro h _ _; simp [gt] at h; omega
 | 3, 2 => intro _ _ h; simp [gt] at h
 | 3, 3 => intros; rfl
theorem afd {α β : Type} [DecidableEq α] [DecidableEq β] {f : α -> β} (inj : ∀ i j, f i = f j -> i = j) (l : List (α × α)) (i : α) : prt (l.map fun p => (f p.1, f p.2)) (f i) = (prt l i).map f := by
 unfold prt
 induction l with
 | nil => rfl
 | cons p l ih =>
  rw [al3, anF, anF]
  have e1 : (f p.1 = f i) ↔ p.1 = i := ⟨inj _ _, fun z => by rw [z]⟩
  have e2 : (f p.2 = f i) ↔ p.2 = i := ⟨inj _ _, fun z => by rw [z]⟩
  by_cases h1 : p.1 = i
  ·rw [if_pos h1, if_pos (e1.mpr h1)]; rfl
  ·rw [if_neg h1, if_neg (fun z => h1 (e1.mp z))]
   by_cases h2 : p.2 = i
   ·rw [if_pos h2, if_pos (e2.mpr h2)]; rfl
   ·rw [if_neg h2, if_neg (fun z => h2 (e2.mp z))]; exact ih
section
variable (rows : List (List Int)) (wd : Nat) (cut : Int)
def t4 (x y : Int) : List (Fin 4 × Fin 4) := aaH (hiB rows cut x y) (hiB rows cut (x + 1) y) (hiB rows cut (x + 1) (y + 1)) (hiB rows cut x (y + 1)) (aaX rows cut x y)
def jF (x y : Int) : List (Gt × Gt) := (t4 rows cut x y).map fun p => (gt x y p.1, gt x y p.2)
def jf (w : Int) (h : Bool) : Int × Int := if w = 0 then (if h = true then (0, -1) else (0, 0)) else (if h = true then (0, 0) else (-1, 0))
def jg (w : Int) (h : Bool) : Int × Int := if w = 0 then (if h = true then (0, 0) else (0, -1)) else (if h = true then (-1, 0) else (0, 0))
def ahC (g : Gt) : Int × Int := (g.1 + (jf g.2.2 (hiB rows cut g.1 g.2.1)).1, g.2.1 + (jf g.2.2 (hiB rows cut g.1 g.2.1)).2)
def bhC (g : Gt) : Int × Int := (g.1 + (jg g.2.2 (hiB rows cut g.1 g.2.1)).1, g.2.1 + (jg g.2.2 (hiB rows cut g.1 g.2.1)).2)
def zV (g : Gt) : Option Gt := if zL rows wd (ahC rows cut g).1 (ahC rows cut g).2 = true then prt (jF rows cut (ahC rows cut g).1 (ahC rows cut g).2) g else none
def yu (g : Gt) : Option Gt := if zL rows wd (bhC rows cut g).1 (bhC rows cut g).2 = true then prt (jF rows cut (bhC rows cut g).1 (bhC rows cut g).2) g else none
end
section
variable {rows : List (List Int)} {wd : Nat} {cut x y : Int}
theorem vG (h : zL rows wd x y = true) (i : Fin 4) : opG rows wd cut (gt x y i) = opF (hiB rows cut x y) (hiB rows cut (x + 1) y) (hiB rows cut (x + 1) (y + 1)) (hiB rows cut x (y + 1)) i := by
 match i with
 | 0 => exact ae8 h
 | 1 => exact ahz h
 | 2 => exact ae9 h
 | 3 => exact afa h
theorem afe (i : Fin 4) : (ahC rows cut (gt x y i) = (x, y) ↔ enF (hiB rows cut x y) (hiB rows cut (x + 1) y) (hiB rows cut (x + 1) (y + 1)) (hiB rows cut x (y + 1)) i = true) /\ (bhC rows cut (gt x y i) = (x, y) ↔ enF (hiB rows cut x y) (hiB rows cut (x + 1) y) (hiB rows cut (x + 1) (y + 1)) (hiB rows cut x (y + 1)) i = false) := by
 unfold ahC bhC
 match i with
 | 0 =>
  show ((x + (jf 0 (hiB rows cut x y)).1, y + (jf 0 (hiB rows cut x y)).2) = (x, y) ↔ (!hiB rows cut x y) = true) /\ ((x + (jg 0 (hiB rows cut x y)).1, y + (jg 0 (hiB rows cut x y)).2) = (x, y) ↔ (!hiB rows cut x y) = false)
  cases hiB rows cut x y <;> simp [jf, jg] <;> omega
 | 1 =>
  show ((x + (jf 1 (hiB rows cut x y)).1, y + (jf 1 (hiB rows cut x y)).2) = (x, y) ↔ hiB rows cut x y = true) /\ ((x + (jg 1 (hiB rows cut x y)).1, y + (jg 1 (hiB rows cut x y)).2) = (x, y) ↔ hiB rows cut x y = false)
  cases hiB rows cut x y <;> simp [jf, jg] <;> omega
 | 2 =>
  show ((x + (jf 0 (hiB rows cut x (y + 1))).1, y + 1 + (jf 0 (hiB rows cut x (y + 1))).2) = (x, y) ↔ hiB rows cut x (y + 1) = true) /\ ((x + (jg 0 (hiB rows cut x (y + 1))).1, y + 1 + (jg 0 (hiB rows cut x (y + 1))).2) = (x, y) ↔ hiB rows cut x (y + 1) = false)
  cases hiB rows cut x (y + 1) <;> simp [jf, jg] <;> omega
 | 3 =>
  show ((x + 1 + (jf 1 (hiB rows cut (x + 1) y)).1, y + (jf 1 (hiB rows cut (x + 1) y)).2) = (x, y) ↔ (!hiB rows cut (x + 1) y) = true) /\ ((x + 1 + (jg 1 (hiB rows cut (x + 1) y)).1, y + (jg 1 (hiB rows cut (x + 1) y)).2) = (x, y) ↔ (!hiB rows cut (x + 1) y) = false)
  cases hiB rows cut (x + 1) y <;> simp [jf, jg] <;> omega
theorem aff (h : zL rows wd x y = true) {i : Fin 4} (o : opG rows wd cut (gt x y i) = true) : ∃ j, prt (jF rows cut x y) (gt x y i) = some (gt x y j) /\ j ≠ i /\ opG rows wd cut (gt x y j) = true /\ prt (jF rows cut x y) (gt x y j) = some (gt x y i) /\
  (ahC rows cut (gt x y i) = (x, y) -> bhC rows cut (gt x y j) = (x, y)) /\ (bhC rows cut (gt x y i) = (x, y) -> ahC rows cut (gt x y j) = (x, y)) := by
 rw [vG h] at o
 obtain ⟨j, h1, h2, h3, h4, h5⟩ := ai6 _ _ _ _ (aaX rows cut x y) i o
 have inj : ∀ i j, gt x y i = gt x y j -> i = j := fun _ _ => aci
 refine ⟨j, ?_, h2, by rw [vG h]; exact h3, ?_, fun z => ?_, fun z => ?_⟩
 ·unfold jF t4
  rw [afd inj, h1]
  rfl
 ·unfold jF t4
  rw [afd inj, h4]
  rfl
 ·rw [(afe j).2, h5, (afe i).1.mp z]
  rfl
 ·rw [(afe j).1, h5, (afe i).2.mp z]
  rfl
theorem ahD (g : Gt) (hw : g.2.2 = 0 \/ g.2.2 = 1) : ∃ i, g = gt (ahC rows cut g).1 (ahC rows cut g).2 i := by
 obtain ⟨x, y, w⟩ := g
 unfold ahC
 dsimp only at hw ⊢
 rcases hw with rfl | rfl
 ·cases hiB rows cut x y
  ·exact ⟨0, by simp [jf, gt]⟩
  ·exact ⟨2, by simp [jf, gt]; omega⟩
 ·cases hiB rows cut x y
  ·exact ⟨3, by simp [jf, gt]; omega⟩
  ·exact ⟨1, by simp [jf, gt]⟩
theorem agg (g : Gt) (hw : g.2.2 = 0 \/ g.2.2 = 1) : ∃ i, g = gt (bhC rows cut g).1 (bhC rows cut g).2 i := by
 obtain ⟨x, y, w⟩ := g
 unfold bhC
 dsimp only at hw ⊢
 rcases hw with rfl | rfl
 ·cases hiB rows cut x y
  ·exact ⟨2, by simp [jg, gt]; omega⟩
  ·exact ⟨0, by simp [jg, gt]⟩
 ·cases hiB rows cut x y
  ·exact ⟨1, by simp [jg, gt]⟩
  ·exact ⟨3, by simp [jg, gt]; omega⟩
theorem vH {g : Gt} (o : opG rows wd cut g = true) : g.2.2 = 0 \/ g.2.2 = 1 := by
 unfold opG yb qe at o
 rw [alM, alM] at o
 exact of_decide_eq_true o.1.1
theorem qu {g : Gt} (o : opG rows wd cut g = true) (h : zL rows wd (ahC rows cut g).1 (ahC rows cut g).2 = true) : ∃ n, zV rows wd cut g = some n /\ n ≠ g /\ opG rows wd cut n = true /\ bhC rows cut n = ahC rows cut g /\ yu rows wd cut n = some g := by
 obtain ⟨i, ei⟩ := ahD (rows := rows) (cut := cut) g (vH o)
 have o' := o
 rw [ei] at o'
 obtain ⟨j, h1, h2, h3, h4, h5, _⟩ := aff h o'
 rw [<- ei] at h1 h4 h5
 have hb := h5 rfl
 refine ⟨gt (ahC rows cut g).1 (ahC rows cut g).2 j, ?_, fun z => h2 (aci (z.trans ei)), h3, hb, ?_⟩
 ·unfold zV
  rw [if_pos h]
  exact h1
 ·unfold yu
  rw [hb, if_pos h]
  exact h4
theorem aae {g : Gt} (o : opG rows wd cut g = true) (h : zL rows wd (bhC rows cut g).1 (bhC rows cut g).2 = true) : ∃ n, yu rows wd cut g = some n /\ n ≠ g /\ opG rows wd cut n = true /\ ahC rows cut n = bhC rows cut g /\ zV rows wd cut n = some g := by
 obtain ⟨i, ei⟩ := agg (rows := rows) (cut := cut) g (vH o)
 have o' := o
 rw [ei] at o'
 obtain ⟨j, h1, h2, h3, h4, _, h5⟩ := aff h o'
 rw [<- ei] at h1 h4 h5
 have hb := h5 rfl
 refine ⟨gt (bhC rows cut g).1 (bhC rows cut g).2 j, ?_, fun z => h2 (aci (z.trans ei)), h3, hb, ?_⟩
 ·unfold yu
  rw [if_pos h]
  exact h1
 ·unfold zV
  rw [hb, if_pos h]
  exact h4
theorem aaI {g g' n : Gt} (o : opG rows wd cut g = true) (o' : opG rows wd cut g' = true) (h : zV rows wd cut g = some n) (h' : zV rows wd cut g' = some n) : g = g' := by
 have c : zL rows wd (ahC rows cut g).1 (ahC rows cut g).2 = true := by
  unfold zV at h
  by_cases z : zL rows wd (ahC rows cut g).1 (ahC rows cut g).2 = true
  ·exact z
  ·rw [if_neg z] at h; cases h
 have c' : zL rows wd (ahC rows cut g').1 (ahC rows cut g').2 = true := by
  unfold zV at h'
  by_cases z : zL rows wd (ahC rows cut g').1 (ahC rows cut g').2 = true
  ·exact z
  ·rw [if_neg z] at h'; cases h'
 obtain ⟨m, a1, _, _, _, a2⟩ := qu o c
 obtain ⟨m', b1, _, _, _, b2⟩ := qu o' c'
 rw [h] at a1
 rw [h'] at b1
 cases a1
 cases b1
 rw [a2] at b2
 exact Option.some.inj b2
theorem vI {g n : Gt} (o : opG rows wd cut g = true) (h : zV rows wd cut g = some n) : opG rows wd cut n = true /\ n ≠ g := by
 have c : zL rows wd (ahC rows cut g).1 (ahC rows cut g).2 = true := by
  unfold zV at h
  by_cases z : zL rows wd (ahC rows cut g).1 (ahC rows cut g).2 = true
  ·exact z
  ·rw [if_neg z] at h; cases h
 obtain ⟨m, a1, a2, a3, _, _⟩ := qu o c
 rw [h] at a1
 cases a1
 exact ⟨a3, a2⟩
end
open PySem PySem.Spec PyProof.Rows L2
section
variable {P : Program} {w : World} {K : alE} {mg : Str -> Option Value} {base : Heap} {k : Nat}
abbrev aed (K : alE) : Sp := spD K 3 (fun (c : List (List Int) × Nat × Int × Int × Int × Int) xs => xs = [.dat (tab c.1), .dat (.int c.2.2.1), .dat (jv c.2.2.2.1 c.2.2.2.2.1 c.2.2.2.2.2)] /\ Good c.2.1 c.1 /\ zT c.1 c.2.1 c.2.2.2.1 c.2.2.2.2.1 = true) fun c r => r = .str (abk c.1 c.2.2.1 c.2.2.2.1 c.2.2.2.2.1 c.2.2.2.2.2)
theorem aee (F : Def K mg "heading" qs ["rows", "cut", "gate"]) (G_stands_high : FnIn P w K mg base k "stands_high" ["rows", "cut", "point"] (ace K)) : FnIn P w K mg base (k + 1) "heading" ["rows", "cut", "gate"] (aed K) := by
 refine F.ok sc_heading rfl fun fa cdv A outer s H E hr => ⟨_, (zc (z8 (pv 2) (zH (K := K) (n := 3) rfl rfl (zg (zf (i := 3) sc_heading.nd rfl (Or.inl rfl) (Or.inr rfl)) (zg (zf (i := 4) sc_heading.nd rfl (Or.inl rfl) (Or.inr rfl)) (zg (zf (i := 5) sc_heading.nd rfl (Or.inl rfl) (Or.inr rfl)) zF))))) (zc (zD (i := 6) sc_heading.nd rfl (Or.inl rfl) (ze G_stands_high hr rfl (za (pv 0) (za (pv 1) (za (zA (za (pv 3) (za (pv 4) zb))) zb))))) (zc (yt (zR (aar (K := K) rfl hr.units) (pv 5) zd (zX _)) (zh (zu (qP (z3 (K := K) rfl (pv 6) (fun _ => rfl)) qE qE))) zP) (zh (zu (qP (z3 (K := K) rfl (pv 6) (fun _ => rfl)) qE qE)))))), ?_⟩
 rintro f xs ⟨rows, wd, cut, x, y, w⟩ hl ⟨rfl, g, hi⟩
 try dsimp only [zW, zi]
 dsimp only at *
 unfold jv
 refine zQ (zJ (zl rfl (yE rfl (zr (zj (zr (zj (zr (zj (zZ ?_))))))))))
 refine zQ (zJ (zp (rows, wd, cut, x, y) ?_))
 repeat walk_at "dl"
 rintro _ rfl
 dsimp only
 repeat walk_at "dl"
 rw [if_neg alC, acd]
 unfold abk
 refine yF (fun h => ?_) fun h => ?_
 ·have h' := of_decide_eq_true h
  rw [if_pos h']
  repeat walk_at "dl"
  refine yF (fun h2 => ?_) fun h2 => ?_
  ·repeat walk_at "dl"
   rw [if_pos (of_decide_eq_true h2)]
  ·repeat walk_at "dl"
   rw [if_neg (of_decide_eq_false h2)]
 ·have h' := of_decide_eq_false h
  rw [if_neg h']
  repeat walk_at "dl"
  refine yF (fun h2 => ?_) fun h2 => ?_
  ·repeat walk_at "dl"
   rw [if_pos (of_decide_eq_true h2)]
  ·repeat walk_at "dl"
   rw [if_neg (of_decide_eq_false h2)]
end
open PySem PySem.Spec PyProof.Rows L2
abbrev akH : List (Str × List Int) := [("down", [0, 0]), ("up", [0, -1]), ("right", [0, 0]), ("left", [-1, 0])]
abbrev ahE : List (Str × List Int) := [("down", [0, -1]), ("up", [0, 0]), ("right", [-1, 0]), ("left", [0, 0])]
theorem akI {rows : List (List Int)} {cut x y w : Int} (hw : w = 0 \/ w = 1) : apl (abk rows cut x y w) akH = some [(jf w (hiB rows cut x y)).1, (jf w (hiB rows cut x y)).2] := by
 unfold abk jf hiB
 rcases hw with rfl | rfl
 ·by_cases h : cut < zv rows x y
  ·rw [if_pos rfl, if_pos h, if_pos rfl, decide_eq_true h, if_pos rfl]; decide +kernel
  ·rw [if_pos rfl, if_neg h, if_pos rfl, decide_eq_false h, if_neg alC]; decide +kernel
 ·have e : ¬ ((1 : Int) = 0) := by decide
  by_cases h : cut < zv rows x y
  ·rw [if_neg e, if_pos h, if_neg e, decide_eq_true h, if_pos rfl]; decide +kernel
  ·rw [if_neg e, if_neg h, if_neg e, decide_eq_false h, if_neg alC]; decide +kernel
theorem akJ {rows : List (List Int)} {cut x y w : Int} (hw : w = 0 \/ w = 1) : apl (abk rows cut x y w) ahE = some [(jg w (hiB rows cut x y)).1, (jg w (hiB rows cut x y)).2] := by
 unfold abk jg hiB
 rcases hw with rfl | rfl
 ·by_cases h : cut < zv rows x y
  ·rw [if_pos rfl, if_pos h, if_pos rfl, decide_eq_true h, if_pos rfl]; decide +kernel
  ·rw [if_pos rfl, if_neg h, if_pos rfl, decide_eq_false h, if_neg alC]; decide +kernel
 ·have e : ¬ ((1 : Int) = 0) := by decide
  by_cases h : cut < zv rows x y
  ·rw [if_neg e, if_pos h, if_neg e, decide_eq_true h, if_pos rfl]; decide +kernel
  ·rw [if_neg e, if_neg h, if_neg e, decide_eq_false h, if_neg alC]; decide +kernel
theorem ahF {rows : List (List Int)} {wd : Nat} {cut : Int} {g : Gt} (o : opG rows wd cut g = true) : zT rows wd g.1 g.2.1 = true := by
 unfold opG yb qe at o
 rw [alM, alM, alM] at o
 exact o.1.2.1
section
variable {P : Program} {w : World} {K : alE} {mg : Str -> Option Value} {base : Heap} {k : Nat}
abbrev GO := List (List Int) × Nat × Int × Gt
abbrev agh (c : GO) (xs : List DV) : Prop := xs = [.dat (tab c.1), .dat (.int c.2.2.1), .dat (gD3 c.2.2.2)] /\ Good c.2.1 c.1 /\ opG c.1 c.2.1 c.2.2.1 c.2.2.2 = true
abbrev adt (K : alE) : Sp := spD K 3 agh fun c r => r = .tuple [.int (ahC c.1 c.2.2.1 c.2.2.2).1, .int (ahC c.1 c.2.2.1 c.2.2.2).2]
theorem agi {C_AHEAD : Addr} (F : Def K mg "cell_ahead" yZ ["rows", "cut", "gate"]) (m_AHEAD : mg "AHEAD" = some (.ref C_AHEAD)) (tab_AHEAD : af0 K C_AHEAD akH = true) (G_heading : FnIn P w K mg base k "heading" ["rows", "cut", "gate"] (aed K)) : FnIn P w K mg base (k + 1) "cell_ahead" ["rows", "cut", "gate"] (adt K) := by
 refine F.ok sc_cell_ahead rfl fun fa cdv A outer s H E hr => ⟨_, (zc (z8 (aho (K := K) rfl rfl m_AHEAD tab_AHEAD (ze G_heading hr rfl (za (pv 0) (za (pv 1) (za (pv 2) zb)))) (fun _ _ => rfl)) (zH (K := K) (n := 2) rfl rfl (zg (zf (i := 3) sc_cell_ahead.nd rfl (Or.inl rfl) (Or.inr rfl)) (zg (zf (i := 4) sc_cell_ahead.nd rfl (Or.inl rfl) (Or.inr rfl)) zF)))) (zh (zu (zA (za (zo zI (zN (qo (K := K) rfl) (pv 2) zd (fun _ _ => rfl)) (pv 3)) (za (zo zI (zN (qo (K := K) rfl) (pv 2) zd (fun _ _ => rfl)) (pv 4)) zb)))))), ?_⟩
 rintro f xs ⟨rows, wd, cut, x, y, w⟩ hl ⟨rfl, g, o⟩
 try dsimp only [zW, zi]
 dsimp only at *
 have hw := vH o
 have hin := ahF o
 refine zQ (zJ (ajy (zp (rows, wd, cut, x, y, w) ?_)))
 unfold gD3 at *
 repeat walk_at "dl"
 rintro _ rfl
 refine ⟨_, _, rfl, akI hw, ?_⟩
 refine yE rfl (zr (zj (zr (zj (zZ ?_)))))
 repeat walk_at "dl"
 rfl
abbrev afg (K : alE) : Sp := spD K 3 agh fun c r => r = .bool (!zL c.1 c.2.1 (bhC c.1 c.2.2.1 c.2.2.2).1 (bhC c.1 c.2.2.1 c.2.2.2).2)
theorem ahG {C_BEHIND : Addr} (F : Def K mg "comes_in" jN ["rows", "cut", "gate"]) (m_BEHIND : mg "BEHIND" = some (.ref C_BEHIND)) (tab_BEHIND : af0 K C_BEHIND ahE = true) (G_heading : FnIn P w K mg base k "heading" ["rows", "cut", "gate"] (aed K)) (G_has_cell : FnIn P w K mg base k "has_cell" ["rows", "x", "y"] (aea K)) : FnIn P w K mg base (k + 1) "comes_in" ["rows", "cut", "gate"] (afg K) := by
 refine F.ok sc_comes_in rfl fun fa cdv A outer s H E hr => ⟨_, (zc (z8 (aho (K := K) rfl rfl m_BEHIND tab_BEHIND (ze G_heading hr rfl (za (pv 0) (za (pv 1) (za (pv 2) zb)))) (fun _ _ => rfl)) (zH (K := K) (n := 2) rfl rfl (zg (zf (i := 3) sc_comes_in.nd rfl (Or.inl rfl) (Or.inr rfl)) (zg (zf (i := 4) sc_comes_in.nd rfl (Or.inl rfl) (Or.inr rfl)) zF)))) (zh (zu (ajO (ze G_has_cell hr rfl (za (pv 0) (za (zo zI (zN (qo (K := K) rfl) (pv 2) zd (fun _ _ => rfl)) (pv 3)) (za (zo zI (zN (qo (K := K) rfl) (pv 2) zd (fun _ _ => rfl)) (pv 4)) zb)))))))), ?_⟩
 rintro f xs ⟨rows, wd, cut, x, y, w⟩ hl ⟨rfl, g, o⟩
 try dsimp only [zW, zi]
 dsimp only at *
 have hw := vH o
 have hin := ahF o
 refine zQ (zJ (ajy (zp (rows, wd, cut, x, y, w) ?_)))
 unfold gD3 at *
 repeat walk_at "dl"
 rintro _ rfl
 refine ⟨_, _, rfl, akJ hw, ?_⟩
 refine yE rfl (zr (zj (zr (zj (zZ ?_)))))
 repeat walk_at "dl"
 refine zp (rows, wd, (bhC rows cut (x, y, w)).1, (bhC rows cut (x, y, w)).2) ?_
 repeat walk_at "dl"
 rintro _ rfl
 exact ⟨_, rfl, rfl⟩
noncomputable def qD : List (Gt × Gt) -> List (PyData × PyData) -> List (PyData × PyData)
 | [], kvs => kvs
 | p :: l, kvs => qD l (dput (gD3 p.2) (gD3 p.1) (dput (gD3 p.1) (gD3 p.2) kvs))
theorem aef (l : List (Gt × Gt)) (p : Gt × Gt) : ∀ kvs, qD (l ++ [p]) kvs = dput (gD3 p.2) (gD3 p.1) (dput (gD3 p.1) (gD3 p.2) (qD l kvs)) := by
 induction l with
 | nil => intro kvs; rfl
 | cons q l ih => intro kvs; exact ih _
theorem aaJ (a b : PyData) (kvs : List (PyData × PyData)) : (dput a b kvs).length <= kvs.length + 1 := by
 unfold dput
 split
 ·rw [alD]; omega
 ·rw [alR]; exact alI _
theorem agj (l : List (Gt × Gt)) : ∀ kvs, (qD l kvs).length <= kvs.length + 2 * l.length := by
 induction l with
 | nil => intro kvs; exact alI _
 | cons q l ih =>
  intro kvs
  have h1 := ih (dput (gD3 q.2) (gD3 q.1) (dput (gD3 q.1) (gD3 q.2) kvs))
  have h2 := aaJ (gD3 q.2) (gD3 q.1) (dput (gD3 q.1) (gD3 q.2) kvs)
  have h3 := aaJ (gD3 q.1) (gD3 q.2) kvs
  show (qD l _).length <= _
  rw [alV]
  omega
theorem acj {a b : Gt} (h : gD3 a = gD3 b) : a = b := by
 obtain ⟨x, y, w⟩ := a
 obtain ⟨x', y', w'⟩ := b
 unfold gD3 jv at h
 simp at h
 simp [h]
theorem ahH {rows : List (List Int)} {wd : Nat} {cut x y : Int} (h : zL rows wd x y = true) : afb rows wd cut x y = (jF rows cut x y).map fun p => pairD p.1 p.2 := by
 have e0 : opG rows wd cut (x, y, 0) = _ := vG (cut := cut) h 0
 have e1 : opG rows wd cut (x, y, 1) = _ := vG (cut := cut) h 1
 have e2 : opG rows wd cut (x, y + 1, 0) = _ := vG (cut := cut) h 2
 have e3 : opG rows wd cut (x + 1, y, 1) = _ := vG (cut := cut) h 3
 unfold afb jF t4 acg ach thr cg aaH
 simp only [apw, List.all_nil, amv, ao9, e0, e1, e2, e3, Bool.and_true]
 generalize aaX rows cut x y = M
 generalize hiB rows cut x y = A
 generalize hiB rows cut (x + 1) y = B
 generalize hiB rows cut (x + 1) (y + 1) = C
 generalize hiB rows cut x (y + 1) = D
 cases A <;> cases B <;> cases C <;> cases D <;> cases M <;> rfl
theorem ahI {rows : List (List Int)} {cut x y : Int} {g n : Gt} (h : prt (jF rows cut x y) g = some n) : ve (gD3 g) (qD (jF rows cut x y) []) = some (gD3 n) := by
 have key : ∀ a b : Gt, a ≠ b -> gD3 a ≠ gD3 b := fun a b ne z => ne (acj z)
 have inj : ∀ i j : Fin 4, i ≠ j -> gt x y i ≠ gt x y j := fun i j ne z => ne (aci z)
 unfold jF t4 at h ⊢
 rcases ads (hiB rows cut x y) (hiB rows cut (x + 1) y) (hiB rows cut (x + 1) (y + 1)) (hiB rows cut x (y + 1)) (aaX rows cut x y) with e | ⟨a, b, n1, e⟩ | ⟨a, b, c, d, n1, n2, n3, n4, n5, n6, e⟩
 ·rw [e] at h; cases h
 ·rw [e] at h ⊢
  have k1 := key _ _ (inj a b n1)
  have k1' := amN k1
  simp only [al3, anx, qD] at h ⊢
  unfold prt at h
  simp only [anF, List.findSome?_nil] at h
  by_cases c1 : gt x y a = g
  ·rw [if_pos c1] at h
   cases h
   simp [dput, ve, k1, k1', <- c1]
  ·rw [if_neg c1] at h
   by_cases c2 : gt x y b = g
   ·rw [if_pos c2] at h
    cases h
    simp [dput, ve, k1, k1', <- c2]
   ·rw [if_neg c2] at h; cases h
 ·rw [e] at h ⊢
  have k1 := key _ _ (inj a b n1)
  have k2 := key _ _ (inj a c n2)
  have k3 := key _ _ (inj a d n3)
  have k4 := key _ _ (inj b c n4)
  have k5 := key _ _ (inj b d n5)
  have k6 := key _ _ (inj c d n6)
  have j1 := amN k1
  have j2 := amN k2
  have j3 := amN k3
  have j4 := amN k4
  have j5 := amN k5
  have j6 := amN k6
  simp only [al3, anx, qD] at h ⊢
  unfold prt at h
  simp only [anF, List.findSome?_nil] at h
  by_cases c1 : gt x y a = g
  ·rw [if_pos c1] at h
   cases h
   simp [dput, ve, k1, k2, k3, k4, k5, k6, j1, j2, j3, j4, j5, j6, <- c1]
  ·rw [if_neg c1] at h
   by_cases c2 : gt x y b = g
   ·rw [if_pos c2] at h
    cases h
    simp [dput, ve, k1, k2, k3, k4, k5, k6, j1, j2, j3, j4, j5, j6, <- c2]
   ·rw [if_neg c2] at h
    by_cases c3 : gt x y c = g
    ·rw [if_pos c3] at h
     cases h
     simp [dput, ve, k1, k2, k3, k4, k5, k6, j1, j2, j3, j4, j5, j6, <- c3]
    ·rw [if_neg c3] at h
     by_cases c4 : gt x y d = g
     ·rw [if_pos c4] at h
      cases h
      simp [dput, ve, k1, k2, k3, k4, k5, k6, j1, j2, j3, j4, j5, j6, <- c4]
     ·rw [if_neg c4] at h; cases h
def ack : Option Gt -> PyData
 | none => .none
 | some g => gD3 g
abbrev ahJ (K : alE) : Sp := spD K 3 agh fun c r => r = ack (zV c.1 c.2.1 c.2.2.1 c.2.2.2)
theorem qh (g : Gt) : afX (gD3 g) := ⟨⟨rfl, aoh rfl⟩, _, rfl⟩
theorem ai7 (F : Def K mg "gate_ahead" y3 ["rows", "cut", "gate"]) (G_cell_ahead : FnIn P w K mg base k "cell_ahead" ["rows", "cut", "gate"] (adt K)) (G_has_cell : FnIn P w K mg base k "has_cell" ["rows", "x", "y"] (aea K)) (G_cell_ties : FnIn P w K mg base k "cell_ties" ["rows", "cut", "cell"] (afc K)) :
  FnIn P w K mg base (k + 1) "gate_ahead" ["rows", "cut", "gate"] (ahJ K) := by
 refine F.ok sc_gate_ahead rfl fun fa cdv A outer s H E hr => ⟨_, (zc (z8 (ze G_cell_ahead hr rfl (za (pv 0) (za (pv 1) (za (pv 2) zb)))) (zH (K := K) (n := 2) rfl rfl (zg (zf (i := 3) sc_gate_ahead.nd rfl (Or.inl rfl) (Or.inr rfl)) (zg (zf (i := 4) sc_gate_ahead.nd rfl (Or.inl rfl) (Or.inr rfl)) zF)))) (zc (yt (vu (z3 (K := K) rfl (ze G_has_cell hr rfl (za (pv 0) (za (pv 3) (za (pv 4) zb)))) (fun _ => rfl))) (zh (zu abx)) zP) (zc (zD (i := 5) sc_gate_ahead.nd rfl (Or.inl rfl) (afZ (w := w) rfl)) (zc (yR aml rfl (zO (K := K) rfl (ze G_cell_ties hr rfl (za (pv 0) (za (pv 1) (za (zA (za (pv 3) (za (pv 4) zb))) zb))))) (zH (K := K) (n := 2) rfl rfl (zg (zf (i := 6) sc_gate_ahead.nd rfl (Or.inl rfl) (Or.inr rfl)) (zg (zf (i := 7) sc_gate_ahead.nd rfl (Or.inl rfl) (Or.inr rfl)) zF))) (zc (z8 (pv 7) (abC (pv 5) (pv 6) (ac5 (w := w) (K := K) rfl rfl hr.units))) (zh (z8 (pv 6) (abC (pv 5) (pv 7) (ac5 (w := w) (K := K) rfl rfl hr.units)))))) (zh (zu (zN (aiJ (w := w) (K := K) rfl rfl hr.units) (pv 5) (pv 2) (fun _ _ => rfl)))))))), ?_⟩
 rintro f xs ⟨rows, wd, cut, g⟩ hl ⟨rfl, gd, o⟩
 try dsimp only [zW, zi]
 dsimp only at *
 refine zQ (zJ (zp (rows, wd, cut, g) ?_))
 repeat walk_at "dl"
 rintro _ rfl
 dsimp only
 refine yE rfl (zr (zj (zr (zj (zZ ?_)))))
 refine zQ (aaS (aa8 (yV (zp (rows, wd, (ahC rows cut g).1, (ahC rows cut g).2) ?_))))
 repeat walk_at "dl"
 rintro _ rfl
 refine ⟨_, rfl, ?_⟩
 dsimp only
 refine yF (fun h => ?_) fun h => ?_
 ·have hc : zL rows wd (ahC rows cut g).1 (ahC rows cut g).2 = false := by simpa using h
  repeat walk_at "dl"
  unfold zV
  rw [hc, if_neg alC]
  rfl
 ·have hc : zL rows wd (ahC rows cut g).1 (ahC rows cut g).2 = true := by simpa using h
  obtain ⟨n, hn, _⟩ := qu o hc
  have hp : prt (jF rows cut (ahC rows cut g).1 (ahC rows cut g).2) g = some n := by
   unfold zV at hn
   rw [if_pos hc] at hn
   exact hn
  have tl : (jF rows cut (ahC rows cut g).1 (ahC rows cut g).2).length <= 2 := by
   unfold jF t4
   rw [alD]
   rcases ads (hiB rows cut (ahC rows cut g).1 (ahC rows cut g).2) (hiB rows cut ((ahC rows cut g).1 + 1) (ahC rows cut g).2) (hiB rows cut ((ahC rows cut g).1 + 1) ((ahC rows cut g).2 + 1)) (hiB rows cut (ahC rows cut g).1 ((ahC rows cut g).2 + 1)) (aaX rows cut (ahC rows cut g).1 (ahC rows cut g).2) with e | ⟨a, b, n1, e⟩ | ⟨a, b, c, d, n1, n2, n3, n4, n5, n6, e⟩ <;> rw [e] <;> simp
  refine jZ (aaB (w := w) (ac3 (aku ⟨show 5 < 8 by decide, fun D => ?_⟩)))
  refine jC (abh (yi (PEdO.ped (qK (rows, wd, cut, (ahC rows cut g).1, (ahC rows cut g).2) ?_))))
  repeat walk_at "dl"
  rintro _ rfl
  dsimp only
  rw [ahH hc]
  refine ⟨_, rfl, fun i ρ cs => (∃ u v, ρ = [some (.dat (tab rows)), some (.dat (.int cut)), some (.dat (gD3 g)), some (.dat (.int (ahC rows cut g).1)), some (.dat (.int (ahC rows cut g).2)), some (.own (f.M.length + 0)), u, v]) /\ cs = [.dic (qD ((jF rows cut (ahC rows cut g).1 (ahC rows cut g).2).take i) [])], ⟨⟨_, _, rfl⟩, rfl⟩, ?_, ?_⟩
  ·rintro i d _ _ hd ⟨⟨u, v, rfl⟩, rfl⟩
   rw [alJ] at hd
   cases hq : (jF rows cut (ahC rows cut g).1 (ahC rows cut g).2)[i]? with
   | none => rw [hq] at hd; cases hd
   | some q =>
    rw [hq] at hd
    cases hd
    have tk : (jF rows cut (ahC rows cut g).1 (ahC rows cut g).2).take (i + 1) = (jF rows cut (ahC rows cut g).1 (ahC rows cut g).2).take i ++ [q] := by
     rw [aoa, hq]
     rfl
    have hl := agj ((jF rows cut (ahC rows cut g).1 (ahC rows cut g).2).take i) []
    rw [amk] at hl
    simp only [am7] at hl
    refine yE rfl (zr (zj (zr (zj (zZ ?_)))))
    refine jC (ajx (i := 5) (j := 0) rfl rfl (by omega) ?_)
    repeat walk_at "dl"
    refine ⟨qh _, ?_⟩
    have hl2 := aaJ (gD3 q.1) (gD3 q.2) (qD ((jF rows cut (ahC rows cut g).1 (ahC rows cut g).2).take i) [])
    refine ajx (i := 5) (j := 0) rfl rfl (by omega) ?_
    repeat walk_at "dl"
    refine ⟨qh _, ⟨_, _, rfl⟩, ?_⟩
    rw [tk, aef]
    rfl
  ·rintro _ _ ⟨⟨u, v, rfl⟩, rfl⟩
   rw [alD, amg]
   refine ale (ald (i := 5) (j := 0) rfl rfl (ac1 (zl rfl ⟨qh _, _, ahI hp, ?_⟩)))
   show gD3 n = ack (zV rows wd cut g)
   rw [hn]
   rfl
end
open PySem PySem.Spec PyProof.Rows L2
theorem afh {α : Type} [DecidableEq α] : ∀ (l m : List α), l.Nodup -> (∀ x ∈ l, x ∈ m) -> m.length <= l.length -> ∀ x ∈ m, x ∈ l
 | [], m, _, _, hl, x, hx => by
  have : m = [] := List.length_eq_zero_iff.mp (Nat.le_zero.mp hl)
  rw [this] at hx
  exact hx
 | a :: l, m, nd, sub, hl, x, hx => by
  have ha := sub a (alL ..)
  have hn := amF.mp nd
  have le := aoU ha
  rw [alV] at hl
  by_cases e : x = a
  ·rw [e]; exact alL ..
  ·refine alH _ (afh l (m.erase a) hn.2 (fun y hy => ?_) (by omega) x ((aol e).mpr hx))
   exact (aol (fun (z : y = a) => hn.1 (z ▸ hy))).mpr (sub y (alH _ hy))
theorem len_sub {α : Type} [DecidableEq α] : ∀ (l m : List α), l.Nodup -> (∀ x ∈ l, x ∈ m) -> l.length <= m.length
 | [], m, _, _ => ama _
 | a :: l, m, nd, sub => by
  have ha := sub a (alL ..)
  have hn := amF.mp nd
  have le := aoU ha
  have hp : 0 < m.length := ao5 ha
  have := len_sub l (m.erase a) hn.2 (fun y hy => (aol (fun (z : y = a) => hn.1 (z ▸ hy))).mpr (sub y (alH _ hy)))
  rw [alV]
  omega
theorem vf {α β : Type} {f : α -> β} {l1 l2 : List β} (h : l1.Perm l2) : ∀ ts : List α, l2 = ts.map f -> ∃ us : List α, us.Perm ts /\ l1 = us.map f := by
 induction h with
 | nil => intro ts e; exact ⟨ts, .refl _, e⟩
 | cons x _ ih =>
  intro ts e
  cases ts with
  | nil => cases e
  | cons t ts =>
   rw [al3] at e
   injection e with e1 e2
   obtain ⟨us, p, q⟩ := ih ts e2
   exact ⟨t :: us, .cons t p, by rw [al3, <- q, e1]⟩
 | swap x y l =>
  intro ts e
  match ts, e with
  | [], e => cases e
  | [_], e => cases e
  | a :: b :: ts, e =>
   simp only [al3] at e
   injection e with e1 e2
   injection e2 with e2 e3
   exact ⟨b :: a :: ts, .swap a b ts, by rw [al3, al3, e1, e2, e3]⟩
 | trans _ _ ih1 ih2 =>
  intro ts e
  obtain ⟨us, p, q⟩ := ih2 ts e
  obtain ⟨vs, p2, q2⟩ := ih1 us q
  exact ⟨vs, p2.trans p, q2⟩
section
variable (rows : List (List Int)) (wd : Nat) (cut : Int)
structure LineOk (ring : Bool) (l : List Gt) : Prop where
 op : ∀ g ∈ l, opG rows wd cut g = true
 nd : l.Nodup
 ch : ∀ (i : Nat) a b, l[i]? = some a -> l[i + 1]? = some b -> zV rows wd cut a = some b
 ne : l ≠ []
 last : ∀ g, l.getLast? = some g -> zV rows wd cut g = if ring = true then l.head? else none
structure WalkOk (s : Gt) (l : List Gt) : Prop where
 op : ∀ g ∈ l, opG rows wd cut g = true
 nd : l.Nodup
 ch : ∀ (i : Nat) a b, l[i]? = some a -> l[i + 1]? = some b -> zV rows wd cut a = some b
 hd : l.head? = some s
end
section
variable {rows : List (List Int)} {wd : Nat} {cut : Int}
theorem agk {t n : Nat} {x y w : Int} (hx : 0 <= x /\ x < n) (hy : 0 <= y /\ y < t) (hw : w = 0 \/ w = 1) : (x, y, w) ∈ yw t n := by
 obtain ⟨a, rfl⟩ := anh hx.1
 obtain ⟨b, rfl⟩ := anh hy.1
 refine amb.mpr ⟨a, al8.mpr (by omega), amb.mpr ⟨b, al8.mpr (by omega), ?_⟩⟩
 rcases hw with rfl | rfl
 ·exact alL ..
 ·exact alH _ (alL ..)
theorem ai8 {g : Gt} (o : opG rows wd cut g = true) : zT rows wd g.1 g.2.1 = true := by
 unfold opG yb qe at o
 rw [alM, alM, alM] at o
 exact o.1.2.1
theorem mem_gates {g : Gt} : g ∈ z4 rows wd cut ↔ opG rows wd cut g = true := by
 rw [qg, amE]
 refine ⟨fun h => h.2, fun o => ⟨?_, o⟩⟩
 obtain ⟨x, y, w⟩ := g
 have hw := vH o
 obtain ⟨a, b, c, d⟩ := yL (ai8 o)
 exact agk ⟨a, b⟩ ⟨c, d⟩ hw
theorem gates_nd : (z4 rows wd cut).Nodup := by
 rw [qg]
 refine ((adp _ _).filter _).imp fun {a b} h e => ?_
 subst e
 unfold gLt at h
 omega
theorem qi {l : List Gt} (gd : Good wd rows) (o : ∀ g ∈ l, opG rows wd cut g = true) (nd : l.Nodup) : l.length <= 98 :=
 alZ (len_sub l (z4 rows wd cut) nd fun x hx => mem_gates.mpr (o x hx)) (abm gd)
theorem ahK {s : Gt} (o : opG rows wd cut s = true) : WalkOk rows wd cut s [s] :=
 ⟨fun g hg => by rw [al7.mp hg]; exact o, amF.mpr ⟨amL, anv⟩, fun i a b _ h => (nomatch h), rfl⟩
theorem agl {s n g : Gt} {l : List Gt} (W : WalkOk rows wd cut s l) (hl : l.getLast? = some g) (hn : zV rows wd cut g = some n) (ne : n ≠ s) : WalkOk rows wd cut s (l ++ [n]) := by
 have hg : g ∈ l := apo hl
 have hli : l[l.length - 1]? = some g := by rw [<- am6]; exact hl
 have pos : 0 < l.length := ao5 hg
 have hnew : n ∉ l := fun hm => by
  obtain ⟨i, hi⟩ := amf hm
  match i, hi with
  | 0, hi =>
   have := W.hd
   rw [amu, hi] at this
   exact ne (Option.some.inj this)
  | i + 1, hi =>
   obtain ⟨hlt, _⟩ := alG.mp hi
   have hi' : l[i]? = some l[i] := alB (by omega)
   have hc := W.ch i _ _ hi' hi
   have e := aaI (W.op _ (alN hi')) (W.op _ hg) hc hn
   rw [e, <- hli] at hi'
   have := (List.getElem?_inj (by omega) W.nd).mp hi'
   omega
 refine ⟨fun x hx => ?_, ?_, fun i a b ha hb => ?_, ?_⟩
 ·rcases amh.mp hx with h | h
  ·exact W.op x h
  ·rw [al7.mp h]; exact (vI (W.op g hg) hn).1
 ·refine anq.mpr ⟨W.nd, amF.mpr ⟨amL, anv⟩, fun a ha b hb e => ?_⟩
  rw [al7.mp hb] at e
  exact hnew (e ▸ ha)
 ·by_cases h : i + 1 < l.length
  ·rw [alP (by omega)] at ha
   rw [alP h] at hb
   exact W.ch i a b ha hb
  ·obtain ⟨hlt, _⟩ := alG.mp hb
   rw [alR, amn] at hlt
   have e : i = l.length - 1 := by omega
   rw [alP (by omega), e, hli] at ha
   rw [alU (by omega), show i + 1 - l.length = 0 by omega] at hb
   cases ha
   cases hb
   exact hn
 ·cases l with
  | nil => cases pos
  | cons a l => exact W.hd
theorem abp {s g : Gt} {l : List Gt} (W : WalkOk rows wd cut s l) (hl : l.getLast? = some g) {ring : Bool} (h : zV rows wd cut g = if ring = true then some s else none) : LineOk rows wd cut ring l where
 op := W.op
 nd := W.nd
 ch := W.ch
 ne := fun z => by rw [z] at hl; cases hl
 last := fun g' hg' => by
  rw [hl] at hg'
  cases hg'
  rw [h, W.hd]
def acm (rows : List (List Int)) (wd : Nat) (cut : Int) (t : Bool × List Gt) : Prop := t.1 = false -> ∀ h, t.2.head? = some h -> yu rows wd cut h = none
theorem next_prev {g n : Gt} (o : opG rows wd cut g = true) (h : zV rows wd cut g = some n) : yu rows wd cut n = some g := by
 have c : zL rows wd (ahC rows cut g).1 (ahC rows cut g).2 = true := by
  unfold zV at h
  by_cases z : zL rows wd (ahC rows cut g).1 (ahC rows cut g).2 = true
  ·exact z
  ·rw [if_neg z] at h; cases h
 obtain ⟨m, a1, _, _, _, a2⟩ := qu o c
 rw [h] at a1
 cases a1
 exact a2
theorem prev_next {g n : Gt} (o : opG rows wd cut g = true) (h : yu rows wd cut g = some n) : opG rows wd cut n = true /\ zV rows wd cut n = some g := by
 have c : zL rows wd (bhC rows cut g).1 (bhC rows cut g).2 = true := by
  unfold yu at h
  by_cases z : zL rows wd (bhC rows cut g).1 (bhC rows cut g).2 = true
  ·exact z
  ·rw [if_neg z] at h; cases h
 obtain ⟨m, a1, _, a3, _, a2⟩ := aae o c
 rw [h] at a1
 cases a1
 exact ⟨a3, a2⟩
theorem aaf {t : Bool × List Gt} (ne : t.2 ≠ []) : ∃ z, t.2.getLast? = some z /\ z ∈ t.2 := ⟨t.2.getLast ne, List.getLast?_eq_some_getLast ne, List.getLast_mem ne⟩
theorem vR {t : Bool × List Gt} (L : LineOk rows wd cut t.1 t.2) (st : acm rows wd cut t) {g n : Gt} (o : opG rows wd cut g = true) (hn : n ∈ t.2) (h : zV rows wd cut g = some n) : g ∈ t.2 := by
 obtain ⟨i, hi⟩ := amf hn
 match i, hi with
 | 0, hi =>
  have hh : t.2.head? = some n := by rw [amu]; exact hi
  cases hr : t.1 with
  | false =>
   have := st hr n hh
   rw [next_prev o h] at this
   cases this
  | true =>
   obtain ⟨z, hz, hm⟩ := aaf L.ne
   have := L.last z hz
   rw [hr, if_pos rfl, hh] at this
   rw [aaI o (L.op z hm) h this]
   exact hm
 | i + 1, hi =>
  obtain ⟨hlt, _⟩ := alG.mp hi
  have hi' : t.2[i]? = some t.2[i] := alB (by omega)
  have hc := L.ch i _ _ hi' hi
  have hm := alN hi'
  rw [aaI o (L.op _ hm) h hc]
  exact hm
theorem vS {t : Bool × List Gt} (L : LineOk rows wd cut t.1 t.2) {g n : Gt} (hg : g ∈ t.2) (h : zV rows wd cut g = some n) : n ∈ t.2 := by
 obtain ⟨i, hi⟩ := amf hg
 obtain ⟨hlt, _⟩ := alG.mp hi
 by_cases hl : i + 1 < t.2.length
 ·have hi' : t.2[i + 1]? = some t.2[i + 1] := alB hl
  have hc := L.ch i _ _ hi hi'
  rw [h] at hc
  rw [Option.some.inj hc]
  exact alN hi'
 ·have e : i = t.2.length - 1 := by omega
  have hz : t.2.getLast? = some g := by rw [am6, <- e]; exact hi
  have := L.last g hz
  rw [h] at this
  by_cases hr : t.1 = true
  ·rw [if_pos hr] at this
   exact aob this.symm
  ·rw [if_neg hr] at this
   cases this
theorem ai9 (gd : Good wd rows) {g : Gt} (o : opG rows wd cut g = true) : zL rows wd (ahC rows cut g).1 (ahC rows cut g).2 = true \/ zL rows wd (bhC rows cut g).1 (bhC rows cut g).2 = true := by
 have hw := vH o
 obtain ⟨x, y, w⟩ := g
 have o' : yb rows wd cut x y w = true := o
 unfold yb qe at o'
 rw [alM, alM, alM] at o'
 obtain ⟨a0, a1, a2, a3⟩ := yL o'.1.2.1
 obtain ⟨b0, b1, b2, b3⟩ := yL o'.1.2.2
 have h1 := gd.h1
 have w1 := gd.w1
 have cb : ∀ {u v : Int}, 0 <= u -> u + 1 < wd -> 0 <= v -> v + 1 < rows.length -> zL rows wd u v = true := fun p q r s => by
  unfold zL zT
  rw [decide_eq_true (by omega), decide_eq_true (by omega), decide_eq_true (by omega), decide_eq_true (by omega)]
  rfl
 unfold ahC bhC jf jg
 dsimp only at hw ⊢
 rcases hw with rfl | rfl
 ·have e1 : px x 0 = x + 1 := rfl
  rw [e1] at b1
  cases hiB rows cut x y
  ·by_cases h : y + 1 < rows.length
   ·left; exact cb (by simp; omega) (by simp; omega) (by simp; omega) (by simp; omega)
   ·right; exact cb (by simp; omega) (by simp; omega) (by simp; omega) (by simp; omega)
  ·by_cases h : y + 1 < rows.length
   ·right; exact cb (by simp; omega) (by simp; omega) (by simp; omega) (by simp; omega)
   ·left; exact cb (by simp; omega) (by simp; omega) (by simp; omega) (by simp; omega)
 ·have e1 : py y 1 = y + 1 := rfl
  rw [e1] at b3
  cases hiB rows cut x y
  ·by_cases h : x + 1 < wd
   ·right; exact cb (by simp; omega) (by simp; omega) (by simp; omega) (by simp; omega)
   ·left; exact cb (by simp; omega) (by simp; omega) (by simp; omega) (by simp; omega)
  ·by_cases h : x + 1 < wd
   ·left; exact cb (by simp; omega) (by simp; omega) (by simp; omega) (by simp; omega)
   ·right; exact cb (by simp; omega) (by simp; omega) (by simp; omega) (by simp; omega)
theorem akK (gd : Good wd rows) {t : Bool × List Gt} (L : LineOk rows wd cut t.1 t.2) (st : acm rows wd cut t) : 2 <= t.2.length := by
 obtain ⟨r, l⟩ := t
 match l, L, st with
 | [], L, _ => exact absurd rfl L.ne
 | [g], L, st =>
  have o := L.op g (alL ..)
  have hl := L.last g rfl
  cases r with
  | true =>
   exact absurd rfl (vI o hl).2
  | false =>
   have hp : yu rows wd cut g = none := st rfl g rfl
   have hl : zV rows wd cut g = none := hl
   rcases ai9 gd o with c | c
   ·obtain ⟨n, h, _⟩ := qu o c
    rw [hl] at h; cases h
   ·obtain ⟨n, h, _⟩ := aae o c
    rw [hp] at h; cases h
 | _ :: _ :: _, _, _ => exact Nat.le_add_left 2 _
end
section
variable (rows : List (List Int)) (wd : Nat) (cut : Int)
def flat (ts : List (Bool × List Gt)) : List Gt := ts.flatMap (·.2)
structure Told (ts : List (Bool × List Gt)) : Prop where
 line : ∀ t ∈ ts, LineOk rows wd cut t.1 t.2
 st : ∀ t ∈ ts, acm rows wd cut t
 nd : (flat ts).Nodup
 least : ∀ t ∈ ts, t.1 = true -> ∀ h, t.2.head? = some h -> ∀ g ∈ t.2, g = h \/ gLt h g
end
section
variable {rows : List (List Int)} {wd : Nat} {cut : Int} {ts : List (Bool × List Gt)}
theorem Told.op (T : Told rows wd cut ts) {g : Gt} (h : g ∈ flat ts) : opG rows wd cut g = true := by
 obtain ⟨t, ht, hg⟩ := amb.mp h
 exact (T.line t ht).op g hg
theorem Told.len (T : Told rows wd cut ts) (gd : Good wd rows) : (flat ts).length <= 98 := qi gd (fun g hg => T.op hg) T.nd
theorem adu : ∀ (ts : List (Bool × List Gt)), (∀ t ∈ ts, 2 <= t.2.length) -> 2 * ts.length <= (flat ts).length
 | [], _ => alI _
 | t :: ts, h => by
  have h1 := h t (alL ..)
  have h2 := adu ts fun u hu => h u (alH _ hu)
  show 2 * (ts.length + 1) <= (t.2 ++ flat ts).length
  rw [alR]
  omega
theorem Told.few (T : Told rows wd cut ts) (gd : Good wd rows) : ts.length <= 49 := by
 have h1 := adu ts fun t ht => akK gd (T.line t ht) (T.st t ht)
 have h2 := T.len gd
 omega
theorem qv (ts : List (Bool × List Gt)) (t : Bool × List Gt) : flat (ts ++ [t]) = flat ts ++ t.2 := by
 unfold flat
 rw [amw]
 simp
theorem Told.fresh (T : Told rows wd cut ts) {r : Bool} {l : List Gt} (L : LineOk rows wd cut r l) {s : Gt} (hs : l.head? = some s) (hn : s ∉ flat ts) : ∀ g ∈ l, g ∉ flat ts := by
 have key : ∀ (i : Nat) g, l[i]? = some g -> g ∉ flat ts := fun i => by
  induction i with
  | zero =>
   intro g hg
   rw [amu, hg] at hs
   rw [Option.some.inj hs]
   exact hn
  | succ i ih =>
   intro g hg hm
   obtain ⟨hlt, _⟩ := alG.mp hg
   have hi' : l[i]? = some l[i] := alB (by omega)
   have hc := L.ch i _ _ hi' hg
   obtain ⟨t, ht, hgt⟩ := amb.mp hm
   exact ih _ hi' (amb.mpr ⟨t, ht, vR (T.line t ht) (T.st t ht) (L.op _ (alN hi')) hgt hc⟩)
 intro g hg
 obtain ⟨i, hi⟩ := amf hg
 exact key i g hi
theorem Told.more (T : Told rows wd cut ts) {r : Bool} {l : List Gt} (L : LineOk rows wd cut r l) {s : Gt} (hs : l.head? = some s) (hn : s ∉ flat ts) (st : r = false -> yu rows wd cut s = none) (le : r = true -> ∀ g ∈ l, g = s \/ gLt s g) : Told rows wd cut (ts ++ [(r, l)]) where
 line := fun t ht => by
  rcases amh.mp ht with h | h
  ·exact T.line t h
  ·rw [al7.mp h]; exact L
 st := fun t ht => by
  rcases amh.mp ht with h | h
  ·exact T.st t h
  ·rw [al7.mp h]
   intro hr h hh
   rw [show (r, l).2.head? = some s from hs] at hh
   rw [<- Option.some.inj hh]
   exact st hr
 nd := by
  rw [qv]
  refine anq.mpr ⟨T.nd, L.nd, fun a ha b hb e => ?_⟩
  exact T.fresh L hs hn b hb (e ▸ ha)
 least := fun t ht => by
  rcases amh.mp ht with h | h
  ·exact T.least t h
  ·rw [al7.mp h]
   intro hr h hh
   rw [show (r, l).2.head? = some s from hs] at hh
   rw [<- Option.some.inj hh]
   exact le hr
theorem akL {r : Bool} {l : List Gt} (L : LineOk rows wd cut r l) {s : Gt} (hs : l.head? = some s) (hp : yu rows wd cut s = none) : r = false := by
 cases r with
 | false => rfl
 | true =>
  obtain ⟨z, hz, hm⟩ := aaf (t := (true, l)) L.ne
  have := L.last z hz
  rw [if_pos rfl, hs] at this
  have := next_prev (L.op z hm) this
  rw [hp] at this
  cases this
theorem aja (T : Told rows wd cut ts) (all : ∀ g, opG rows wd cut g = true -> yu rows wd cut g = none -> g ∈ flat ts) {r : Bool} {l : List Gt} (L : LineOk rows wd cut r l) {s : Gt} (hs : l.head? = some s) (hn : s ∉ flat ts) : r = true := by
 cases r with
 | true => rfl
 | false =>
  obtain ⟨z, hz, hm⟩ := aaf (t := (false, l)) L.ne
  have hnone : zV rows wd cut z = none := L.last z hz
  let U := (z4 rows wd cut).filter fun g => decide (g ∉ flat ts)
  have memU : ∀ g, g ∈ U ↔ opG rows wd cut g = true /\ g ∉ flat ts := fun g => by
   show g ∈ List.filter _ _ ↔ _
   rw [amE, mem_gates, decide_eq_true_eq]
  let pr : Gt -> Gt := fun g => (yu rows wd cut g).getD g
  have prU : ∀ g ∈ U, yu rows wd cut g = some (pr g) /\ zV rows wd cut (pr g) = some g /\ pr g ∈ U := fun g hg => by
   obtain ⟨o, nf⟩ := (memU g).mp hg
   cases hp : yu rows wd cut g with
   | none => exact absurd (all g o hp) nf
   | some p =>
    have e : pr g = p := by show (yu rows wd cut g).getD g = p; rw [hp]; rfl
    obtain ⟨op, hnx⟩ := prev_next o hp
    rw [e]
    refine ⟨rfl, hnx, (memU p).mpr ⟨op, fun hm => ?_⟩⟩
    obtain ⟨t, ht, hpt⟩ := amb.mp hm
    exact nf (amb.mpr ⟨t, ht, vS (T.line t ht) hpt hnx⟩)
  have ndU : U.Nodup := gates_nd.filter _
  have ndP : (U.map pr).Nodup := by
   refine am9.mpr (ndU.imp_of_mem fun {a b} ha hb ne e => ne ?_)
   have h1 := (prU a ha).2.1
   have h2 := (prU b hb).2.1
   rw [e, h2] at h1
   exact (Option.some.inj h1).symm
  have zU : z ∈ U := (memU z).mpr ⟨L.op z hm, T.fresh L hs hn z hm⟩
  have := afh (U.map pr) U ndP (fun x hx => by obtain ⟨g, hg, rfl⟩ := al1.mp hx; exact (prU g hg).2.2) (by rw [alD]; exact alI _) z zU
  obtain ⟨g, hg, rfl⟩ := al1.mp this
  rw [(prU g hg).2.1] at hnone
  cases hnone
def yA (t : Bool × List Gt) : PyData := .tuple [.str (if t.1 = true then "ring" else "run"), .tuple (t.2.map gD3)]
theorem adv (l : List Gt) : zG (l.map gD3) = true := by
 induction l with
 | nil => rfl
 | cons g l ih => show (zw (gD3 g) && zG (l.map gD3)) = true; rw [ih]; rfl
theorem aaK (t : Bool × List Gt) : zw (yA t) = true := by
 show (zw (.str _) && (zw (.tuple (t.2.map gD3)) && true)) = true
 rw [show zw (.tuple (t.2.map gD3)) = zG (t.2.map gD3) from rfl, adv]
 cases t.1 <;> decide +kernel
theorem abq : ∀ l m : List Gt, qY (l.map gD3) (m.map gD3) = true
 | [], m => by rw [anx, qY]
 | g :: l, [] => rfl
 | (x, y, w) :: l, (x', y', w') :: m => by
  rw [al3, al3, qY]
  split
  ·exact abq l m
  ·show vV (.tuple [.int x, .int y, .int w]) (.tuple [.int x', .int y', .int w']) = true
   simp only [vV, qY]
   split
   ·split
    ·split <;> rfl
    ·rfl
   ·rfl
theorem ahL (t u : Bool × List Gt) : vV (yA t) (yA u) = true := by
 unfold yA
 generalize (if t.1 = true then ("ring" : Str) else "run") = a
 generalize (if u.1 = true then ("ring" : Str) else "run") = b
 rw [vV, qY]
 split
 ·rw [qY]
  split
  ·rfl
  ·rw [vV]; exact abq _ _
 ·rfl
theorem adw (l : List Gt) : alK (l.map gD3) <= 1 := by
 induction l with
 | nil => exact ama _
 | cons g l ih => exact ao4.mpr ⟨alI 1, ih⟩
theorem aeg (t : Bool × List Gt) : (yA t).depth <= 3 := by
 show max 0 (max (alK (t.2.map gD3) + 1) 0) + 1 <= 3
 have := adw t.2
 omega
theorem adx {a b : Gt} (h : gD3 a = gD3 b) : a = b := by
 obtain ⟨x, y, w⟩ := a
 obtain ⟨x', y', w'⟩ := b
 unfold gD3 jv at h
 simp at h
 simp [h]
theorem ahM (T : Told rows wd cut ts) : SortOk "str" (ts.map yA) where
 plain := fun d hd => by obtain ⟨t, _, rfl⟩ := al1.mp hd; exact aaK t
 head := fun d hd => by obtain ⟨t, _, rfl⟩ := al1.mp hd; rfl
 cmp := fun d hd e he => by
  obtain ⟨t, _, rfl⟩ := al1.mp hd
  obtain ⟨u, _, rfl⟩ := al1.mp he
  exact ahL t u
 depth := fun d hd => by obtain ⟨t, _, rfl⟩ := al1.mp hd; exact alZ (aeg t) (by decide)
 nd := by
  have h := (List.pairwise_flatMap.mp T.nd).2
  refine am9.mpr (h.imp_of_mem fun {a b} ha hb hd e => ?_)
  unfold yA at e
  have e2 : a.2.map gD3 = b.2.map gD3 := by
   injection e with e
   injection e with _ e
   injection e with e _
   injection e
  cases ha2 : a.2 with
  | nil => exact (T.line a ha).ne ha2
  | cons g l =>
   cases hb2 : b.2 with
   | nil => exact (T.line b hb).ne hb2
   | cons g' l' =>
    rw [ha2, hb2, al3, al3] at e2
    injection e2 with e2 _
    exact hd g (by rw [ha2]; exact alL ..) g' (by rw [hb2]; exact alL ..) (adx e2)
theorem Told.perm {us : List (Bool × List Gt)} (T : Told rows wd cut ts) (p : us.Perm ts) : Told rows wd cut us where
 line := fun t ht => T.line t (p.mem_iff.mp ht)
 st := fun t ht => T.st t (p.mem_iff.mp ht)
 nd := (p.flatMap_right _).nodup_iff.mpr T.nd
 least := fun t ht => T.least t (p.mem_iff.mp ht)
end
open PySem PySem.Spec PyProof.Rows L2
section
variable {K : alE} {f : Fx} {ρ : zq} {ta : TE} {P : PyData -> Prop}
def aaL : PyData -> Bool
 | .none => true
 | _ => false
theorem abr {H : Hp} {d : PyData} {v : V} (r : Rep K H d v) (h : d = .none \/ ∃ ds, d = .tuple ds) : decide (v = .non) = aaL d := by
 rcases h with rfl | ⟨ds, rfl⟩
 ·rw [show v = .non from r]; rfl
 ·obtain ⟨a, xs, rfl, _⟩ := rep_tuple.mp r
  rfl
theorem akM (h : PEd K f ta ρ fun d => (d = .none \/ ∃ ds, d = .tuple ds) /\ P (.bool (!aaL d))) : PEd K f (tOp (fun x y H Q => y = .non /\ Q (.bl (!decide (x = .non))) H) ta (tC .non)) ρ P := fun σ H Q e q =>
 h σ H _ e fun d v H1 g1 r1 ⟨hd, p⟩ => ⟨rfl, q _ _ H1 g1 (by show Rep K _ (.bool _) (.bl _); rw [abr r1 hd]; rfl) p⟩
theorem ajD (h : PEd K f ta ρ fun d => (d = .none \/ ∃ ds, d = .tuple ds) /\ P (.bool (aaL d))) : PEd K f (tOp (fun x y H Q => y = .non /\ Q (.bl (decide (x = .non))) H) ta (tC .non)) ρ P := fun σ H Q e q =>
 h σ H _ e fun d v H1 g1 r1 ⟨hd, p⟩ => ⟨rfl, q _ _ H1 g1 (by show Rep K _ (.bool _) (.bl _); rw [abr r1 hd]; rfl) p⟩
end
section
variable {P : Program} {w : World} {K : alE} {mg : Str -> Option Value} {base : Heap} {k : Nat}
abbrev ahN (K : alE) : Sp := spD K 3 agh fun c r => ∃ ring l, r = yA (ring, l) /\ LineOk c.1 c.2.1 c.2.2.1 ring l /\ l.head? = some c.2.2.2
theorem akN (a b : Gt) : al4 (gD3 a) (gD3 b) = decide (a = b) := by
 obtain ⟨x, y, w⟩ := a
 obtain ⟨x', y', w'⟩ := b
 show (decide (x = x') && (decide (y = y') && (decide (w = w') && true))) = _
 by_cases h1 : x = x' <;> by_cases h2 : y = y' <;> by_cases h3 : w = w' <;> simp [h1, h2, h3]
theorem aeh (q : Option Gt) : ack q = .none \/ ∃ ds, ack q = .tuple ds := by
 cases q with
 | none => exact .inl rfl
 | some g => exact .inr ⟨_, rfl⟩
theorem ajb (F : Def K mg "line_from" jq ["rows", "cut", "start"]) (m_tuple : mg "tuple" = none) (G_gate_ahead : FnIn P w K mg base k "gate_ahead" ["rows", "cut", "gate"] (ahJ K)) :
  FnIn P w K mg base (k + 1) "line_from" ["rows", "cut", "start"] (ahN K) := by
 refine F.ok sc_line_from rfl fun fa cdv A outer s H E hr => ⟨_, (zc (zD (i := 3) sc_line_from.nd rfl (Or.inl rfl) (yn (za (pv 2) zb))) (zc (zD (i := 4) sc_line_from.nd rfl (Or.inl rfl) (ze G_gate_ahead hr rfl (za (pv 0) (za (pv 1) (za (pv 2) zb))))) (zc (acu aml (PW.pt (ajN (zR aic (pv 4) abx (zX _)) (ah5 (zR (j9 (K := K) rfl hr.units) (pv 4) (pv 2) (zX _))))) (zc (yM (acw amT amO amP jy (pv 3) (za (pv 4) zb))) (zh (zD (i := 4) sc_line_from.nd rfl (Or.inl rfl) (ze G_gate_ahead hr rfl (za (pv 0) (za (pv 1) (za (pv 4) zb)))))))) (zh (zu (zA (za (qP (zR ajW (pv 4) abx (zX _)) qE qE) (za (jx (j8 (K := K) rfl) rfl m_tuple anP (za (pv 3) zb)) zb)))))))), ?_⟩
 rintro f xs ⟨rows, wd, cut, g⟩ hl ⟨rfl, gd, o⟩
 try dsimp only [zW, zi]
 dsimp only at *
 refine aaB (w := w) (ac3 (vd (acO ?_)))
 repeat walk_at "dl"
 refine ⟨show 3 < 5 by decide, fun D => ?_⟩
 refine jC (vE (zJ (zp (rows, wd, cut, g) ?_)))
 repeat walk_at "dl"
 rintro _ rfl
 refine zj ?_
 refine jC (aiC (fun ρ cs => ∃ l z, ρ = [some (.dat (tab rows)), some (.dat (.int cut)), some (.dat (gD3 g)), some (.own (f.M.length + 0)), some (.dat (ack (zV rows wd cut z)))] /\ cs = [.lst (l.map gD3)] /\ WalkOk rows wd cut g l /\ l.getLast? = some z) (fun _ cs => match cs with | [.lst es] => 200 - es.length | _ => 0) ⟨[g], g, rfl, rfl, ahK o, rfl⟩ ?_)
 rintro _ _ ⟨l, z, rfl, rfl, W, hz⟩
 have oz := W.op z (apo hz)
 have wl := qi gd W.op W.nd
 have ml : (l.map gD3).length = l.length := alD ..
 refine ak9 (agK (yv (akM (zl rfl ⟨aeh _, ?_⟩))))
 refine ⟨_, rfl, ?_⟩
 have fr : ∀ x : PyData, anW (freed f.M.length [OC.lst (l.map gD3)]) [some (DV.dat (tab rows)), some (.dat (.int cut)), some (.dat (gD3 g)), some (.own (f.M.length + 0)), some (.dat x)] = [some (.dat (tab rows)), some (.dat (.int cut)), some (.dat (gD3 g)), some (.dat (.list (l.map gD3))), some (.dat x)] := fun x => by simp [freed]
 cases hn : zV rows wd cut z with
 | none =>
  rw [show (!aaL (ack none)) = false from rfl, if_neg alC, if_neg alC]
  refine abY ?_
  rw [fr]
  refine yy (jV (zy (aij (yv (ajD (zl rfl ⟨.inl rfl, _, rfl, ?_⟩))))))
  rw [show aaL (ack none) = true from rfl, if_pos rfl]
  repeat walk_at "dl"
  exact ⟨false, l, rfl, abp W hz (by rw [hn]; rfl), W.hd⟩
 | some n =>
  rw [show (!aaL (ack (some n))) = true from rfl, if_pos rfl]
  rw [show ack (some n) = gD3 n from rfl]
  refine yv (jU (zl rfl (zl rfl ⟨rfl, rfl, aoh rfl, _, rfl, ?_⟩)))
  rw [if_pos rfl, akN]
  by_cases ng : n = g
  ·rw [decide_eq_true ng, show (!true) = false from rfl, if_neg alC]
   refine abY ?_
   rw [fr]
   refine yy (jV (zy (aij (yv (ajD (zl rfl ⟨.inr ⟨_, rfl⟩, _, rfl, ?_⟩))))))
   rw [show aaL (gD3 n) = false from rfl, if_neg alC]
   repeat walk_at "dl"
   exact ⟨true, l, rfl, abp W hz (by rw [hn, ng]; rfl), W.hd⟩
  ·rw [decide_eq_false ng, show (!false) = true from rfl, if_pos rfl]
   have W2 := agl W hz hn ng
   have wl2 := qi gd W2.op W2.nd
   rw [alR, amn] at wl2
   refine jC (ac2 (i := 3) (j := 0) rfl rfl (by omega) (ac1 (zl rfl ?_)))
   refine vE (zJ (zp (rows, wd, cut, n) ?_))
   have on := (vI oz hn).1
   repeat walk_at "dl"
   rintro _ rfl
   refine zj ⟨⟨l ++ [n], n, rfl, ?_, W2, by simp⟩, ?_⟩
   ·show [OC.lst (l.map gD3 ++ [gD3 n])] = [OC.lst ((l ++ [n]).map gD3)]
    rw [al6]
    rfl
   ·show 200 - (l.map gD3 ++ [gD3 n]).length < 200 - (l.map gD3).length
    rw [alR, amn]
    omega
abbrev acn (K : alE) : Sp := spN K 2 (fun (c : List (List Int) × Nat × Int) xs => xs = [.dat (tab c.1), .dat (.int c.2.2)] /\ Good c.2.1 c.1) fun c es => ∃ ts, es = ts.map yA /\ Told c.1 c.2.1 c.2.2 ts /\ (∀ g, opG c.1 c.2.1 c.2.2 g = true -> g ∈ flat ts) /\ es.Pairwise fun d e => ltD d e = true
def inB (rows : List (List Int)) (wd : Nat) (cut : Int) (g : Gt) : Bool := !zL rows wd (bhC rows cut g).1 (bhC rows cut g).2
theorem ahO {rows : List (List Int)} {wd : Nat} {cut : Int} {g : Gt} (o : opG rows wd cut g = true) : inB rows wd cut g = true ↔ yu rows wd cut g = none := by
 unfold inB
 by_cases h : zL rows wd (bhC rows cut g).1 (bhC rows cut g).2 = true
 ·obtain ⟨n, hn, _⟩ := aae o h
  rw [h, hn]
  simp
 ·rw [Bool.not_eq_true] at h
  unfold yu
  rw [h]
  simp
theorem ahP (F : Def K mg "lines" aac ["rows", "cut"]) (m_set : mg "set" = none) (m_sorted : mg "sorted" = none) (G_ask_table : FnIn P w K mg base k "ask_table" ["rows"] (adk K)) (G_gates : FnIn P w K mg base k "gates" ["rows", "cut"] (ae7 K)) (G_comes_in : FnIn P w K mg base k "comes_in" ["rows", "cut", "gate"] (afg K)) (G_line_from : FnIn P w K mg base k "line_from" ["rows", "cut", "start"] (ahN K)) : FnIn P w K mg base (k + 1) "lines" ["rows", "cut"] (acn K) := by
 refine F.okN sc_lines rfl fun fa cdv A outer s H E hr => ⟨_, (zc (yM (ze G_ask_table hr rfl (za (pv 0) zb))) (zc (zD (i := 2) sc_lines.nd rfl (Or.inl rfl) (ze G_gates hr rfl (za (pv 0) (za (pv 1) zb)))) (zc (zD (i := 3) sc_lines.nd rfl (Or.inl rfl) (zo (ag2 (K := K) rfl) (yp (N := ["gate", "rows", "cut"]) (own := 1) (fr := [0, 1]) ⟨rfl, by decide +kernel, of_decide_eq_true (by kernel_rfl), of_decide_eq_true (by kernel_rfl), of_decide_eq_true (by kernel_rfl), rfl⟩ rfl (zO (K := K) rfl (pv 2)) (fun _ _ _ _ => (zf (i := 0) (show (["gate", "rows", "cut"] : List Str).Nodup by decide +kernel) rfl (Or.inl rfl) (Or.inr rfl))) (fun _ _ _ _ => (vZ (z3 (K := K) rfl (ze G_comes_in hr rfl (za (pv 1) (za (pv 2) (za (pv 0) zb)))) (fun _ => rfl)))) (fun _ _ _ _ => (pv 0)) rfl rfl (fun _ => rfl)) (pv 2))) (zc (zD (i := 4) sc_lines.nd rfl (Or.inl rfl) (yn zb)) (zc (zD (i := 5) sc_lines.nd rfl (Or.inl rfl) (adI (ab0 (w := w) rfl) rfl m_set PyProof.Rows.boot_set)) (zc (yR aml rfl (zO (K := K) rfl (pv 3)) (zf (i := 6) sc_lines.nd rfl (Or.inl rfl) (Or.inr rfl)) (zh (yt (zR (adX (w := w) (K := K) rfl rfl hr.units) (pv 6) (pv 5) rfl) (zc (zD (i := 7) sc_lines.nd rfl (Or.inl rfl) (ze G_line_from hr rfl (za (pv 0) (za (pv 1) (za (pv 6) zb))))) (zc (yM (acw amT amO amP jy (pv 4) (za (pv 7) zb))) (zh (yR aml rfl (qV (K := K) rfl (zN (qo (K := K) rfl) (pv 7) zd (fun _ _ => rfl))) (zf (i := 8) sc_lines.nd rfl (Or.inl rfl) (Or.inr rfl)) (zh (yM (akr (w := w) rfl apj PySem.F.type_set_add (ahm (w := w) (K := K) rfl rfl hr.units) (pv 5) (za (pv 8) zb)))))))) zP))) (zh (zu (zB (abQ (K := K) rfl hr.units) rfl m_sorted PyProof.Rows.boot_sorted (za (pv 4) zb)))))))))), ?_⟩
 rintro f xs ⟨rows, wd, cut⟩ hl ⟨rfl, gd⟩
 try dsimp only [zW, zi]
 dsimp only at *
 have gl := abm (cut := cut) gd
 refine qX (vw (zp (rows, wd) ?_))
 repeat walk_at "dl"
 rintro _ rfl
 refine qX (zJ (PEdO.ped (qK (rows, wd, cut) ?_)))
 repeat walk_at "dl"
 rintro _ rfl
 dsimp only
 rw [<- qg]
 refine zj ?_
 refine qX (zJ (aki (PEdO.ped (qb (yi (zl rfl ⟨_, rfl, fun n ρ es => (∃ u, ρ = [u, some (.dat (tab rows)), some (.dat (.int cut))]) /\ es = (((z4 rows wd cut).take n).filter (inB rows wd cut)).map gD3, ⟨⟨_, rfl⟩, rfl⟩, ?_, ?_⟩))))))
 ·rintro D n d ρ' es hd ⟨⟨u, rfl⟩, rfl⟩
  rw [alJ] at hd
  cases hq : (z4 rows wd cut)[n]? with
  | none => rw [hq] at hd; cases hd
  | some q =>
   rw [hq] at hd
   cases hd
   have oq := mem_gates.mp (alN hq)
   have tk : (z4 rows wd cut).take (n + 1) = (z4 rows wd cut).take n ++ [q] := by
    rw [aoa, hq]
    rfl
   have len : ((((z4 rows wd cut).take n).filter (inB rows wd cut)).map gD3).length < 1000 := by
    rw [alD]
    have a1 := amD (inB rows wd cut) ((z4 rows wd cut).take n)
    rw [amk] at a1
    omega
   refine zj (yV (zp (rows, wd, cut, q) ?_))
   repeat walk_at "dl"
   rintro _ rfl
   dsimp only
   refine ⟨_, rfl, ?_⟩
   refine yF (fun h => ?_) fun h => ?_
   ·refine yC len ?_
    repeat walk_at "dl"
    rw [tk, amG, al6, amv, show inB rows wd cut q = true from h, if_pos rfl]
    rfl
   ·refine ⟨⟨_, rfl⟩, ?_⟩
    rw [tk, amG, al6, amv, show inB rows wd cut q = false from h, if_neg alC]
    simp
 ·rintro ρ' es ⟨_, rfl⟩
  rw [alD, amg]
  have il : ((z4 rows wd cut).filter (inB rows wd cut)).length <= 98 := alZ (amD _ _) gl
  refine ⟨_, rfl, zl rfl ⟨_, rfl, by rw [alD, alD]; omega, ?_⟩⟩
  refine zj ?_
  dsimp only
  rw [<- al6]
  refine aiD (w := w) (ahk (vd (acO ?_)))
  repeat walk_at "dl"
  refine ⟨show 4 < 9 by decide, fun D1 => ?_⟩
  refine ahk (aks ⟨show 5 < 9 by decide, fun D2 => ?_⟩)
  refine akp (abh (yi (zl rfl ?_)))
  generalize hS : (z4 rows wd cut).filter (inB rows wd cut) ++ z4 rows wd cut = S
  generalize hG : PyData.list (anW gD3 (z4 rows wd cut)) = G
  refine ⟨_, rfl, fun i ρ cs => ∃ ts u v x, ρ = [some (.dat (tab rows)), some (.dat (.int cut)), some (.dat G), some (.dat (.list (S.map gD3))), some (.own (f.M.length + 0)), some (.own (f.M.length + 1)), u, v, x] /\ cs = [.lst (ts.map yA), .set ((flat ts).map gD3).reverse] /\ Told rows wd cut ts /\ ∀ j g, j < i -> S[j]? = some g -> g ∈ flat ts, ?_, ?_, ?_⟩
  ·exact ⟨[], _, _, _, rfl, rfl, ⟨(fun _ h => nomatch h), (fun _ h => nomatch h), anv, (fun _ h => nomatch h)⟩, fun j g h => absurd h (amU _)⟩
  ·rintro i d _ _ hd ⟨ts, u, v, x, rfl, rfl, T, past⟩
   rw [alJ] at hd
   cases hq : S[i]? with
   | none => rw [hq] at hd; cases hd
   | some q =>
    rw [hq] at hd
    cases hd
    have oq : opG rows wd cut q = true := by
     have hm := alN hq
     rw [<- hS] at hm
     rcases amh.mp hm with h | h
     ·exact mem_gates.mp (amE.mp h).1
     ·exact mem_gates.mp h
    have memk : (gD3 q ∈ ((flat ts).map gD3).reverse) ↔ q ∈ flat ts := by
     rw [am1, al1]
     exact ⟨fun ⟨a, ha, e⟩ => acj e ▸ ha, fun h => ⟨q, h, rfl⟩⟩
    refine zj (aiB (alb (i := 5) (j := 1) rfl rfl (ac1 (zl rfl ⟨qh _, ?_⟩))))
    rw [if_pos rfl]
    by_cases hin : q ∈ flat ts
    ·rw [decide_eq_true (memk.mpr hin), show (!true) = false from rfl, if_neg alC]
     refine abX ⟨ts, _, _, _, rfl, rfl, T, fun j g hj hg => ?_⟩
     rcases aoV.mp hj with h | h
     ·exact past j g h hg
     ·rw [h, hq] at hg
      cases hg
      exact hin
    ·rw [decide_eq_false (fun z => hin (memk.mp z)), show (!false) = true from rfl, if_pos rfl]
     refine jC (vE (zJ (zp (rows, wd, cut, q) ?_)))
     repeat walk_at "dl"
     rintro _ ⟨ring, l, rfl, L, hh⟩
     dsimp only at L hh
     have T2 : Told rows wd cut (ts ++ [(ring, l)]) := by
      by_cases hi : i < ((z4 rows wd cut).filter (inB rows wd cut)).length
      ·have hp : yu rows wd cut q = none := by
        rw [<- hS, alP hi] at hq
        exact (ahO oq).mp (amE.mp (alN hq)).2
       have r0 := akL L hh hp
       exact T.more L hh hin (fun _ => hp) fun z => by rw [r0] at z; cases z
      ·have all : ∀ g, opG rows wd cut g = true -> yu rows wd cut g = none -> g ∈ flat ts := fun g og hp => by
        have hm : g ∈ (z4 rows wd cut).filter (inB rows wd cut) := amE.mpr ⟨mem_gates.mpr og, (ahO og).mpr hp⟩
        obtain ⟨j, hj⟩ := amf hm
        obtain ⟨hlt, _⟩ := alG.mp hj
        refine past j g (by omega) ?_
        rw [<- hS, alP hlt]
        exact hj
       have r1 := aja T all L hh hin
       refine T.more L hh hin (fun z => by rw [r1] at z; cases z) fun _ g hg => ?_
       have fr := T.fresh L hh hin g hg
       obtain ⟨j, hj⟩ := amf (mem_gates.mpr (L.op g hg))
       have hq' := hq
       rw [<- hS, alU (by omega)] at hq'
       have pw : (z4 rows wd cut).Pairwise gLt := by rw [qg]; exact (adp _ _).filter _
       obtain ⟨l1, e1⟩ := alG.mp hj
       obtain ⟨l2, e2⟩ := alG.mp hq'
       rcases Nat.lt_trichotomy j (i - ((z4 rows wd cut).filter (inB rows wd cut)).length) with h | h | h
       ·refine absurd (past (j + ((z4 rows wd cut).filter (inB rows wd cut)).length) g (by omega) ?_) fr
        rw [<- hS, alU (by omega), Nat.add_sub_cancel]
        exact hj
       ·left
        rw [<- e1, <- e2]
        congr 1
       ·right
        rw [<- e1, <- e2]
        exact am4.mp pw _ _ l2 l1 h
     have hf := T2.len gd
     have nd2 := T2.nd
     rw [qv] at nd2 hf
     have few := T.few gd
     refine zj ?_
     refine jC (ac2 (i := 4) (j := 0) rfl rfl (by rw [alD]; omega) (ac1 (zl rfl ?_)))
     refine abh (acJ (agJ (zl rfl ?_)))
     repeat walk_at "dl"
     refine ⟨fun m ρ cs => ∃ x, ρ = [some (.dat (tab rows)), some (.dat (.int cut)), some (.dat G), some (.dat (.list (S.map gD3))), some (.own (f.M.length + 0)), some (.own (f.M.length + 1)), some (.dat (gD3 q)), some (.dat (yA (ring, l))), x] /\ cs = [.lst ((ts ++ [(ring, l)]).map yA), .set ((flat ts ++ l.take m).map gD3).reverse], ?_, ?_, ?_⟩
     ·refine ⟨_, rfl, ?_⟩
      rw [apq, amq, al6]
      rfl
     ·rintro m d _ _ hd ⟨x, rfl, rfl⟩
      rw [alJ] at hd
      cases hg : l[m]? with
      | none => rw [show (ring, l).2[m]? = none from hg] at hd; cases hd
      | some g =>
       rw [show (ring, l).2[m]? = some g from hg] at hd
       cases hd
       have tk : l.take (m + 1) = l.take m ++ [g] := by
        rw [aoa, hg]
        rfl
       have sp : l = l.take m ++ g :: l.drop (m + 1) := by
        obtain ⟨hlt, e⟩ := alG.mp hg
        rw [<- e, <- List.drop_eq_getElem_cons hlt, aof]
       have hnew : g ∉ flat ts ++ l.take m := fun z => by
        have nd3 : (flat ts ++ l).Nodup := nd2
        rw [sp, <- amR] at nd3
        exact (anq.mp nd3).2.2 g z g (alL ..) rfl
       have len : (((flat ts ++ l.take m).map gD3).reverse).length < 300 := by
        rw [apu, alD, alR, amk]
        have : (flat ts ++ l).length <= 98 := hf
        rw [alR] at this
        omega
       refine zj (alc (i := 5) (j := 1) rfl rfl len (ac1 (zl rfl ⟨qh _, fun z => ?_, fun _ => ?_⟩)))
       ·rw [am1, al1] at z
        obtain ⟨a, ha, e⟩ := z
        exact absurd (acj e ▸ ha) hnew
       ·refine ⟨_, rfl, ?_⟩
        show [OC.lst _, OC.set (gD3 g :: ((flat ts ++ l.take m).map gD3).reverse)] = _
        rw [tk, <- amR, al6 (l₁ := flat ts ++ l.take m), anD]
        rfl
     ·rintro _ _ ⟨x, rfl, rfl⟩
      refine ⟨ts ++ [(ring, l)], _, _, _, rfl, ?_, T2, fun j g hj hg => ?_⟩
      ·rw [alD, show (ring, l).2.length = l.length from rfl, amg, qv]
      ·rw [qv]
       rcases aoV.mp hj with h | h
       ·exact amt _ (past j g h hg)
       ·rw [h, hq] at hg
        cases hg
        exact alX _ (aob hh)
  ·rintro _ _ ⟨ts, u, v, x, rfl, rfl, T, past⟩
   have few := T.few gd
   refine aiE (abb (ag7 "str" (zl (i := 4) (d := .list (ts.map yA)) ?_ ⟨_, rfl, ahM T, by rw [alD]; omega, .inl (by rw [alD]; omega), fun es pm up => ?_⟩)))
   ·show some (freed _ _ _) = _
    simp [freed]
   ·obtain ⟨us, p, rfl⟩ := vf pm ts rfl
    refine ⟨us, rfl, T.perm p, fun g og => ?_, up⟩
    have hm : g ∈ S := by rw [<- hS]; exact alX _ (mem_gates.mpr og)
    obtain ⟨j, hj⟩ := amf hm
    obtain ⟨hlt, _⟩ := alG.mp hj
    exact (p.flatMap_right _).mem_iff.mpr (past j g (by rw [alD]; exact hlt) hj)
end
open PySem PySem.Spec PyProof.Rows L2
section
variable {rows : List (List Int)} {wd : Nat} {cut : Int} {r : List Gt}
theorem agm (L : LineOk rows wd cut true r) {g : Gt} (hg : g ∈ r) : zL rows wd (ahC rows cut g).1 (ahC rows cut g).2 = true /\ zL rows wd (bhC rows cut g).1 (bhC rows cut g).2 = true := by
 have o := L.op g hg
 constructor
 ·have hn : ∃ n, zV rows wd cut g = some n := by
   obtain ⟨i, hi⟩ := amf hg
   obtain ⟨hlt, _⟩ := alG.mp hi
   by_cases hl : i + 1 < r.length
   ·exact ⟨_, L.ch i _ _ hi (alB hl)⟩
   ·have e : i = r.length - 1 := by omega
    have hz : r.getLast? = some g := by rw [am6, <- e]; exact hi
    have := L.last g hz
    rw [if_pos rfl] at this
    cases hh : r.head? with
    | none => exact absurd (List.head?_eq_none_iff.mp hh) L.ne
    | some h => exact ⟨h, this.trans hh⟩
  obtain ⟨n, hn⟩ := hn
  unfold zV at hn
  by_cases z : zL rows wd (ahC rows cut g).1 (ahC rows cut g).2 = true
  ·exact z
  ·rw [if_neg z] at hn; cases hn
 ·have hp : ∃ p, opG rows wd cut p = true /\ zV rows wd cut p = some g := by
   obtain ⟨i, hi⟩ := amf hg
   obtain ⟨hlt, _⟩ := alG.mp hi
   match i, hi with
   | 0, hi =>
    obtain ⟨z, hz, hzm⟩ := aaf (t := (true, r)) L.ne
    have := L.last z hz
    rw [if_pos rfl, amu] at this
    exact ⟨z, L.op z hzm, this.trans hi⟩
   | i + 1, hi =>
    have hi' : r[i]? = some r[i] := alB (by omega)
    exact ⟨_, L.op _ (alN hi'), L.ch i _ _ hi' hi⟩
  obtain ⟨p, op, hp⟩ := hp
  have hq := next_prev op hp
  unfold yu at hq
  by_cases z : zL rows wd (bhC rows cut g).1 (bhC rows cut g).2 = true
  ·exact z
  ·rw [if_neg z] at hq; cases hq
end
open PySem PySem.Spec PyProof.Rows L2
section
variable {rows : List (List Int)} {wd : Nat} {cut : Int}
theorem ady {q : Bool} {l m : List Gt} (L : LineOk rows wd cut q l) (M : LineOk rows wd cut q m) (hh : l.head? = m.head?) : ∀ i, i < l.length -> i < m.length /\ l[i]? = m[i]? := by
 intro i
 induction i with
 | zero =>
  intro hi
  rw [amu, amu] at hh
  refine ⟨?_, hh⟩
  rw [alB hi] at hh
  exact (alG.mp hh.symm).1
 | succ i ih =>
  intro hi
  obtain ⟨h1, h2⟩ := ih (by omega)
  have a1 : l[i]? = some l[i] := alB (by omega)
  have a2 : l[i + 1]? = some l[i + 1] := alB hi
  have hn := L.ch i _ _ a1 a2
  rw [a1] at h2
  by_cases hm : i + 1 < m.length
  ·have b2 : m[i + 1]? = some m[i + 1] := alB hm
   have hn' := M.ch i _ _ h2.symm b2
   rw [hn] at hn'
   exact ⟨hm, by rw [a2, b2, hn']⟩
  ·have hz : m.getLast? = some l[i] := by rw [am6, show m.length - 1 = i by omega]; exact h2.symm
   have hl := M.last _ hz
   rw [hn] at hl
   cases q with
   | false => cases hl
   | true =>
    rw [if_pos rfl, <- hh, amu, <- a2] at hl
    have := (List.getElem?_inj hi L.nd).mp hl
    omega
theorem ahQ {q : Bool} {l m : List Gt} (L : LineOk rows wd cut q l) (M : LineOk rows wd cut q m) (hh : l.head? = m.head?) : l = m := by
 refine anT fun i => ?_
 by_cases h : i < l.length
 ·exact (ady L M hh i h).2
 ·by_cases h2 : i < m.length
  ·exact ((ady M L hh.symm i h2).2).symm
  ·rw [al5 (by omega), al5 (by omega)]
theorem abW {q : Bool} {l : List Gt} (L : LineOk rows wd cut q l) {t : Bool × List Gt} (T : LineOk rows wd cut t.1 t.2) (st : acm rows wd cut t) {h : Gt} (hl : h ∈ l) (ht : h ∈ t.2) : ∀ g ∈ l, g ∈ t.2 := by
 obtain ⟨j, hj⟩ := amf hl
 obtain ⟨hlt, _⟩ := alG.mp hj
 have up : ∀ n i, i = j + n -> ∀ g, l[i]? = some g -> g ∈ t.2 := fun n => by
  induction n with
  | zero =>
   intro i hi g hg
   rw [hi, Nat.add_zero, hj] at hg
   cases hg
   exact ht
  | succ n ih =>
   intro i hi g hg
   obtain ⟨hl2, _⟩ := alG.mp hg
   have a1 : l[j + n]? = some l[j + n] := alB (by omega)
   rw [show i = j + n + 1 by omega] at hg
   exact vS T (ih _ rfl _ a1) (L.ch _ _ _ a1 hg)
 have dn : ∀ n i, i + n = j -> ∀ g, l[i]? = some g -> g ∈ t.2 := fun n => by
  induction n with
  | zero =>
   intro i hi g hg
   rw [show i = j by omega, hj] at hg
   cases hg
   exact ht
  | succ n ih =>
   intro i hi g hg
   have a1 : l[i + 1]? = some l[i + 1] := alB (by omega)
   exact vR T st (L.op g (alN hg)) (ih (i + 1) (by omega) _ a1) (L.ch i _ _ hg a1)
 intro g hg
 obtain ⟨i, hi⟩ := amf hg
 by_cases h' : j <= i
 ·exact up (i - j) i (by omega) g hi
 ·exact dn (j - i) i (by omega) g hi
theorem ahR {a b : Gt} (h : gLt a b) (h' : gLt b a) : False := by
 unfold gLt at h h'
 omega
theorem adz {ts us : List (Bool × List Gt)} (T : Told rows wd cut ts) (U : Told rows wd cut us) (all : ∀ g, opG rows wd cut g = true -> g ∈ flat us) {t : Bool × List Gt} (ht : t ∈ ts) : t ∈ us := by
 have L := T.line t ht
 obtain ⟨h, hh⟩ : ∃ h, t.2.head? = some h := by
  cases q : t.2 with
  | nil => exact absurd q L.ne
  | cons x l => exact ⟨x, rfl⟩
 have hm := aob hh
 obtain ⟨u, hu, hmu⟩ := amb.mp (all h (L.op h hm))
 have M := U.line u hu
 have s1 := abW L M (U.st u hu) hm hmu
 have s2 := abW M L (T.st t ht) hmu hm
 obtain ⟨k, hk⟩ : ∃ k, u.2.head? = some k := by
  cases q : u.2 with
  | nil => exact absurd q M.ne
  | cons x l => exact ⟨x, rfl⟩
 have hkm := aob hk
 have noPrev : ∀ {r : List Gt} {g : Gt}, LineOk rows wd cut true r -> g ∈ r -> yu rows wd cut g ≠ none := fun R hg z => by
  obtain ⟨n, hn, _⟩ := aae (R.op _ hg) (agm R hg).2
  rw [z] at hn
  cases hn
 have kind : t.1 = u.1 := by
  cases h1 : t.1 with
  | true =>
   cases h2 : u.1 with
   | true => rfl
   | false =>
    rw [h1] at L
    exact absurd (U.st u hu h2 k hk) (noPrev L (s2 k hkm))
  | false =>
   cases h2 : u.1 with
   | false => rfl
   | true =>
    rw [h2] at M
    exact absurd (T.st t ht h1 h hh) (noPrev M hmu)
 have hd : h = k := by
  cases h1 : t.1 with
  | true =>
   rcases T.least t ht h1 h hh k (s2 k hkm) with e | e
   ·exact e.symm
   ·rcases U.least u hu (kind ▸ h1) k hk h hmu with e' | e'
    ·exact e'
    ·exact (ahR e e').elim
  | false =>
   have hp := T.st t ht h1 h hh
   obtain ⟨i, hi⟩ := amf hmu
   match i, hi with
   | 0, hi =>
    rw [amu, hi] at hk
    exact Option.some.inj hk
   | i + 1, hi =>
    obtain ⟨hlt, _⟩ := alG.mp hi
    have a1 : u.2[i]? = some u.2[i] := alB (by omega)
    have := next_prev (M.op _ (alN a1)) (M.ch i _ _ a1 hi)
    rw [hp] at this
    cases this
 have e2 : t.2 = u.2 := by
  rw [<- kind] at M
  exact ahQ L M (by rw [hh, hk, hd])
 have : t = u := Prod.ext kind e2
 rw [this]
 exact hu
theorem agn {t u : Bool × List Gt} (h : yA t = yA u) : t = u := by
 unfold yA at h
 injection h with h
 injection h with h1 h2
 injection h2 with h2 _
 injection h2 with h2
 refine Prod.ext ?_ ?_
 ·have ne : PyData.str "ring" ≠ PyData.str "run" := fun z => by
   have := anU (PyData.str "ring") (by decide +kernel)
   rw [show al4 (.str "ring") (.str "ring") = al4 (.str "ring") (.str "run") by rw [<- z]] at this
   exact absurd this (by decide +kernel)
  cases h3 : t.1 <;> cases h4 : u.1
  ·rfl
  ·rw [h3, h4] at h1; exact absurd h1.symm ne
  ·rw [h3, h4] at h1; exact absurd h1 ne
  ·rfl
 ·exact List.map_inj_right (fun _ _ => adx) |>.mp h2
theorem aaM : ∀ {l m : List PyData}, (∀ d ∈ l, zw d = true) -> (l.Pairwise fun d e => ltD d e = true) -> (m.Pairwise fun d e => ltD d e = true) -> (∀ d, d ∈ l ↔ d ∈ m) -> l = m
 | [], [], _, _, _, _ => rfl
 | [], b :: m, _, _, _, h => nomatch (h b).mpr (alL ..)
 | a :: l, [], _, _, _, h => nomatch (h a).mp (alL ..)
 | a :: l, b :: m, pl, p, q, h => by
  obtain ⟨p1, p2⟩ := anN.mp p
  obtain ⟨q1, q2⟩ := anN.mp q
  have pa := pl a (alL ..)
  have pb := pl b ((h b).mpr (alL ..))
  have ab : a = b := by
   rcases alO.mp ((h a).mp (alL ..)) with e | e
   ·exact e
   ·rcases alO.mp ((h b).mpr (alL ..)) with e' | e'
    ·exact e'.symm
    ·have := adV _ _ _ pa pb pa (p1 b e') (q1 a e)
     rw [abL a pa] at this
     cases this
  subst ab
  rw [aaM (fun d hd => pl d (alH _ hd)) p2 q2 fun d => ?_]
  constructor
  ·intro hd
   rcases alO.mp ((h d).mp (alH _ hd)) with e | e
   ·have := p1 d hd
    rw [e, abL a pa] at this
    cases this
   ·exact e
  ·intro hd
   rcases alO.mp ((h d).mpr (alH _ hd)) with e | e
   ·have := q1 d hd
    rw [e, abL a pa] at this
    cases this
   ·exact e
theorem ahS {ts us : List (Bool × List Gt)} (T : Told rows wd cut ts) (U : Told rows wd cut us) (aT : ∀ g, opG rows wd cut g = true -> g ∈ flat ts) (aU : ∀ g, opG rows wd cut g = true -> g ∈ flat us)
  (pT : (ts.map yA).Pairwise fun d e => ltD d e = true) (pU : (us.map yA).Pairwise fun d e => ltD d e = true) : ts = us := by
 have e : ts.map yA = us.map yA := aaM (fun d hd => by obtain ⟨t, _, rfl⟩ := al1.mp hd; exact aaK t) pT pU fun d => by
  constructor
  ·intro hd
   obtain ⟨t, ht, rfl⟩ := al1.mp hd
   exact al1.mpr ⟨t, adz T U aU ht, rfl⟩
  ·intro hd
   obtain ⟨t, ht, rfl⟩ := al1.mp hd
   exact al1.mpr ⟨t, adz U T aT ht, rfl⟩
 exact (List.map_inj_right fun _ _ => agn).mp e
end
open PySem PySem.Spec PyProof.Rows L2
abbrev scr (ns : List Int) : PyData := .list (ns.map .int)
theorem afi {K : alE} {H : Hp} {a : Addr} {ns : List Int} (h : SqL K H a (ns.map V.int)) : Rep K (hide H L2.f0) (scr ns) (.ref a) := by
 rw [yD]
 exact rep_list.mpr ⟨a, _, rfl, h, Reps.ints' ns⟩
theorem ajc {K : alE} {H : Hp} {v : V} {ns : List Int} (h : Rep K (hide H L2.f0) (scr ns) v) : ∃ a, v = .ref a /\ SqL K H a (ns.map V.int) := by
 rw [yD] at h
 obtain ⟨a, xs, rfl, h1, h2⟩ := rep_list.mp h
 rw [h2.ints] at h1
 exact ⟨a, rfl, h1⟩
def aei (K : alE) : Sp := fun vs H Q _ => ∃ (a : Addr) (ns : List Int) (i : Int), vs = [.ref a, .int i] /\ SqL K H a (ns.map V.int) /\ ns.length <= 63 /\ 0 <= i /\ i <= 63 /\
 ∀ (p : Addr) (x y : Int) (H' : Hp), Same H H' -> H p = none -> H' p = some (.lst [.int x, .int y]) -> 0 <= x -> 0 <= y -> y < 2147483647 -> Q (.ref p) H'
def afj (K : alE) : Sp := fun vs H Q _ => ∃ (a : Addr) (ns : List Int), vs = [.ref a] /\ SqL K H a (ns.map V.int) /\ ns.length <= 63 /\ ∀ H', Q (.bl true) H'
theorem ajd {K : alE} {f : Fx} {t : TA} {ρ : zq} {R R' : List DV -> Prop} (h : PAd K f t ρ R) (i : ∀ xs, R xs -> R' xs) : PAd K f t ρ R' := fun σ H Q e q => h σ H Q e fun xs vs H' g r p => q xs vs H' g r (i xs p)
theorem akO {K : alE} {ρ : zq} {ns : List Int} {i : Int} {E2 : XK} (h0 : ρ[0]? = some (some (.dat (scr ns)))) (h1 : ρ[1]? = some (some (.dat (.int i)))) (hl : ns.length <= 63) (i0 : 0 <= i) (i1 : i <= 63) :
  ∀ (σ : L2.St) (H : Hp) (Q : VK), EnvOk K L2.f0 ρ σ H -> (∀ (p : Addr) (x y : Int) (H' : Hp), Same H H' -> H p = none -> H' p = some (.lst [.int x, .int y]) -> 0 <= x -> 0 <= y -> y < 2147483647 -> Q (.ref p) H') -> aa2 (aei K) [] E2 (yc (yg 0) (yc (yg 1) jX)) σ H Q := by
 intro σ H Q e q
 obtain ⟨v0, hv0, r0⟩ := e.get 0 _ h0
 obtain ⟨v1, hv1, r1⟩ := e.get 1 _ h1
 obtain ⟨a, rfl, hS⟩ := ajc r0
 have e1 : v1 = .int i := rep_int.mp (show Rep K (hide H L2.f0) (.int i) v1 from r1)
 subst e1
 exact ⟨_, hv0, _, hv1, a, ns, i, rfl, hS, hl, i0, i1, q⟩
theorem akP {K : alE} {f : Fx} {ρ : zq} {P : PyData -> Prop} {i : Nat} {rows : List (List Int)} (hi : ρ[i]? = some (some (.dat (tab rows)))) (hl : rows.length <= 1000) (p : P (tab rows)) :
  PEd K f (jz (aen K (yg i)) 1 [] (yP 0) aih fun D => qB D (tCB (fun xs H Q => ∃ p ys, xs = [V.ref p] /\ (SqL K H p ys \/ SqT K H p ys) /\ ∀ l, H l = none -> Q (V.ref l) (upd H l (HO.lst ys))) (yc (yg 0) jX))) ρ P := by
 refine PEdO.ped (aau (A := fun r : List Int => PyData.list (r.map .int)) (B := fun r : List Int => PyData.list (r.map .int)) rows (yi (zl hi ⟨_, rfl, rfl, hl, ?_, p⟩)))
 rintro D r ρ' es hr ho hes
 obtain ⟨u, rfl⟩ := ho.one
 refine zj (ja ?_)
 rw [if_pos rfl]
 exact yC hes (acF (zy (zl rfl (ya (.inl ⟨_, rfl, .mk1, rfl⟩)))))
section
variable {P : Program} {w : World} {K : alE} {mg : Str -> Option Value} {base : Heap} {k : Nat}
theorem aje (F : Def K mg "_law_feed" jQ ["_law_script", "_law_k"]) (m_len : mg "len" = none) (m_abs : mg "abs" = none) : FnIn P w K mg base (k + 1) "_law_feed" ["_law_script", "_law_k"] (aei K) := by
 refine F.raw sc_law_feed (fun vs H Q E h => ?_) fun fa cdv A outer s H vs Q E hr hs => ⟨_, (zc (zD (i := 2) sc_law_feed.nd rfl (Or.inl rfl) zd) (zc (yt (zR agA (zB (ym (K := K) rfl) rfl m_len amJ (za (pv 0) zb)) zd (zX _)) (zh (zD (i := 2) sc_law_feed.nd rfl (Or.inl rfl) (zN (zx (K := K) rfl) (pv 0) (zo qH (pv 1) (zB (ym (K := K) rfl) rfl m_len amJ (za (pv 0) zb))) (fun _ _ => rfl)))) zP) (zh (zu (yn (za (zB (qS) rfl m_abs ano (za (pv 2) zb)) (za (zo zI (zo qG zd (pv 1)) zd) zb))))))), ?_⟩
 ·obtain ⟨a, ns, i, rfl, _⟩ := h
  rfl
 obtain ⟨a, ns, i, rfl, hS, h63, i0, i1, q⟩ := hs
 have e0 : EnvOk K L2.f0 (j7 qN [.dat (scr ns), .dat (.int i)]) (start qN [.ref a, .int i]) H := qm (.cons (afi hS) (.cons (show RepV K L2.f0 H (.dat (.int i)) (.int i) from (rep_int (K := K) (H := hide H L2.f0)).mpr rfl) .nil)) (L2.fok0 H)
 refine agR (D := { nx := fun ρ => ρ = [some (.dat (scr ns)), some (.dat (.int i)), some (.dat (.int 0))], rt := fun _ => False }) ?_ e0 ?_ (fun _ _ _ _ _ z => z.elim) (fun _ z => z) (fun _ z => z)
 ·repeat walk_at "dl"
  rfl
 rintro _ σ1 H1 g1 e1 rfl
 refine agR (D := { nx := fun ρ => ∃ c : Int, ρ = [some (.dat (scr ns)), some (.dat (.int i)), some (.dat (.int c))], rt := fun _ => False }) ?_ e1 ?_ (fun _ _ _ _ _ z => z.elim) (fun _ z => z) (fun _ z => z)
 ·repeat walk_at "dl"
  rw [alD]
  by_cases h : 0 < ns.length
  ·rw [if_pos (by simpa using h)]
   repeat walk_at "dl"
   rw [alD]
   have z0 := aon i (b := (ns.length : Int)) (by omega)
   have z1 := am2 i (b := (ns.length : Int)) (by omega)
   refine ⟨by omega, _, rfl, _, y6 (j := (i % (ns.length : Int)).toNat) (by omega) (by omega), ?_⟩
   repeat walk_at "dl"
   exact ⟨_, rfl⟩
  ·rw [if_neg (by simpa using h)]
   repeat walk_at "dl"
   exact ⟨_, rfl⟩
 rintro _ σ2 H2 g2 e2 ⟨c, rfl⟩
 unfold afq
 have ss : Same H H2 := (L2.same0 g1).trans (L2.same0 g2)
 refine agS (R := fun ds => ∃ x y : Int, ds = [.int x, .int y] /\ 0 <= x /\ 0 <= y /\ y < 2147483647) ?_ e2 ?_
 ·repeat walk_at "dl"
  omega
 ·rintro p ds vs H3 g3 hn rs ⟨x, y, rfl, hx, hy, hy'⟩
  have sf : Same H H3 := ss.trans (L2.same0 g3)
  have ev : vs = [.int x, .int y] := Reps.ints (ns := [x, y]) rs
  subst ev
  exact q p x y _ (sf.trans (yd hn _)) (sf.free hn) zE hx hy hy'
end
open PySem PySem.Spec PyProof.Rows L2
section
variable {P : Program} {w : World} {K : alE} {mg : Str -> Option Value} {base : Heap} {k : Nat}
abbrev aaN (K : alE) : Sp := spD K 2 (fun (c : Int × Int) xs => xs = [.dat (.int c.1), .dat (.int c.2)]) fun c r => r = .int (amC c.1 c.2 : Int)
def alA : zq -> Nat
 | [_, some (.dat (.int b))] => b.toNat
 | _ => 0
theorem ahT (a b : Nat) : apD b (a % b) = apD a b := by rw [Nat.gcd_comm b, <- Nat.gcd_rec, Nat.gcd_comm]
theorem ago (F : Def K mg "common" vh ["one", "other"]) (m_abs : mg "abs" = none) : FnIn P w K mg base (k + 1) "common" ["one", "other"] (aaN K) := by
 refine F.ok sc_common rfl fun fa cdv A outer s H E hr => ⟨_, (zc (agv (i := 0) (j := 1) rfl sc_common.nd rfl rfl (by decide) rfl rfl (za (zB (qS) rfl m_abs ano (za (pv 0) zb)) (za (zB (qS) rfl m_abs ano (za (pv 1) zb)) zb)) rfl) (zc (acu aml (z3 (K := K) rfl (pv 1) (fun _ => rfl)) (zh (agv (i := 0) (j := 1) rfl sc_common.nd rfl rfl (by decide) rfl rfl (za (pv 1) (za (zo qH (pv 0) (pv 1)) zb)) rfl))) (zh (zu (pv 0))))), ?_⟩
 rintro f xs ⟨a, b⟩ hl rfl
 try dsimp only [zW, zi]
 dsimp only at *
 refine zQ (ajt ?_)
 repeat walk_at "dl"
 have ha : (if a < 0 then -a else a) = (a.natAbs : Int) := by split <;> omega
 have hb : (if b < 0 then -b else b) = (b.natAbs : Int) := by split <;> omega
 refine (ain (fun ρ => ∃ p q : Nat, ρ = [some (.dat (.int p)), some (.dat (.int q))] /\ apD p q = amC a b) alA ⟨a.natAbs, b.natAbs, ?_, rfl⟩ ?_)
 ·rw [ha, hb]
  rfl
 rintro _ ⟨p, q, rfl, h⟩
 repeat walk_at "dl"
 refine yF (fun h2 => ?_) fun h2 => ?_
 ·have hq : 0 < q := by
   have : (q : Int) ≠ 0 := by simpa using h2
   omega
  refine ajt ?_
  repeat walk_at "dl"
  refine ⟨⟨q, p % q, ?_, ?_⟩, ?_⟩
  ·rfl
  ·rw [ahT]; exact h
  ·show ((p : Int) % (q : Int)).toNat < ((q : Int)).toNat
   have := Nat.mod_lt p hq
   omega
 ·have hq : q = 0 := by
   have : (q : Int) = 0 := by simpa using h2
   omega
  subst hq
  repeat walk_at "dl"
  rw [Nat.gcd_zero_right] at h
  rw [h]
end
open PySem PySem.Spec PyProof.Rows L2
abbrev Fr2 := Int × Int
def frD (p : Fr2) : PyData := .tuple [.int p.1, .int p.2]
section
variable {P : Program} {w : World} {K : alE} {mg : Str -> Option Value} {base : Heap} {k : Nat}
abbrev afk (K : alE) : Sp := spD K 2 (fun (c : Fr2) xs => xs = [.dat (.int c.1), .dat (.int c.2)] /\ c.2 ≠ 0 /\ c.2.natAbs < qy) fun c r => r = akz (aoE c.1 c.2)
theorem ahU (F : Def K mg "shortened" jm ["top", "bottom"]) (G_common : FnIn P w K mg base k "common" ["one", "other"] (aaN K)) : FnIn P w K mg base (k + 1) "shortened" ["top", "bottom"] (afk K) := by
 refine F.ok sc_shortened rfl fun fa cdv A outer s H E hr => ⟨_, (zc (zD (i := 2) sc_shortened.nd rfl (Or.inl rfl) (ze G_common hr rfl (za (pv 0) (za (pv 1) zb)))) (zc (yt (zR agz (pv 1) zd (zX _)) (zh (zD (i := 2) sc_shortened.nd rfl (Or.inl rfl) (akX ajV (pv 2)))) zP) (zh (zu (zA (za (zo jD (pv 0) (pv 2)) (za (zo jD (pv 1) (pv 2)) zb))))))), ?_⟩
 rintro f xs ⟨t, b⟩ hl ⟨rfl, b0, bh⟩
 try dsimp only [zW, zi]
 dsimp only at *
 obtain ⟨s1, s2⟩ := af3 (t := t) b0
 have gp : 0 < amC t b := aoq t b0
 have gl : amC t b <= b.natAbs := Nat.le_of_dvd (by omega) (Int.ofNat_dvd_left.mp (Int.gcd_dvd_right t b))
 refine zQ (zJ (zp (t, b) (af2 rfl rfl ⟨rfl, rfl, ?_⟩)))
 rintro _ rfl
 refine zj (ac6 (fun ρ => ρ = [some (.dat (.int t)), some (.dat (.int b)), some (.dat (.int (b.sign * (amC t b : Int))))]) ?_ ?_)
 ·refine ajB (b < 0) (t_b (aew (zl rfl ⟨_, rfl, yk ⟨_, rfl, _, rfl, rfl⟩⟩))) (fun h => ?_) fun h => jZ ?_
  ·refine zJ (ak6 (zl rfl ⟨_, rfl, zj ?_⟩))
   rw [amI h, Int.neg_one_mul]
   rfl
  ·have : 0 < b := by omega
   rw [amY this, apC]
   rfl
 rintro _ rfl
 have nz : b.sign * ((amC t b : Nat) : Int) ≠ 0 := Int.mul_ne_zero (fun z => b0 (Int.sign_eq_zero_iff_zero.mp z)) (by omega)
 have nh : (b.sign * ((amC t b : Nat) : Int)).natAbs < qy := by
  rw [aoF, am3]
  have : b.sign.natAbs = 1 := by
   rcases anZ b 0 with h | h | h
   ·rw [amI h]; rfl
   ·exact absurd h b0
   ·rw [amY h]; rfl
  rw [this, Nat.one_mul]
  omega
 refine yy (jV (zy (z9 (zl rfl ⟨_, rfl, zl rfl ⟨_, rfl, ⟨nz, nh⟩, zy (z9 (zl rfl ⟨_, rfl, zl rfl ⟨_, rfl, ⟨nz, nh⟩, ya ⟨_, rfl, by show 2 <= 1000; decide, ?_⟩⟩⟩))⟩⟩))))
 show PyData.tuple [.int _, .int _] = akz _
 rw [s1, s2]
 rfl
end
open PySem PySem.Spec PyProof.Rows L2
theorem je {rows : List (List Int)} {wd : Nat} {cut x y w : Int} (h : yb rows wd cut x y w = true) : qe rows wd x y w = true := by
 unfold yb at h
 rw [alM] at h
 exact h.1
theorem qw {rows : List (List Int)} {wd : Nat} {x y : Int} (g : Good wd rows) (h : zT rows wd x y = true) : -1000000000 <= zv rows x y /\ zv rows x y <= 1000000000 := by
 obtain ⟨x0, x1, y0, y1⟩ := yL h
 have hy : y.toNat < rows.length := by omega
 have hr := g.row _ (al9 hy)
 have hx : x.toNat < rows[y.toNat].length := by omega
 have := g.hgt _ (al9 hy) _ (al9 hx)
 unfold zv
 rw [alF, alF, alB hy, Option.getD_some, alB hx]
 exact this
def TT (rows : List (List Int)) (cut x y : Int) : Int := 2 * cut + 1 - 2 * zv rows x y
def BB (rows : List (List Int)) (x y w : Int) : Int := 2 * (zv rows (px x w) (py y w) - zv rows x y)
theorem vo {rows : List (List Int)} {wd : Nat} {cut x y w : Int} (h : yb rows wd cut x y w = true) : (0 < TT rows cut x y /\ TT rows cut x y < BB rows x y w) \/ (TT rows cut x y < 0 /\ BB rows x y w < TT rows cut x y) := by
 unfold yb at h
 rw [alM] at h
 have h2 := h.2
 unfold TT BB
 generalize zv rows x y = a at *
 generalize zv rows (px x w) (py y w) = b at *
 by_cases ha : cut < a
 ·by_cases hb : cut < b
  ·rw [decide_eq_true ha, decide_eq_true hb] at h2
   cases h2
  ·omega
 ·by_cases hb : cut < b
  ·omega
  ·rw [decide_eq_false ha, decide_eq_false hb] at h2
   cases h2
theorem abt {rows : List (List Int)} {wd : Nat} {cut x y w : Int} (h : yb rows wd cut x y w = true) : BB rows x y w ≠ 0 := by
 have := vo h
 omega
theorem ajE {rows : List (List Int)} {wd : Nat} {cut x y w : Int} (g : Good wd rows) (h : yb rows wd cut x y w = true) : (BB rows x y w).natAbs <= 4000000000 := by
 obtain ⟨i1, i2⟩ := jc (je h)
 have b1 := qw g i1
 have b2 := qw g i2
 unfold BB
 omega
theorem w01 {rows : List (List Int)} {wd : Nat} {cut x y w : Int} (h : yb rows wd cut x y w = true) : w = 0 \/ w = 1 := by
 have h := je h
 unfold qe at h
 rw [alM] at h
 exact of_decide_eq_true h.1
def shQ (rows : List (List Int)) (cut : Int) (g : Gt) : Rat := aoE (TT rows cut g.1 g.2.1) (BB rows g.1 g.2.1 g.2.2)
def plT (rows : List (List Int)) (cut : Int) (g : Gt) : Gt := if g.2.2 = 0 then (g.1 * ((shQ rows cut g).den : Int) + (shQ rows cut g).num, g.2.1 * ((shQ rows cut g).den : Int), ((shQ rows cut g).den : Int)) else (g.1 * ((shQ rows cut g).den : Int), g.2.1 * ((shQ rows cut g).den : Int) + (shQ rows cut g).num, ((shQ rows cut g).den : Int))
theorem ajF {rows : List (List Int)} {wd : Nat} {cut : Int} {g : Gt} (gd : Good wd rows) (o : opG rows wd cut g = true) : (shQ rows cut g).num.natAbs <= 4000000000 /\ (shQ rows cut g).den <= 4000000000 /\ 0 < (shQ rows cut g).den := by
 have h1 := ajE gd o
 have h2 := vo o
 refine ⟨alZ (adZ _ _) (by omega), alZ (ad0 (abt o)) h1, (shQ rows cut g).den_pos⟩
def PlB (p : Gt) : Prop := p.1.natAbs <= 32000000000 /\ p.2.1.natAbs <= 32000000000 /\ 0 < p.2.2 /\ p.2.2 <= 4000000000
theorem alm {rows : List (List Int)} {wd : Nat} {cut : Int} {g : Gt} (gd : Good wd rows) (o : opG rows wd cut g = true) : PlB (plT rows cut g) := by
 obtain ⟨b1, b2, b3⟩ := ajF gd o
 obtain ⟨i1, i2⟩ := jc (je o)
 obtain ⟨x0, x1, y0, y1⟩ := yL i1
 have w2 := gd.w2
 have h2 := gd.h2
 have mx : ∀ a : Int, 0 <= a -> a < 7 -> (a * ((shQ rows cut g).den : Int)).natAbs <= 28000000000 := fun a a0 a1 => by
  have : a = 0 \/ a = 1 \/ a = 2 \/ a = 3 \/ a = 4 \/ a = 5 \/ a = 6 := by omega
  rcases this with rfl | rfl | rfl | rfl | rfl | rfl | rfl <;> omega
 have m1 := mx g.1 x0 (by omega)
 have m2 := mx g.2.1 y0 (by omega)
 unfold PlB plT
 split
 ·dsimp only
  omega
 ·dsimp only
  omega
section
variable {P : Program} {w : World} {K : alE} {mg : Str -> Option Value} {base : Heap} {k : Nat}
abbrev afl (K : alE) : Sp := spD K 3 agh fun c r => r = akz (shQ c.1 c.2.2.1 c.2.2.2)
theorem ahV (F : Def K mg "share" aad ["rows", "cut", "gate"]) (G_gate_points : FnIn P w K mg base k "gate_points" ["gate"] (ae4 K)) (G_shortened : FnIn P w K mg base k "shortened" ["top", "bottom"] (afk K)) : FnIn P w K mg base (k + 1) "share" ["rows", "cut", "gate"] (afl K) := by
 refine F.ok sc_share rfl fun fa cdv A outer s H E hr => ⟨_, (zc (z8 (yp (N := ["x", "y", "rows"]) (own := 2) (fr := [0]) ⟨rfl, by decide +kernel, of_decide_eq_true (by kernel_rfl), of_decide_eq_true (by kernel_rfl), of_decide_eq_true (by kernel_rfl), rfl⟩ rfl (zO (K := K) rfl (ze G_gate_points hr rfl (za (pv 2) zb))) (fun _ _ _ _ => (zH (K := K) (n := 2) rfl rfl (zg (zf (i := 0) (show (["x", "y", "rows"] : List Str).Nodup by decide +kernel) rfl (Or.inl rfl) (Or.inr rfl)) (zg (zf (i := 1) (show (["x", "y", "rows"] : List Str).Nodup by decide +kernel) rfl (Or.inl rfl) (Or.inr rfl)) zF)))) (fun _ _ _ _ => yh) (fun _ _ _ _ => (zN (zx (K := K) rfl) (zN (zx (K := K) rfl) (pv 2) (pv 1) (fun _ _ => rfl)) (pv 0) (fun _ _ => rfl))) rfl rfl (fun _ => rfl)) (abK (K := K) (n := 2) rfl rfl (zg (zf (i := 3) sc_share.nd rfl (Or.inl rfl) (Or.inr rfl)) (zg (zf (i := 4) sc_share.nd rfl (Or.inl rfl) (Or.inr rfl)) zF)))) (zh (zu (ze G_shortened hr rfl (za (zo yB (zo zI (zo z7 zd (pv 1)) zd) (zo z7 zd (pv 3))) (za (zo z7 zd (zo yB (pv 4) (pv 3))) zb)))))), ?_⟩
 rintro f xs ⟨rows, wd, cut, x, y, w⟩ hl ⟨rfl, g, ho⟩
 try dsimp only [zW, zi]
 dsimp only at *
 obtain ⟨i1, i2⟩ := jc (je ho)
 have n0 : BB rows x y w ≠ 0 := abt ho
 have n1 : (BB rows x y w).natAbs <= 4000000000 := ajE g ho
 refine zQ (zJ (PEdO.ped (aau (A := fun p : Int × Int => PyData.tuple [.int p.1, .int p.2]) (B := fun p : Int × Int => PyData.int (zv rows p.1 p.2)) [(x, y), (px x w, py y w)] (yi (zp (x, y, w) (ac7 rfl ⟨rfl, rfl, ?_⟩))))))
 rintro _ rfl
 refine ⟨_, rfl, rfl, show 2 <= 1000 by decide, ?_, ?_⟩
 ·rintro D p ρ' es hp ho hes
  obtain ⟨u, v, rfl⟩ := ho.two
  have hi : zT rows wd p.1 p.2 = true := by
   simp only [alO, amL, or_false] at hp
   rcases hp with rfl | rfl
   ·exact i1
   ·exact i2
  obtain ⟨r, h1, h2⟩ := qf g hi
  refine yE rfl (zr (zj (zr (zj (zZ (ja ?_))))))
  rw [if_pos rfl]
  refine yC hes ?_
  unfold tab
  repeat walk_at "dl"
  refine ⟨_, h1, ?_⟩
  repeat walk_at "dl"
  refine ⟨_, h2, ?_⟩
  exact ⟨.mk2, rfl⟩
 ·refine agX rfl (zr (zj (zr (zj (zZ ?_)))))
  have sm : ∀ {i : Int}, i.natAbs < 2 ^ 60 -> i.natAbs < qy := fun h => jK h (by decide)
  have b1 : -1000000000 <= zv rows x y /\ zv rows x y <= 1000000000 := qw g i1
  have b2 : -1000000000 <= zv rows (px x w) (py y w) /\ zv rows (px x w) (py y w) <= 1000000000 := qw g i2
  have cb : (cut : Int).natAbs < 2 ^ 60 := by
   have : (0 < TT rows cut x y /\ TT rows cut x y < BB rows x y w) \/ (TT rows cut x y < 0 /\ BB rows x y w < TT rows cut x y) := vo ho
   unfold TT BB at this
   omega
  refine yy (zp (TT rows cut x y, BB rows x y w) ?_)
  refine zy (yx (yx (z9 (yk ⟨_, rfl, zl rfl ⟨_, rfl, ⟨sm (by decide), sm cb⟩, _, rfl, yk ⟨_, rfl, _, rfl, z9 (yk ⟨_, rfl, zl rfl ⟨_, rfl, ⟨sm (by decide), sm (show (zv rows x y).natAbs < _ by omega)⟩, _, rfl, ?_⟩⟩)⟩⟩⟩))))
  refine zy (z9 (yk ⟨_, rfl, yx (zl rfl ⟨_, rfl, zl rfl ⟨_, rfl, _, rfl, ⟨sm (by decide), sm (show (zv rows (px x w) (py y w) - zv rows x y).natAbs < _ by omega)⟩, ya ⟨rfl, ⟨rfl, n0, sm (by omega)⟩, ?_⟩⟩⟩)⟩))
  rintro _ rfl
  rfl
abbrev abu (K : alE) : Sp := spD K 3 agh fun c r => r = gD3 (plT c.1 c.2.2.1 c.2.2.2)
theorem adA (F : Def K mg "place_of" jO ["rows", "cut", "gate"]) (G_share : FnIn P w K mg base k "share" ["rows", "cut", "gate"] (afl K)) : FnIn P w K mg base (k + 1) "place_of" ["rows", "cut", "gate"] (abu K) := by
 refine F.ok sc_place_of rfl fun fa cdv A outer s H E hr => ⟨_, (zc (z8 (pv 2) (zH (K := K) (n := 3) rfl rfl (zg (zf (i := 3) sc_place_of.nd rfl (Or.inl rfl) (Or.inr rfl)) (zg (zf (i := 4) sc_place_of.nd rfl (Or.inl rfl) (Or.inr rfl)) (zg (zf (i := 5) sc_place_of.nd rfl (Or.inl rfl) (Or.inr rfl)) zF))))) (zc (z8 (ze G_share hr rfl (za (pv 0) (za (pv 1) (za (pv 2) zb)))) (zH (K := K) (n := 2) rfl rfl (zg (zf (i := 6) sc_place_of.nd rfl (Or.inl rfl) (Or.inr rfl)) (zg (zf (i := 7) sc_place_of.nd rfl (Or.inl rfl) (Or.inr rfl)) zF)))) (zc (yt (zR (aar (K := K) rfl hr.units) (pv 5) zd (zX _)) (zh (zu (zA (za (zo zI (zo z7 (pv 3) (pv 7)) (pv 6)) (za (zo z7 (pv 4) (pv 7)) (za (pv 7) zb)))))) zP) (zh (zu (zA (za (zo z7 (pv 3) (pv 7)) (za (zo zI (zo z7 (pv 4) (pv 7)) (pv 6)) (za (pv 7) zb))))))))), ?_⟩
 rintro f xs ⟨rows, wd, cut, x, y, w⟩ hl ⟨rfl, g, ho⟩
 try dsimp only [zW, zi]
 dsimp only at *
 obtain ⟨b1, b2, b3⟩ := ajF g ho
 obtain ⟨i1, i2⟩ := jc (je ho)
 obtain ⟨x0, x1, y0, y1⟩ := yL i1
 have w2 := g.w2
 have h2 := g.h2
 have sm : ∀ {i : Int}, i.natAbs < 2 ^ 60 -> i.natAbs < qy := fun h => jK h (by decide)
 refine zQ (zJ (zl rfl (yE rfl (zr (zj (zr (zj (zr (zj (zZ ?_))))))))))
 refine zQ (zJ (zp (rows, wd, cut, x, y, w) (aky rfl rfl rfl ⟨rfl, ⟨rfl, g, ho⟩, ?_⟩)))
 rintro _ rfl
 dsimp only
 have cx : CMulH x ((shQ rows cut (x, y, w)).den : Int) := ⟨sm (by dsimp only at x0 x1; omega), sm (by rw [am3]; omega)⟩
 have cy : CMulH y ((shQ rows cut (x, y, w)).den : Int) := ⟨sm (by dsimp only at y0 y1; omega), sm (by rw [am3]; omega)⟩
 refine yE rfl (zr (zj (zr (zj (zZ ?_)))))
 refine zQ (ajB (w = 0) (ali rfl) (fun h => ?_) fun h => jZ ?_)
 ·refine yy (jV (zy (yx (z9 (zl rfl ⟨_, rfl, zl rfl ⟨_, rfl, cx, _, rfl, zl rfl ⟨_, rfl, zy (z9 (zl rfl ⟨_, rfl, zl rfl ⟨_, rfl, cy, zy (zl rfl (ya ⟨_, rfl, by show 3 <= 1000; decide, ?_⟩))⟩⟩))⟩⟩⟩)))))
  unfold plT
  rw [if_pos h]
  rfl
 ·refine yy (jV (zy (z9 (zl rfl ⟨_, rfl, zl rfl ⟨_, rfl, cx, zy (yx (z9 (zl rfl ⟨_, rfl, zl rfl ⟨_, rfl, cy, _, rfl, zl rfl ⟨_, rfl, zy (zl rfl (ya ⟨_, rfl, by show 3 <= 1000; decide, ?_⟩))⟩⟩⟩)))⟩⟩))))
  unfold plT
  rw [if_neg h]
  rfl
end
open PySem PySem.Spec PyProof.Rows L2
abbrev Pt := Int × Int
def pD (p : Pt) : PyData := .tuple [.int p.1, .int p.2]
def inP (rows : List (List Int)) (wd : Nat) (p : Pt) : Bool := zT rows wd p.1 p.2
def nbL (p : Pt) : List Pt := [(p.1 - 1, p.2), (p.1, p.2 - 1), (p.1, p.2 + 1), (p.1 + 1, p.2)]
section
variable {P : Program} {w : World} {K : alE} {mg : Str -> Option Value} {base : Heap} {k : Nat}
abbrev TP := List (List Int) × Nat × Int × Int
abbrev aln (K : alE) : Sp := spD K 3 (fun (c : TP) xs => xs = [.dat (tab c.1), .dat (.int c.2.2.1), .dat (.int c.2.2.2)] /\ Good c.2.1 c.1) fun c r => r = .list (((nbL (c.2.2.1, c.2.2.2)).filter (inP c.1 c.2.1)).map pD)
theorem alo (F : Def K mg "neighbours" yW ["rows", "x", "y"]) (G_has_point : FnIn P w K mg base k "has_point" ["rows", "x", "y"] (ae3 K)) : FnIn P w K mg base (k + 1) "neighbours" ["rows", "x", "y"] (aln K) := by
 refine F.ok sc_neighbours rfl fun fa cdv A outer s H E hr => ⟨_, (zc (zD (i := 3) sc_neighbours.nd rfl (Or.inl rfl) (yn (za (zA (za (zo yB (pv 1) zd) (za (pv 2) zb))) (za (zA (za (pv 1) (za (zo yB (pv 2) zd) zb))) (za (zA (za (pv 1) (za (zo zI (pv 2) zd) zb))) (za (zA (za (zo zI (pv 1) zd) (za (pv 2) zb))) zb)))))) (zh (zu (yp (N := ["a", "b", "rows"]) (own := 2) (fr := [0]) ⟨rfl, by decide +kernel, of_decide_eq_true (by kernel_rfl), of_decide_eq_true (by kernel_rfl), of_decide_eq_true (by kernel_rfl), rfl⟩ rfl (zO (K := K) rfl (pv 3)) (fun _ _ _ _ => (zH (K := K) (n := 2) rfl rfl (zg (zf (i := 0) (show (["a", "b", "rows"] : List Str).Nodup by decide +kernel) rfl (Or.inl rfl) (Or.inr rfl)) (zg (zf (i := 1) (show (["a", "b", "rows"] : List Str).Nodup by decide +kernel) rfl (Or.inl rfl) (Or.inr rfl)) zF)))) (fun _ _ _ _ => (vZ (z3 (K := K) rfl (ze G_has_point hr rfl (za (pv 2) (za (pv 0) (za (pv 1) zb)))) (fun _ => rfl)))) (fun _ _ _ _ => (zA (za (pv 0) (za (pv 1) zb)))) rfl rfl (fun _ => rfl))))), ?_⟩
 rintro f xs ⟨rows, wd, x, y⟩ hl ⟨rfl, g⟩
 try dsimp only [zW, zi]
 dsimp only at *
 refine ac6 (fun ρ => ρ = [some (.dat (tab rows)), some (.dat (.int x)), some (.dat (.int y)), some (.dat (.list ((nbL (x, y)).map pD)))]) ?_ ?_
 ·repeat walk_at "dl"
  rfl
 rintro _ rfl
 refine yy (PEdO.ped (akw (A := pD) (B := pD) (inP rows wd) (nbL (x, y)) (yi (zl rfl ⟨_, rfl, rfl, aoh rfl, ?_, rfl⟩))))
 rintro D ⟨a, b⟩ ρ' es hg ho hes
 obtain ⟨us, hus, rfl⟩ := ho
 match us, hus with
 | [u1, u2], _ =>
  refine yE rfl (zr (zj (zr (zj (zZ (yV (zp (rows, wd, a, b) ?_)))))))
  repeat walk_at "dl"
  rintro _ rfl
  refine ⟨_, rfl, rfl, yF (fun h => ?_) fun h => ?_⟩
  ·refine yC hes ?_
   repeat walk_at "dl"
   exact ⟨⟨[_, _], rfl, rfl⟩, rfl⟩
  ·exact ⟨[_, _], rfl, rfl⟩
end
open PySem PySem.Spec PyProof.Rows L2
def Lcm (l : List Nat) (s : Nat) : Prop := 0 < s /\ ∀ m : Nat, s ∣ m ↔ ∀ d ∈ l, d ≠ 0 -> d ∣ m
theorem ajf : Lcm [] 1 := ⟨by decide, fun m => Iff.intro (fun _ d h => by cases h) (fun _ => Nat.one_dvd m)⟩
theorem lcm_zero {l : List Nat} {s : Nat} (h : Lcm l s) : Lcm (l ++ [0]) s := ⟨h.1, fun m => by
 rw [h.2 m]
 constructor
 ·intro q d hd nz
  rcases amh.mp hd with hd | hd
  ·exact q d hd nz
  ·rw [al7.mp hd] at nz; exact absurd rfl nz
 ·exact fun q d hd => q d (amt _ hd)⟩
theorem ahW {l : List Nat} {s d : Nat} (h : Lcm l s) (hd : 0 < d) : Lcm (l ++ [d]) (apE s d) := ⟨Nat.lcm_pos h.1 hd, fun m => by
 rw [Nat.lcm_dvd_iff, h.2 m]
 constructor
 ·rintro ⟨q1, q2⟩ e he nz
  rcases amh.mp he with he | he
  ·exact q1 e he nz
  ·rw [al7.mp he]; exact q2
 ·exact fun q => ⟨fun e he => q e (amt _ he), q d (alX _ (al7.mpr rfl)) (anw hd)⟩⟩
theorem ahX {l m : List Nat} {s t : Nat} (h : Lcm l s) (h' : Lcm m t) (e : ∀ d, d ≠ 0 -> (d ∈ l ↔ d ∈ m)) : s = t :=
 Nat.dvd_antisymm ((h.2 t).mpr fun d hd nz => (h'.2 t).mp (apz t) d ((e d nz).mp hd) nz) ((h'.2 s).mpr fun d hd nz => (h.2 s).mp (apz s) d ((e d nz).mpr hd) nz)
theorem lcm_one {s d : Nat} (hd : 0 < d) : s / apD s d * d = apE s d := by
 rw [apE, Nat.div_mul_right_comm (Nat.gcd_dvd_left s d)]
def gap (rows : List (List Int)) (p q : Pt) : Nat := 2 * (zv rows p.1 p.2 - zv rows q.1 q.2).natAbs
def vW (t n : Nat) : List Pt := (alY n).flatMap fun (x : Nat) => (alY t).map fun (y : Nat) => ((x : Int), (y : Int))
theorem afm (t n : Nat) : jE t n = (vW t n).map pD := by
 unfold jE vW
 rw [aoY]
 congr 1
 funext x
 rw [anY]
 rfl
theorem mem_npts {t n : Nat} {p : Pt} : p ∈ vW t n ↔ 0 <= p.1 /\ p.1 < n /\ 0 <= p.2 /\ p.2 < t := by
 unfold vW
 rw [amb]
 constructor
 ·rintro ⟨x, hx, hp⟩
  obtain ⟨y, hy, rfl⟩ := al1.mp hp
  have hx := al8.mp hx
  have hy := al8.mp hy
  dsimp only
  omega
 ·rintro ⟨h1, h2, h3, h4⟩
  refine ⟨p.1.toNat, al8.mpr (show p.1.toNat < n by omega), al1.mpr ⟨p.2.toNat, al8.mpr (show p.2.toNat < t by omega), ?_⟩⟩
  obtain ⟨a, b⟩ := p
  dsimp only at *
  rw [anG h1, anG h3]
def qj (rows : List (List Int)) (wd : Nat) (p : Pt) : List Nat := ((nbL p).filter (inP rows wd)).map (gap rows p)
def vX (rows : List (List Int)) (wd : Nat) : List Nat := (vW rows.length wd).flatMap (qj rows wd)
section
variable {P : Program} {w : World} {K : alE} {mg : Str -> Option Value} {base : Heap} {k : Nat}
theorem adB {rows : List (List Int)} {wd : Nat} (g : Good wd rows) {x y : Int} (h : zT rows wd x y = true) : ∃ r : List Int, atI (rows.map fun r => PyData.list (r.map .int)) y = some (.list (r.map .int)) /\ atI (r.map PyData.int) x = some (.int (zv rows x y)) := by
 obtain ⟨h1, h2, h3, h4⟩ := yL h
 obtain ⟨r, er⟩ : ∃ r, rows[y.toNat]? = some r := ⟨_, alB (by omega)⟩
 have rl := g.row r (alN er)
 obtain ⟨c, ec⟩ : ∃ c, r[x.toNat]? = some c := ⟨_, alB (by omega)⟩
 have e1 : zv rows x y = c := by
  unfold zv
  rw [alF, alF, er]
  show (r[x.toNat]?).getD 0 = c
  rw [ec]
  rfl
 refine ⟨r, ?_, ?_⟩
 ·have := vY (j := y.toNat) (show (rows.map fun r => PyData.list (r.map .int))[y.toNat]? = some (.list (r.map .int)) by rw [alJ, er]; rfl)
  rw [anG h3] at this
  exact this
 ·rw [e1]
  have := vY (j := x.toNat) (show (r.map PyData.int)[x.toNat]? = some (.int c) by rw [alJ, ec]; rfl)
  rw [anG h1] at this
  exact this
theorem vp {rows : List (List Int)} {wd : Nat} (g : Good wd rows) {x y : Int} (h : zT rows wd x y = true) : -1000000000 <= zv rows x y /\ zv rows x y <= 1000000000 := by
 obtain ⟨h1, h2, h3, h4⟩ := yL h
 obtain ⟨r, er⟩ : ∃ r, rows[y.toNat]? = some r := ⟨_, alB (by omega)⟩
 have rl := g.row r (alN er)
 obtain ⟨c, ec⟩ : ∃ c, r[x.toNat]? = some c := ⟨_, alB (by omega)⟩
 have e1 : zv rows x y = c := by
  unfold zv
  rw [alF, alF, er]
  show (r[x.toNat]?).getD 0 = c
  rw [ec]
  rfl
 rw [e1]
 exact g.hgt r (alN er) c (alN ec)
abbrev alp (c : List (List Int) × Nat) (xs : List DV) : Prop := xs = [.dat (tab c.1)] /\ Good c.2 c.1
abbrev aco (K : alE) : Sp := spD K 1 alp fun c r => ∃ s : Nat, r = .int s /\ Lcm (vX c.1 c.2) s
theorem ahY (F : Def K mg "scale_of" jP ["rows"]) (m_abs : mg "abs" = none) (G_ask_table : FnIn P w K mg base k "ask_table" ["rows"] (adk K)) (G_points : FnIn P w K mg base k "points" ["rows"] (aaF K)) (G_neighbours : FnIn P w K mg base k "neighbours" ["rows", "x", "y"] (aln K)) (G_common : FnIn P w K mg base k "common" ["one", "other"] (aaN K)) : FnIn P w K mg base (k + 1) "scale_of" ["rows"] (aco K) := by
 refine F.ok sc_scale_of rfl fun fa cdv A outer s H E hr => ⟨_, (zc (yM (ze G_ask_table hr rfl (za (pv 0) zb))) (zc (zD (i := 1) sc_scale_of.nd rfl (Or.inl rfl) zd) (zc (yR aml rfl (zO (K := K) rfl (ze G_points hr rfl (za (pv 0) zb))) (zH (K := K) (n := 2) rfl rfl (zg (zf (i := 2) sc_scale_of.nd rfl (Or.inl rfl) (Or.inr rfl)) (zg (zf (i := 3) sc_scale_of.nd rfl (Or.inl rfl) (Or.inr rfl)) zF))) (zh (yR aml rfl (zO (K := K) rfl (ze G_neighbours hr rfl (za (pv 0) (za (pv 2) (za (pv 3) zb))))) (zH (K := K) (n := 2) rfl rfl (zg (zf (i := 4) sc_scale_of.nd rfl (Or.inl rfl) (Or.inr rfl)) (zg (zf (i := 5) sc_scale_of.nd rfl (Or.inl rfl) (Or.inr rfl)) zF))) (zc (zD (i := 6) sc_scale_of.nd rfl (Or.inl rfl) (zo qG zd (zB (qS) rfl m_abs ano (za (zo yB (zN (zx (K := K) rfl) (zN (zx (K := K) rfl) (pv 0) (pv 3) (fun _ _ => rfl)) (pv 2) (fun _ _ => rfl)) (zN (zx (K := K) rfl) (zN (zx (K := K) rfl) (pv 0) (pv 5) (fun _ _ => rfl)) (pv 4) (fun _ _ => rfl))) zb)))) (zh (yt (z3 (K := K) rfl (pv 6) (fun _ => rfl)) (zh (zD (i := 1) sc_scale_of.nd rfl (Or.inl rfl) (zo qG (zo aat (pv 1) (ze G_common hr rfl (za (pv 1) (za (pv 6) zb)))) (pv 6)))) zP)))))) (zh (zu (pv 1)))))), ?_⟩
 rintro f xs ⟨rows, wd⟩ hl ⟨rfl, g⟩
 try dsimp only [zW, zi]
 dsimp only at *
 refine zQ (vw (zp (rows, wd) ?_))
 repeat walk_at "dl"
 rintro _ rfl
 refine zQ (zJ (yk (zj ?_)))
 refine ac6 (fun ρ => ∃ (s : Nat) (x3 x4 x5 x6 x7 : Option DV), ρ = [some (.dat (tab rows)), some (.dat (.int s)), x3, x4, x5, x6, x7] /\ Lcm (vX rows wd) s) (acK (yi (zp (rows, wd) ?_))) ?_
 ·repeat walk_at "dl"
  rintro _ rfl
  refine ⟨_, rfl, fun i ρ => ∃ (s : Nat) (x3 x4 x5 x6 x7 : Option DV), ρ = [some (.dat (tab rows)), some (.dat (.int s)), x3, x4, x5, x6, x7] /\ Lcm (((vW rows.length wd).take i).flatMap (qj rows wd)) s, ⟨1, _, _, _, _, _, rfl, ajf⟩, ?_, ?_⟩
  ·rintro i d _ hd ⟨s, x3, x4, x5, x6, x7, rfl, L⟩
   dsimp only at hd
   rw [afm, alJ] at hd
   cases ep : (vW rows.length wd)[i]? with
   | none => rw [ep] at hd; cases hd
   | some p =>
    rw [ep] at hd
    cases hd
    obtain ⟨x, y⟩ := p
    have tk : ((vW rows.length wd).take (i + 1)).flatMap (qj rows wd) = ((vW rows.length wd).take i).flatMap (qj rows wd) ++ qj rows wd (x, y) := by
     rw [amB, ep, amw]
     simp
    obtain ⟨p1, p2, p3, p4⟩ := mem_npts.mp (alN ep)
    dsimp only at p1 p2 p3 p4
    have ip : zT rows wd x y = true := by
     unfold zT
     rw [decide_eq_true (by omega), decide_eq_true (by omega)]
     rfl
    obtain ⟨r, a1, a2⟩ := adB g ip
    have b1 := vp g ip
    refine yE rfl (zr (zj (zr (zj (zZ (acK (yi (zp (rows, wd, x, y) ?_))))))))
    repeat walk_at "dl"
    rintro _ rfl
    dsimp only
    generalize hB : ((vW rows.length wd).take i).flatMap (qj rows wd) = B at L tk
    refine ⟨_, rfl, fun j ρ => ∃ (s : Nat) (x5 x6 x7 : Option DV), ρ = [some (.dat (tab rows)), some (.dat (.int s)), some (.dat (.int x)), some (.dat (.int y)), x5, x6, x7] /\ Lcm (B ++ (((nbL (x, y)).filter (inP rows wd)).take j).map (gap rows (x, y))) s, ⟨s, _, _, _, rfl, by simpa using L⟩, ?_, ?_⟩
    ·rintro j d _ hd ⟨s, x5, x6, x7, rfl, L⟩
     rw [alJ] at hd
     cases eq : ((nbL (x, y)).filter (inP rows wd))[j]? with
     | none => rw [eq] at hd; cases hd
     | some q =>
      rw [eq] at hd
      cases hd
      obtain ⟨a, b⟩ := q
      have iq : zT rows wd a b = true := (amE.mp (alN eq)).2
      obtain ⟨r', a3, a4⟩ := adB g iq
      have b2 := vp g iq
      have tk2 : B ++ (((nbL (x, y)).filter (inP rows wd)).take (j + 1)).map (gap rows (x, y)) = (B ++ (((nbL (x, y)).filter (inP rows wd)).take j).map (gap rows (x, y))) ++ [gap rows (x, y) (a, b)] := by
       rw [amB, eq, al6, amR]
       rfl
      have eb : (2 : Int) * (if zv rows x y - zv rows a b < 0 then -(zv rows x y - zv rows a b) else zv rows x y - zv rows a b) = (gap rows (x, y) (a, b) : Nat) := by
       unfold gap
       dsimp only
       split <;> omega
      have gb : gap rows (x, y) (a, b) <= 4000000000 := by
       unfold gap
       dsimp only
       omega
      refine yE rfl (zr (zj (zr (zj (zZ ?_)))))
      generalize hg : gap rows (x, y) (a, b) = d at eb gb tk2
      refine ac6 (fun ρ => ρ = [some (.dat (tab rows)), some (.dat (.int s)), some (.dat (.int x)), some (.dat (.int y)), some (.dat (.int a)), some (.dat (.int b)), some (.dat (.int (d : Int)))]) (zJ ?_) ?_
      ·repeat walk_at "dl"
       refine ⟨_, a1, ?_⟩
       repeat walk_at "dl"
       refine ⟨_, a2, ?_⟩
       repeat walk_at "dl"
       refine ⟨_, a3, ?_⟩
       repeat walk_at "dl"
       refine ⟨_, a4, ?_⟩
       repeat walk_at "dl"
       show [_, _, _, _, _, _, some (DV.dat (.int (2 * (if zv rows x y - zv rows a b < 0 then -(zv rows x y - zv rows a b) else zv rows x y - zv rows a b))))] = _
       rw [eb]
      rintro _ rfl
      refine aaS (yV (zl rfl ⟨_, rfl, yF (fun h => ?_) fun h => ?_⟩))
      ·have nz : 0 < d := by
        have : (d : Int) ≠ 0 := by simpa using h
        omega
       have gp := Nat.gcd_pos_of_pos_right s nz
       have gl := Nat.gcd_le_right s nz
       have ei : ((s : Int) / ((amC (s : Int) (d : Int) : Nat) : Int)) * (d : Int) = ((apE s d : Nat) : Int) := by
        rw [<- lcm_one nz]
        rfl
       have gi : ((amC (s : Int) (d : Int) : Nat) : Int) = ((apD s d : Nat) : Int) := rfl
       refine zJ ?_
       repeat walk_at "dl"
       refine zp ((s : Int), (d : Int)) ?_
       repeat walk_at "dl"
       rintro _ rfl
       refine ⟨_, rfl, ⟨by dsimp only; omega, by dsimp only; omega⟩, _, rfl, zl rfl ⟨_, rfl, .inr ⟨by omega, by omega⟩, zj ⟨apE s d, some (.dat (.int a)), some (.dat (.int b)), some (.dat (.int d)), ?_, ?_⟩⟩⟩
       ·rw [<- ei]
        rfl
       ·rw [tk2]
        exact ahW L nz
      ·have z : d = 0 := by
        have : (d : Int) = 0 := by simpa using h
        omega
       refine jZ ⟨s, _, _, _, rfl, ?_⟩
       rw [tk2, z]
       exact lcm_zero L
    ·rintro _ ⟨s, x5, x6, x7, rfl, L⟩
     rw [alD, amg] at L
     exact ⟨s, _, _, _, _, _, rfl, by rw [tk]; exact L⟩
  ·rintro _ ⟨s, x3, x4, x5, x6, x7, rfl, L⟩
   rw [afm, alD, amg] at L
   exact ⟨s, _, _, _, _, _, rfl, L⟩
 ·rintro _ ⟨s, x3, x4, x5, x6, x7, rfl, L⟩
  exact yy (zl rfl ⟨s, rfl, L⟩)
end
open PySem PySem.Spec PyProof.Rows L2
def aag (rows : List (List Int)) (wd : Nat) (cut : Int) (ts : List (Bool × List Gt)) : Prop := Told rows wd cut ts /\ (∀ g, opG rows wd cut g = true -> g ∈ flat ts) /\ (ts.map yA).Pairwise fun d e => ltD d e = true
noncomputable def linesOf (rows : List (List Int)) (wd : Nat) (cut : Int) : List (Bool × List Gt) := Classical.epsilon (aag rows wd cut)
theorem adC {rows : List (List Int)} {wd : Nat} {cut : Int} {ts : List (Bool × List Gt)} (h : aag rows wd cut ts) : linesOf rows wd cut = ts := by
 have h' : aag rows wd cut (linesOf rows wd cut) := Classical.epsilon_spec (p := aag rows wd cut) ⟨ts, h⟩
 exact ahS h'.1 h.1 h'.2.1 h.2.1 h'.2.2 h.2.2
def scP (rows : List (List Int)) (cut : Int) (s : Nat) (g : Gt) : Pt := ((plT rows cut g).1 * s / (plT rows cut g).2.2, (plT rows cut g).2.1 * s / (plT rows cut g).2.2)
def wbD (rows : List (List Int)) (cut : Int) (s : Nat) (t : Bool × List Gt) : PyData := .tuple [.str (if t.1 = true then "ring" else "run"), .tuple (t.2.map fun g => pD (scP rows cut s g))]
noncomputable def jh (rows : List (List Int)) (wd : Nat) (s : Nat) (cuts : List Int) : List PyData := cuts.flatMap fun cut => (linesOf rows wd cut).map (wbD rows cut s)
theorem akQ {rows : List (List Int)} {wd : Nat} {cut : Int} {g : Gt} (o : opG rows wd cut g = true) : (BB rows g.1 g.2.1 g.2.2).natAbs ∈ vX rows wd /\ (BB rows g.1 g.2.1 g.2.2).natAbs ≠ 0 := by
 have nz := abt o
 obtain ⟨i1, i2⟩ := jc (je o)
 obtain ⟨x0, x1, y0, y1⟩ := yL i1
 refine ⟨amb.mpr ⟨(g.1, g.2.1), mem_npts.mpr ⟨x0, x1, y0, y1⟩, al1.mpr ⟨(px g.1 g.2.2, py g.2.1 g.2.2), amE.mpr ⟨?_, i2⟩, ?_⟩⟩, by omega⟩
 ·unfold nbL px py
  rcases w01 o with h | h
  ·rw [if_pos h, if_pos h]; simp
  ·have : ¬ g.2.2 = 0 := by omega
   rw [if_neg this, if_neg this]; simp
 ·unfold gap BB
  dsimp only
  omega
theorem ajg {rows : List (List Int)} {wd : Nat} {cut : Int} {g : Gt} {s : Nat} (h : Lcm (vX rows wd) s) (o : opG rows wd cut g = true) : (shQ rows cut g).den ∣ s := by
 obtain ⟨h1, h2⟩ := akQ o
 refine Nat.dvd_trans ?_ ((h.2 s).mp (apz s) _ h1 h2)
 unfold shQ
 rw [apm, if_neg (abt o)]
 exact Nat.div_dvd_of_dvd (Int.ofNat_dvd_left.mp (Int.gcd_dvd_left _ _))
theorem akR {l : List Nat} (hl : ∀ d ∈ l, d < 2 ^ 32) : ∀ {s : Nat}, Lcm l s -> s <= 2 ^ (32 * l.length) := by
 intro s h
 have key : ∀ l : List Nat, (∀ d ∈ l, d < 2 ^ 32) -> ∃ p : Nat, 0 < p /\ p <= 2 ^ (32 * l.length) /\ ∀ d ∈ l, d ≠ 0 -> d ∣ p := fun l => by
  induction l with
  | nil => exact fun _ => ⟨1, by decide, by decide, fun d hd => nomatch hd⟩
  | cons d l ih =>
   intro h
   obtain ⟨p, p1, p2, p3⟩ := ih fun e he => h e (alH _ he)
   have hd := h d alL
   have e : 2 ^ (32 * (d :: l).length) = 2 ^ (32 * l.length) * 2 ^ 32 := by
    rw [alV, Nat.mul_add, Nat.pow_add]
   rw [e]
   by_cases z : d = 0
   ·refine ⟨p, p1, alZ p2 (Nat.le_mul_of_pos_right _ (by decide)), fun e he nz => ?_⟩
    rcases alO.mp he with rfl | he
    ·exact absurd z nz
    ·exact p3 e he nz
   ·refine ⟨p * d, Nat.mul_pos p1 (by omega), aoG p2 (amM hd), fun e he nz => ?_⟩
    rcases alO.mp he with rfl | he
    ·exact Nat.dvd_mul_left _ _
    ·exact Nat.dvd_trans (p3 e he nz) (Nat.dvd_mul_right _ _)
 obtain ⟨p, p1, p2, p3⟩ := key l hl
 exact alZ (Nat.le_of_dvd p1 ((h.2 p).mpr p3)) p2
theorem qW {α β : Type} {F : α -> List β} {b : Nat} (h : ∀ x, (F x).length <= b) : ∀ l : List α, (l.flatMap F).length <= b * l.length
 | [] => ama _
 | x :: l => by
  have := qW h l
  have := h x
  rw [an0, alR, alV, Nat.mul_add]
  omega
theorem aaO {rows : List (List Int)} {wd : Nat} {s : Nat} (gd : Good wd rows) (h : Lcm (vX rows wd) s) : s < 2 ^ 6300 := by
 have b1 : ∀ d ∈ vX rows wd, d < 2 ^ 32 := fun d hd => by
  obtain ⟨p, hp, hd⟩ := amb.mp hd
  obtain ⟨q, hq, rfl⟩ := al1.mp hd
  have iq : zT rows wd q.1 q.2 = true := (amE.mp hq).2
  obtain ⟨a1, a2, a3, a4⟩ := mem_npts.mp hp
  have ip : zT rows wd p.1 p.2 = true := by
   unfold zT
   rw [decide_eq_true (by omega), decide_eq_true (by omega)]
   rfl
  have c1 := vp gd ip
  have c2 := vp gd iq
  unfold gap
  omega
 have b2 : (vX rows wd).length <= 196 := by
  have f1 : ∀ p, (qj rows wd p).length <= 4 := fun p => by
   unfold qj
   rw [alD]
   exact alZ (amD _ _) (by show 4 <= 4; decide)
  have f2 := qW f1 (vW rows.length wd)
  have f3 : (vW rows.length wd).length <= 49 := by
   have f4 : ∀ x : Nat, ((alY rows.length).map fun (y : Nat) => ((x : Int), (y : Int))).length <= rows.length := fun x => by rw [alD, amx]; exact alI _
   have f5 := qW f4 (alY wd)
   rw [amx] at f5
   exact alZ f5 (aoG gd.h2 gd.w2)
  exact alZ f2 (by omega)
 have := akR b1 h
 refine aoy this (Nat.pow_lt_pow_right (by decide) (by omega))
section
variable {P : Program} {w : World} {K : alE} {mg : Str -> Option Value} {base : Heap} {k : Nat}
abbrev TSc := List (List Int) × Nat × Int × Gt × Nat
abbrev alq (c : TSc) (xs : List DV) : Prop := xs = [.dat (tab c.1), .dat (.int c.2.2.1), .dat (gD3 c.2.2.2.1), .dat (.int c.2.2.2.2)] /\ Good c.2.1 c.1 /\ opG c.1 c.2.1 c.2.2.1 c.2.2.2.1 = true /\ Lcm (vX c.1 c.2.1) c.2.2.2.2
abbrev vq (K : alE) : Sp := spD K 4 alq fun c r => r = pD (scP c.1 c.2.2.1 c.2.2.2.2 c.2.2.2.1)
theorem agp (F : Def K mg "scaled_place" yJ ["rows", "cut", "gate", "scale"]) (G_place_of : FnIn P w K mg base k "place_of" ["rows", "cut", "gate"] (abu K)) : FnIn P w K mg base (k + 1) "scaled_place" ["rows", "cut", "gate", "scale"] (vq K) := by
 refine F.ok sc_scaled_place rfl fun fa cdv A outer s H E hr => ⟨_, (zc (z8 (ze G_place_of hr rfl (za (pv 0) (za (pv 1) (za (pv 2) zb)))) (zH (K := K) (n := 3) rfl rfl (zg (zf (i := 4) sc_scaled_place.nd rfl (Or.inl rfl) (Or.inr rfl)) (zg (zf (i := 5) sc_scaled_place.nd rfl (Or.inl rfl) (Or.inr rfl)) (zg (zf (i := 6) sc_scaled_place.nd rfl (Or.inl rfl) (Or.inr rfl)) zF))))) (zh (zu (zA (za (zo jD (zo z7 (pv 4) (pv 3)) (pv 6)) (za (zo jD (zo z7 (pv 5) (pv 3)) (pv 6)) zb)))))), ?_⟩
 rintro f xs ⟨rows, wd, cut, q, sc⟩ hl ⟨rfl, g, o, L⟩
 try dsimp only [zW, zi]
 dsimp only at *
 obtain ⟨b1, b2, b3, b4⟩ := alm g o
 have sl := aaO g L
 refine zQ (zJ (zp (rows, wd, cut, q) (aky rfl rfl rfl ⟨rfl, ⟨rfl, g, o⟩, ?_⟩)))
 rintro _ rfl
 dsimp only
 have sm : ∀ {i : Int}, i.natAbs < 2 ^ 60 -> i.natAbs < qy := fun h => jK h (by decide)
 have sh : ((sc : Nat) : Int).natAbs < qy := by rw [am3]; exact jK sl (by decide)
 clear sl
 unfold scP
 generalize plT rows cut q = p at *
 obtain ⟨X, Y, W⟩ := p
 dsimp only at b1 b2 b3 b4
 have cd : ∀ T, ahq T W := fun T => ⟨by omega, sm (by omega)⟩
 refine alj (yy (jV (zy (z9 (af4 rfl rfl ⟨sm (show X.natAbs < _ by omega), sh⟩ ⟨_, rfl, zl rfl ⟨_, rfl, cd _, ?_⟩⟩)))))
 refine zy (z9 (af4 rfl rfl ⟨sm (show Y.natAbs < _ by omega), sh⟩ ⟨_, rfl, zl rfl ⟨_, rfl, cd _, ya ⟨_, rfl, by show 2 <= 1000; decide, ?_⟩⟩⟩))
 show PyData.tuple [.int _, .int _] = pD _
 have W0 : (0 : Int) <= (X, Y, W).2.2 := show (0 : Int) <= W by omega
 rw [anu _ W0, anu _ W0]
 rfl
abbrev ajG (K : alE) : Sp := spN K 2 (fun (c : List (List Int) × Nat × List Int) xs => xs = [.dat (tab c.1), .dat (.list (c.2.2.map .int))] /\ Good c.2.1 c.1 /\ c.2.2.length <= 3) fun c es => ∃ s : Nat, Lcm (vX c.1 c.2.1) s /\ es = jh c.1 c.2.1 s c.2.2
theorem akS (F : Def K mg "web_of" vk ["rows", "cuts"]) (m_tuple : mg "tuple" = none) (G_ask_table : FnIn P w K mg base k "ask_table" ["rows"] (adk K)) (G_scale_of : FnIn P w K mg base k "scale_of" ["rows"] (aco K)) (G_scaled_place : FnIn P w K mg base k "scaled_place" ["rows", "cut", "gate", "scale"] (vq K)) (G_lines : FnIn P w K mg base k "lines" ["rows", "cut"] (acn K)) : FnIn P w K mg base (k + 1) "web_of" ["rows", "cuts"] (ajG K) := by
 refine F.okN sc_web_of rfl fun fa cdv A outer s H E hr => ⟨_, (zc (yM (ze G_ask_table hr rfl (za (pv 0) zb))) (zc (zD (i := 2) sc_web_of.nd rfl (Or.inr rfl) (ze G_scale_of hr rfl (za (pv 0) zb))) (zh (zu (acC (N := ["cut", "word", "path", "rows", "scale"]) (own := 3) (fr := [0, 2]) ⟨rfl, by decide +kernel, of_decide_eq_true (by kernel_rfl), of_decide_eq_true (by kernel_rfl), of_decide_eq_true (by kernel_rfl), rfl⟩ rfl (zO (K := K) rfl (pv 1)) (fun _ _ _ _ => (zf (i := 0) (show (["cut", "word", "path", "rows", "scale"] : List Str).Nodup by decide +kernel) rfl (Or.inr rfl) (Or.inl rfl))) (fun _ _ _ _ => yh) (fun _ _ _ _ => (zO (K := K) rfl (ze G_lines hr rfl (za (pv 3) (za (pv 0) zb))))) (fun _ _ _ _ => (zH (K := K) (n := 2) rfl rfl (zg (zf (i := 1) (show (["cut", "word", "path", "rows", "scale"] : List Str).Nodup by decide +kernel) rfl (Or.inl rfl) (Or.inr rfl)) (zg (zf (i := 2) (show (["cut", "word", "path", "rows", "scale"] : List Str).Nodup by decide +kernel) rfl (Or.inl rfl) (Or.inr rfl)) zF)))) (fun _ _ _ _ => yh) (fun _ _ _ _ => (zA (za (pv 1) (za (jx (j8 (K := K) rfl) rfl m_tuple anP (za (yp (N := ["gate", "cut", "rows", "scale"]) (own := 1) (fr := [0, 3, 4]) ⟨rfl, by decide +kernel, of_decide_eq_true (by kernel_rfl), of_decide_eq_true (by kernel_rfl), of_decide_eq_true (by kernel_rfl), rfl⟩ rfl (qV (K := K) rfl (pv 2)) (fun _ _ _ _ => (zf (i := 0) (show (["gate", "cut", "rows", "scale"] : List Str).Nodup by decide +kernel) rfl (Or.inl rfl) (Or.inr rfl))) (fun _ _ _ _ => yh) (fun _ _ _ _ => (ze G_scaled_place hr rfl (za (pv 2) (za (pv 1) (za (pv 0) (za (pv 3) zb)))))) rfl rfl (fun _ => rfl)) zb)) zb)))) rfl rfl (fun _ => rfl) (fun _ _ _ _ _ => rfl)))))), ?_⟩
 rintro f xs ⟨rows, wd, cuts⟩ hl ⟨rfl, g, few⟩
 try dsimp only [zW, zi]
 dsimp only at *
 refine qX (vw (zp (rows, wd) (ac7 rfl ⟨rfl, ⟨rfl, g⟩, ?_⟩)))
 rintro _ rfl
 refine qX (zJ (zp (rows, wd) (ac7 rfl ⟨rfl, ⟨rfl, g⟩, ?_⟩)))
 rintro _ ⟨sc, rfl, L⟩
 dsimp only at L
 refine zj (abb (qb (yi (zl rfl ⟨_, rfl, fun n ρ es => (∃ u1 u2 u3 : Option DV, ρ = [u1, u2, u3, some (.dat (tab rows)), some (.dat (.int sc))]) /\ es = jh rows wd sc (cuts.take n) /\ es.length <= 49 * n, ⟨⟨_, _, _, rfl⟩, rfl, by simp⟩, ?_, ?_⟩))))
 ·rintro D n d ρ' es hd ⟨⟨u1, u2, u3, rfl⟩, he, le⟩
  rw [alJ] at hd
  cases et : cuts[n]? with
  | none => rw [et] at hd; cases hd
  | some cut =>
   rw [et] at hd
   cases hd
   have hn := (alG.mp et).1
   have tk : cuts.take (n + 1) = cuts.take n ++ [cut] := by rw [amB, et]; rfl
   refine zj (ja ?_)
   rw [if_pos rfl]
   refine akc (yi (PEdO.ped (qK (rows, wd, cut) (af2 rfl rfl ⟨rfl, ⟨rfl, g⟩, ?_⟩))))
   rintro _ ⟨ts, rfl, T, aT, pT⟩
   dsimp only at T aT
   have fT := T.few g
   have li := adC ⟨T, aT, pT⟩
   have nx : jh rows wd sc (cuts.take (n + 1)) = es ++ ts.map (wbD rows cut sc) := by
    rw [tk, he]
    unfold jh
    rw [amw]
    simp only [an0, aoZ, amq, li]
   refine ⟨_, rfl, fun m ρ es2 => (∃ u2 u3 : Option DV, ρ = [some (.dat (.int cut)), u2, u3, some (.dat (tab rows)), some (.dat (.int sc))]) /\ es2 = es ++ (ts.take m).map (wbD rows cut sc), ⟨⟨_, _, rfl⟩, by rw [apq, anx, amq]⟩, ?_, ?_⟩
   ·rintro m d ρ2 es2 hd2 ⟨⟨u2, u3, rfl⟩, rfl⟩
    rw [alJ] at hd2
    cases e2 : ts[m]? with
    | none => rw [e2] at hd2; cases hd2
    | some t =>
     rw [e2] at hd2
     cases hd2
     have ht := alN e2
     have Lt := T.line t ht
     have fl := qi g Lt.op Lt.nd
     have tk2 : ts.take (m + 1) = ts.take m ++ [t] := by rw [amB, e2]; rfl
     refine aiN (ja ?_)
     rw [if_pos rfl]
     refine yC ?_ (jV (zy (zl rfl (zy (abI (zy (PEdO.ped (aau (A := gD3) (B := fun q => pD (scP rows cut sc q)) t.2 (acJ (zl rfl ⟨_, rfl, rfl, by omega, ?_, ?_⟩))))))))))
     ·rw [alR, alD, amk]
      omega
     ·rintro D2 q ρ3 es3 hq ho hes
      obtain ⟨u, rfl⟩ := ho.one
      refine zj (ja ?_)
      rw [if_pos rfl]
      refine yC hes (zp (rows, wd, cut, q, sc) (alh rfl rfl rfl rfl ⟨rfl, ⟨rfl, g, Lt.op q hq, L⟩, ?_⟩))
      rintro _ rfl
      exact ⟨.mk1, rfl⟩
     ·refine ya (.inl ⟨_, rfl, ya ⟨_, rfl, by show 2 <= 1000; decide, ⟨_, _, rfl⟩, ?_⟩⟩)
      rw [tk2, al6, amR]
      rfl
   ·rintro ρ2 es2 ⟨⟨u2, u3, rfl⟩, rfl⟩
    rw [alD, amg, <- nx]
    refine ⟨⟨_, _, _, rfl⟩, rfl, ?_⟩
    rw [nx, alR, alD]
    omega
 ·rintro ρ' es ⟨_, rfl, _⟩
  rw [alD, amg]
  exact ⟨sc, L, rfl⟩
end
open PySem PySem.Spec PyProof.Rows L2
theorem agq {rows : List (List Int)} {wd : Nat} {cut : Int} {g : Gt} {s : Nat} (h : Lcm (vX rows wd) s) (o : opG rows wd cut g = true) :
  ∃ m : Int, (s : Int) * TT rows cut g.1 g.2.1 = BB rows g.1 g.2.1 g.2.2 * m /\ scP rows cut s g = (s * g.1 + m * (1 - g.2.2), s * g.2.1 + m * g.2.2) := by
 obtain ⟨c, hc⟩ := ajg h o
 have nz := abt o
 have q0 : ((shQ rows cut g).den : Int) ≠ 0 := by have := (shQ rows cut g).den_nz; omega
 have e : (shQ rows cut g).num * BB rows g.1 g.2.1 g.2.2 = TT rows cut g.1 g.2.1 * ((shQ rows cut g).den : Int) := by
  have := Rat.num_divInt_den (shQ rows cut g)
  unfold shQ at this
  exact (Rat.divInt_eq_divInt_iff q0 nz).mp this
 refine ⟨(shQ rows cut g).num * c, ?_, ?_⟩
 ·have hs : (s : Int) = ((shQ rows cut g).den : Int) * (c : Int) := by rw [hc, Int.natCast_mul]
  rw [hs, show ((shQ rows cut g).den : Int) * (c : Int) * TT rows cut g.1 g.2.1 = (TT rows cut g.1 g.2.1 * ((shQ rows cut g).den : Int)) * (c : Int) by grind, <- e]
  grind
 ·have hs : (s : Int) = ((shQ rows cut g).den : Int) * (c : Int) := by rw [hc, Int.natCast_mul]
  unfold scP plT
  rw [hs]
  generalize ((shQ rows cut g).den : Int) = D at *
  generalize (shQ rows cut g).num = N at *
  have key : ∀ a : Int, D * a / D = a := fun a => anK a q0
  rcases w01 o with hw | hw
  ·rw [if_pos hw]
   dsimp only
   rw [hw, show (g.1 * D + N) * (D * c) = D * (D * c * g.1 + N * c) by grind, show g.2.1 * D * (D * c) = D * (D * c * g.2.1) by grind, key, key]
   refine Prod.ext ?_ ?_
   ·dsimp only; grind
   ·dsimp only; grind
  ·have : ¬ g.2.2 = 0 := by omega
   rw [if_neg this]
   dsimp only
   rw [hw, show g.1 * D * (D * c) = D * (D * c * g.1) by grind, show (g.2.1 * D + N) * (D * c) = D * (D * c * g.2.1 + N * c) by grind, key, key]
   refine Prod.ext ?_ ?_
   ·dsimp only; grind
   ·dsimp only; grind
section
variable {P : Program} {w : World} {K : alE} {mg : Str -> Option Value} {base : Heap} {k : Nat}
abbrev ahZ (K : alE) : Sp := spD K 2 (fun (c : List (List Int) × Nat) xs => xs = [.feed, .dat (tab c.1)] /\ Good c.2 c.1) fun _ r => ∃ cuts : List Int, r = .list (cuts.map .int) /\ cuts.length <= 3
theorem ajh (F : Def K mg "_law_cuts" jS ["_law_feed_here", "_law_rows"]) (m_len : mg "len" = none) (m_range : mg "range" = none) (G__law_draw : FnIn P w K mg base k "_law_draw" ["_law_feed_here", "_law_many"] (ad9 K)) : FnIn P w K mg base (k + 1) "_law_cuts" ["_law_feed_here", "_law_rows"] (ahZ K) := by
 refine F.ok sc_law_cuts rfl fun fa cdv A outer s H E hr => ⟨_, (zc (zD (i := 2) sc_law_cuts.nd rfl (Or.inl rfl) (yn zb)) (zc (yR aml rfl (y7 rfl m_range (za (zo zI zd (ze G__law_draw hr rfl (za (pv 0) (za zd zb)))) zb)) (zf (i := 3) sc_law_cuts.nd rfl (Or.inl rfl) (Or.inr rfl)) (zc (zD (i := 4) sc_law_cuts.nd rfl (Or.inl rfl) (zN (zx (K := K) rfl) (pv 1) (ze G__law_draw hr rfl (za (pv 0) (za (zB (ym (K := K) rfl) rfl m_len amJ (za (pv 1) zb)) zb))) (fun _ _ => rfl))) (zc (zD (i := 5) sc_law_cuts.nd rfl (Or.inl rfl) (zo yB (zN (zx (K := K) rfl) (pv 4) (ze G__law_draw hr rfl (za (pv 0) (za (zB (ym (K := K) rfl) rfl m_len amJ (za (pv 4) zb)) zb))) (fun _ _ => rfl)) (ze G__law_draw hr rfl (za (pv 0) (za zd zb))))) (zc (yt (zR (aar (K := K) rfl hr.units) (ze G__law_draw hr rfl (za (pv 0) (za zd zb))) zd (zX _)) (zh (zD (i := 5) sc_law_cuts.nd rfl (Or.inl rfl) (zN (zx (K := K) rfl) (yn (za (zo qI zd zd) (za (zo yB zd (zo qI zd zd)) zb))) (ze G__law_draw hr rfl (za (pv 0) (za zd zb))) (fun _ _ => rfl)))) zP) (zh (yt (zR (adR (K := K) rfl hr.units) (pv 5) (pv 2) rfl) (zh (yM (acw amT amO amP jy (pv 2) (za (pv 5) zb)))) zP)))))) (zh (zu (pv 2))))), ?_⟩
 rintro f xs ⟨rows, wd⟩ hl ⟨rfl, g⟩
 try dsimp only [zW, zi]
 dsimp only at *
 have g1 := g.h1
 have g2 := g.h2
 have w1 := g.w1
 have w2 := g.w2
 have ml : (rows.map fun r => PyData.list (r.map .int)).length = rows.length := alD _
 refine aaB (w := w) (ac3 (vd (agW ⟨show 2 < 6 by decide, fun D => ?_⟩)))
 refine jC (abh (v3 (zy (yx (yk ⟨_, rfl, zp 3 (jY rfl (zy (yk (ya ⟨rfl, ⟨rfl, by omega, by omega⟩, ?_⟩))))⟩)))))
 rintro _ ⟨n3, rfl, n0, n1⟩
 refine ⟨_, rfl, ya ⟨_, rfl, by omega, by omega, fun m ρ cs => ∃ (cuts : List Int) (x3 x4 x5 : Option DV), ρ = [some .feed, some (.dat (tab rows)), some (.own (f.M.length + 0)), x3, x4, x5] /\ cs = [.lst (cuts.map .int)] /\ cuts.length <= m, ⟨[], _, _, _, rfl, rfl, alI 0⟩, ?_, ?_⟩⟩
 ·rintro m d _ _ hd ⟨cuts, x3, x4, x5, rfl, rfl, lc⟩
  obtain ⟨hm, rfl⟩ := vm hd
  refine zj (jC (vE (zJ (yQ (zl rfl ⟨_, rfl, zp (rows.length : Nat) (jY rfl (zy (aey (ac7 rfl (.inl ⟨_, rfl, ya ⟨rfl, ⟨by rw [ml], by omega, by omega⟩, ?_⟩⟩)))))⟩)))))
  rintro _ ⟨i, rfl, i0, i1⟩
  obtain ⟨i, rfl⟩ := anh i0
  have hi : i < rows.length := by omega
  have rl := g.row _ (al9 hi)
  refine ⟨_, rfl, .list (rows[i].map .int), y6 rfl hi, zj ?_⟩
  refine jC (vE (zJ (yx (yQ (zl rfl ⟨_, rfl, zp (rows[i].length : Nat) (jY rfl (zy (aey (ac7 rfl (.inl ⟨_, rfl, ya ⟨rfl, ⟨by rw [alD], by omega, by omega⟩, ?_⟩⟩)))))⟩)))))
  rintro _ ⟨j, rfl, j0, j1⟩
  obtain ⟨j, rfl⟩ := anh j0
  have hj : j < rows[i].length := by omega
  refine ⟨_, rfl, .int rows[i][j], y6 rfl hj, _, rfl, zp 2 (jY rfl (zy (yk (ya ⟨rfl, ⟨rfl, by omega, by omega⟩, ?_⟩))))⟩
  rintro _ ⟨i2, rfl, _, _⟩
  refine ⟨_, rfl, zj ?_⟩
  refine ajz (fun ρ cs => ∃ (c : Int) (x4 : Option DV), ρ = [some .feed, some (.dat (tab rows)), some (.own (f.M.length + 0)), some (.dat (.int m)), x4, some (.dat (.int c))] /\ cs = [.lst (cuts.map .int)]) ?_ ?_
  ·refine vE (alg (yv (jU (zp 9 (jY rfl (zy (yk (ya ⟨rfl, ⟨rfl, by omega, by omega⟩, ?_⟩))))))) ?_ (jZ ⟨_, _, rfl, rfl⟩))
   ·rintro _ ⟨i9, rfl, _, _⟩
    exact yk ⟨rfl, rfl, by show min 0 0 <= 60; decide, _, rfl, trivial⟩
   ·refine zJ (yQ (acE ?_))
    repeat walk_at "dl"
    refine zp 2 (jY rfl (zy (yk (ya ⟨rfl, ⟨rfl, by omega, by omega⟩, ?_⟩))))
    rintro _ ⟨q2, rfl, h0, h1⟩
    have : q2 = 0 \/ q2 = 1 := by omega
    rcases this with rfl | rfl
    ·exact ⟨_, rfl, _, rfl, zj ⟨_, _, rfl, rfl⟩⟩
    ·exact ⟨_, rfl, _, rfl, zj ⟨_, _, rfl, rfl⟩⟩
  rintro _ _ ⟨c, x4, rfl, rfl⟩
  have fr : anW (freed f.M.length [OC.lst (cuts.map PyData.int)]) [some DV.feed, some (.dat (tab rows)), some (.own (f.M.length + 0)), some (.dat (.int m)), x4, some (.dat (.int c))] = [some .feed, some (.dat (tab rows)), some (.dat (.list (cuts.map PyData.int))), some (.dat (.int m)), freed f.M.length [OC.lst (cuts.map PyData.int)] x4, some (.dat (.int c))] := by simp [freed]
  refine aiB (aeY ?_)
  rw [fr]
  refine yv (ag0 (zl rfl (zl rfl ⟨_, rfl, rfl, fun e he => by obtain ⟨z, _, rfl⟩ := al1.mp he; rfl, by show 0 <= 50; decide, _, rfl, ?_⟩)))
  refine yF (fun h => ?_) fun h => abX ⟨cuts, _, _, _, rfl, rfl, by omega⟩
  refine ac2 (i := 2) (j := 0) rfl rfl (by rw [alD]; omega) (ac1 (zl rfl ⟨cuts ++ [c], _, _, _, rfl, ?_, by rw [alR, amn]; omega⟩))
  show [OC.lst (cuts.map PyData.int ++ [.int c])] = _
  rw [al6]
  rfl
 ·rintro _ _ ⟨cuts, x3, x4, x5, rfl, rfl, lc⟩
  rw [vF] at lc
  have fr : anW (freed f.M.length [OC.lst (cuts.map PyData.int)]) [some DV.feed, some (.dat (tab rows)), some (.own (f.M.length + 0)), x3, x4, x5] = [some .feed, some (.dat (tab rows)), some (.dat (.list (cuts.map PyData.int))), freed f.M.length [OC.lst (cuts.map PyData.int)] x3, freed f.M.length [OC.lst (cuts.map PyData.int)] x4, freed f.M.length [OC.lst (cuts.map PyData.int)] x5] := by simp [freed]
  refine abY ?_
  rw [fr]
  exact yy (zl rfl ⟨cuts, rfl, by omega⟩)
theorem agr (F : Def K mg "_law_place" jt ["_law_rows", "_law_cut", "_law_gate", "_law_scale"]) : FnIn P w K mg base (k + 1) "_law_place" ["_law_rows", "_law_cut", "_law_gate", "_law_scale"] (vq K) := by
 refine F.ok sc_law_place rfl fun fa cdv A outer s H E hr => ⟨_, (zc (z8 (pv 2) (zH (K := K) (n := 3) rfl rfl (zg (zf (i := 4) sc_law_place.nd rfl (Or.inl rfl) (Or.inr rfl)) (zg (zf (i := 5) sc_law_place.nd rfl (Or.inl rfl) (Or.inr rfl)) (zg (zf (i := 6) sc_law_place.nd rfl (Or.inl rfl) (Or.inr rfl)) zF))))) (zc (zD (i := 7) sc_law_place.nd rfl (Or.inl rfl) (zN (zx (K := K) rfl) (zN (zx (K := K) rfl) (pv 0) (pv 5) (fun _ _ => rfl)) (pv 4) (fun _ _ => rfl))) (zc (zD (i := 8) sc_law_place.nd rfl (Or.inl rfl) (zN (zx (K := K) rfl) (yn (za (zN (zx (K := K) rfl) (zN (zx (K := K) rfl) (pv 0) (pv 5) (fun _ _ => rfl)) (zo yB (zo zI (pv 4) zd) (pv 6)) (fun _ _ => rfl)) (za (zN (zx (K := K) rfl) (zN (zx (K := K) rfl) (pv 0) (zo zI (pv 5) (pv 6)) (fun _ _ => rfl)) (pv 4) (fun _ _ => rfl)) zb))) (pv 6) (fun _ _ => rfl))) (zc (zD (i := 9) sc_law_place.nd rfl (Or.inl rfl) (zo z7 (pv 3) (zo yB (zo zI (zo z7 zd (pv 1)) zd) (zo z7 zd (pv 7))))) (zc (zD (i := 10) sc_law_place.nd rfl (Or.inl rfl) (zo z7 zd (zo yB (pv 8) (pv 7)))) (zc (yt (zR (j9 (K := K) rfl hr.units) (zo aib (pv 9) (pv 10)) zd (zX _)) (zh (zu abx)) zP) (zh (zu (zA (za (zo zI (zo z7 (pv 3) (pv 4)) (zo z7 (zo jD (pv 9) (pv 10)) (zo yB zd (pv 6)))) (za (zo zI (zo z7 (pv 3) (pv 5)) (zo z7 (zo jD (pv 9) (pv 10)) (pv 6))) zb))))))))))), ?_⟩
 rintro f xs ⟨rows, wd, cut, ⟨x, y, wy⟩, sc⟩ hl ⟨rfl, g, o, L⟩
 try dsimp only [zW, zi]
 dsimp only at *
 obtain ⟨i1, i2⟩ := jc (je o)
 obtain ⟨x0, x1, y0, y1⟩ := yL i1
 dsimp only at x0 x1 y0 y1 i1 i2
 have w2 := g.w2
 have h2 := g.h2
 obtain ⟨ra, ha1, ha2⟩ := qf g i1
 obtain ⟨rb, hb1, hb2⟩ := qf g i2
 have hw : wy = 0 \/ wy = 1 := w01 o
 have ca : -1000000000 <= zv rows x y /\ zv rows x y <= 1000000000 := qw g i1
 have cb : -1000000000 <= zv rows (px x wy) (py y wy) /\ zv rows (px x wy) (py y wy) <= 1000000000 := qw g i2
 have nz : BB rows x y wy ≠ 0 := abt o
 have ow : (0 < TT rows cut x y /\ TT rows cut x y < BB rows x y wy) \/ (TT rows cut x y < 0 /\ BB rows x y wy < TT rows cut x y) := vo o
 obtain ⟨m, hm, hp⟩ := agq L o
 dsimp only at hm hp
 rw [hp]
 have sh : ((sc : Nat) : Int).natAbs < qy := by rw [am3]; exact jK (aaO g L) (by decide)
 have sm : ∀ {i : Int}, i.natAbs < 2 ^ 60 -> i.natAbs < qy := fun h => jK h (by decide)
 have mh : m.natAbs < qy := by
  have e := congrArg Int.natAbs hm
  rw [aoF, aoF, am3] at e
  have tb : (TT rows cut x y).natAbs <= (BB rows x y wy).natAbs := by omega
  have bp : 0 < (BB rows x y wy).natAbs := by omega
  refine jK (m := 6300) (aoy ?_ (aaO g L)) (by decide)
  refine Nat.le_of_mul_le_mul_left (c := (BB rows x y wy).natAbs) ?_ bp
  rw [<- e, Nat.mul_comm]
  exact apn _ tb
 have cth : cut.natAbs < 2 ^ 60 := by
  unfold TT BB at ow
  omega
 refine zQ (zJ (zl rfl (alj ?_)))
 refine zQ (zJ (yQ (yQ (zl rfl ⟨_, rfl, zl rfl ⟨_, rfl, _, ha1, _, rfl, zl rfl ⟨_, rfl, _, ha2, zj ?_⟩⟩⟩))))
 refine ac6 (fun ρ => ρ = [some (.dat (tab rows)), some (.dat (.int cut)), some (.dat (gD3 (x, y, wy))), some (.dat (.int sc)), some (.dat (.int x)), some (.dat (.int y)), some (.dat (.int wy)), some (.dat (.int (zv rows x y))), some (.dat (.int (zv rows (px x wy) (py y wy)))), none, none]) ?_ ?_
 ·rcases hw with rfl | rfl
  ·have e1 : x + 1 - 0 = px x 0 := by unfold px; rw [if_pos rfl]; omega
   have e2 : py y 0 = y := by unfold py; rw [if_pos rfl]
   rw [e2] at hb1
   have h1' : atI (rb.map PyData.int) (x + 1 - 0) = some (.int (zv rows (px x 0) (py y 0))) := by rw [e1]; exact hb2
   have h2' : atI (rows.map fun q => PyData.list (q.map .int)) (y + 0) = some (.list (ra.map .int)) := by rw [Int.add_zero]; exact ha1
   refine zJ (yQ (acE (zy (yQ (yQ (zl rfl ⟨_, rfl, zl rfl ⟨_, rfl, _, hb1, _, rfl, ?_⟩⟩))))))
   refine yx (yx (zl rfl ⟨_, rfl, yk ⟨_, rfl, _, rfl, zl rfl ⟨_, rfl, _, rfl, _, h1', ?_⟩⟩⟩))
   refine zy (yQ (yQ (zl rfl ⟨_, rfl, yx (zl rfl ⟨_, rfl, zl rfl ⟨_, rfl, _, rfl, _, h2', _, rfl, ?_⟩⟩)⟩)))
   exact zl rfl ⟨_, rfl, _, ha2, ya ⟨_, rfl, by show 2 <= 1000; decide, _, rfl, zl rfl ⟨_, rfl, _, rfl, zj rfl⟩⟩⟩
  ·have e1 : x + 1 - 1 = x := by omega
   have e2 : py y 1 = y + 1 := by unfold py; rw [if_neg (by decide)]
   have e3 : px x 1 = x := by unfold px; rw [if_neg (by decide)]
   rw [e2] at hb1
   rw [e3, e2] at hb2
   have h1' : atI (ra.map PyData.int) (x + 1 - 1) = some (.int (zv rows x y)) := by rw [e1]; exact ha2
   refine zJ (yQ (acE (zy (yQ (yQ (zl rfl ⟨_, rfl, zl rfl ⟨_, rfl, _, ha1, _, rfl, ?_⟩⟩))))))
   refine yx (yx (zl rfl ⟨_, rfl, yk ⟨_, rfl, _, rfl, zl rfl ⟨_, rfl, _, rfl, _, h1', ?_⟩⟩⟩))
   refine zy (yQ (yQ (zl rfl ⟨_, rfl, yx (zl rfl ⟨_, rfl, zl rfl ⟨_, rfl, _, rfl, _, hb1, _, rfl, ?_⟩⟩)⟩)))
   refine zl rfl ⟨_, rfl, _, hb2, ya ⟨_, rfl, by show 2 <= 1000; decide, _, rfl, zl rfl ⟨_, rfl, _, rfl, zj ?_⟩⟩⟩
   rw [e3, e2]
   rfl
 rintro _ rfl
 refine zQ (zJ (z9 (zl rfl ⟨_, rfl, yx (yx (z9 (yk ⟨_, rfl, zl rfl ⟨_, rfl, ⟨sm (by decide), sm cth⟩, _, rfl, yk ⟨_, rfl, _, rfl, ?_⟩⟩⟩)))⟩)))
 refine z9 (yk ⟨_, rfl, zl rfl ⟨_, rfl, ⟨sm (by decide), sm (show (zv rows x y).natAbs < _ by omega)⟩, _, rfl, _, rfl, ?_⟩⟩)
 refine ⟨⟨sh, sm (show (TT rows cut x y).natAbs < _ by unfold TT BB at ow; unfold TT; omega)⟩, zj ?_⟩
 refine zQ (zJ (z9 (yk ⟨_, rfl, yx (zl rfl ⟨_, rfl, zl rfl ⟨_, rfl, _, rfl, ⟨sm (by decide), sm (show (zv rows (px x wy) (py y wy) - zv rows x y).natAbs < _ by omega)⟩, zj ?_⟩⟩)⟩)))
 show PSd K f _ [some (.dat (tab rows)), some (.dat (.int cut)), some (.dat (gD3 (x, y, wy))), some (.dat (.int sc)), some (.dat (.int x)), some (.dat (.int y)), some (.dat (.int wy)), some (.dat (.int (zv rows x y))), some (.dat (.int (zv rows (px x wy) (py y wy)))), some (.dat (.int ((sc : Int) * TT rows cut x y))), some (.dat (.int (BB rows x y wy)))] _
 rw [hm]
 have bh : (BB rows x y wy).natAbs < qy := sm (by unfold BB; omega)
 generalize BB rows x y wy = B at *
 refine zQ (aaS (yv (jU (z9 (zl rfl ⟨_, rfl, zl rfl ⟨_, rfl, nz, yk ⟨rfl, rfl, by show min 0 0 <= 60; decide, _, rfl, ?_⟩⟩⟩)))))
 rw [if_pos rfl, acd, show (B * m).fmod B = 0 from Int.mul_fmod_right B m, decide_eq_true rfl, amm, if_neg alC]
 have dv : (B * m).fdiv B = m := aoT m nz
 have cd : ahq (B * m) B := ⟨nz, bh⟩
 have wh : ∀ i : Int, i = wy \/ i = 1 - wy -> i.natAbs < qy := fun i h => sm (by omega)
 refine jZ (yy (jV (zy (yx (af4 rfl rfl ⟨sh, sm (show x.natAbs < _ by omega)⟩ ⟨_, rfl, z9 (af4 rfl rfl cd ?_)⟩)))))
 rw [dv]
 refine ⟨_, rfl, yx (yk ⟨_, rfl, zl rfl ⟨_, rfl, _, rfl, ⟨mh, wh _ (.inr rfl)⟩, _, rfl, ?_⟩⟩)⟩
 refine zy (yx (af4 rfl rfl ⟨sh, sm (show y.natAbs < _ by omega)⟩ ⟨_, rfl, z9 (af4 rfl rfl cd ?_)⟩))
 rw [dv]
 refine ⟨_, rfl, zl rfl ⟨_, rfl, ⟨mh, wh _ (.inl rfl)⟩, _, rfl, ya ⟨_, rfl, by show 2 <= 1000; decide, rfl⟩⟩⟩
end
open PySem PySem.Spec PyProof.Rows L2
section
variable {P : Program} {w : World} {K : alE} {mg : Str -> Option Value} {base : Heap} {k : Nat}
abbrev TDw := List (List Int) × Nat × List Int × Nat
abbrev ah0 (K : alE) : Sp := spD K 3 (fun (c : TDw) xs => xs = [.dat (tab c.1), .dat (.list (c.2.2.1.map .int)), .dat (.int c.2.2.2)] /\ Good c.2.1 c.1 /\ c.2.2.1.length <= 3 /\ Lcm (vX c.1 c.2.1) c.2.2.2) fun c r => r = .list (jh c.1 c.2.1 c.2.2.2 c.2.2.1) /\ (jh c.1 c.2.1 c.2.2.2 c.2.2.1).length <= 147
theorem aji (F : Def K mg "_law_due" qt ["_law_rows", "_law_cuts_here", "_law_scale"]) (m_tuple : mg "tuple" = none) (G_lines : FnIn P w K mg base k "lines" ["rows", "cut"] (acn K)) (G__law_place : FnIn P w K mg base k "_law_place" ["_law_rows", "_law_cut", "_law_gate", "_law_scale"] (vq K)) : FnIn P w K mg base (k + 1) "_law_due" ["_law_rows", "_law_cuts_here", "_law_scale"] (ah0 K) := by
 refine F.ok sc_law_due rfl fun fa cdv A outer s H E hr => ⟨_, (zc (zD (i := 3) sc_law_due.nd rfl (Or.inl rfl) (yn zb)) (zc (yR aml rfl (zO (K := K) rfl (pv 1)) (zf (i := 4) sc_law_due.nd rfl (Or.inr rfl) (Or.inl rfl)) (zh (yR aml rfl (zO (K := K) rfl (ze G_lines hr rfl (za (pv 0) (za (pv 4) zb)))) (zH (K := K) (n := 2) rfl rfl (zg (zf (i := 5) sc_law_due.nd rfl (Or.inl rfl) (Or.inr rfl)) (zg (zf (i := 6) sc_law_due.nd rfl (Or.inl rfl) (Or.inr rfl)) zF))) (zh (yM (acw amT amO amP jy (pv 3) (za (zA (za (pv 5) (za (jx (j8 (K := K) rfl) rfl m_tuple anP (za (yp (N := ["_law_gate", "_law_rows", "_law_scale", "_law_cut"]) (own := 1) (fr := [0, 2, 4]) ⟨rfl, by decide +kernel, of_decide_eq_true (by kernel_rfl), of_decide_eq_true (by kernel_rfl), of_decide_eq_true (by kernel_rfl), rfl⟩ rfl (qV (K := K) rfl (pv 6)) (fun _ _ _ _ => (zf (i := 0) (show (["_law_gate", "_law_rows", "_law_scale", "_law_cut"] : List Str).Nodup by decide +kernel) rfl (Or.inl rfl) (Or.inr rfl))) (fun _ _ _ _ => yh) (fun _ _ _ _ => (ze G__law_place hr rfl (za (pv 1) (za (pv 3) (za (pv 0) (za (pv 2) zb)))))) rfl rfl (fun _ => rfl)) zb)) zb))) zb))))))) (zh (zu (pv 3))))), ?_⟩
 rintro f xs ⟨rows, wd, cuts, sc⟩ hl ⟨rfl, g, few, L⟩
 try dsimp only [zW, zi]
 dsimp only at *
 refine aaB (w := w) (ac3 (vd (agW ⟨show 3 < 7 by decide, fun D => ?_⟩)))
 refine jC (abh (yi (zl rfl ⟨_, rfl, fun n ρ cs => (∃ x4 x5 x6 : Option DV, ρ = [some (.dat (tab rows)), some (.dat (.list (cuts.map .int))), some (.dat (.int sc)), some (.own (f.M.length + 0)), x4, x5, x6]) /\ cs = [.lst (jh rows wd sc (cuts.take n))] /\ (jh rows wd sc (cuts.take n)).length <= 49 * n, ⟨⟨_, _, _, rfl⟩, rfl, alI 0⟩, ?_, ?_⟩)))
 ·rintro n d _ _ hd ⟨⟨x4, x5, x6, rfl⟩, rfl, le⟩
  rw [alJ] at hd
  cases et : cuts[n]? with
  | none => rw [et] at hd; cases hd
  | some cut =>
   rw [et] at hd
   cases hd
   have hn := (alG.mp et).1
   have tk : cuts.take (n + 1) = cuts.take n ++ [cut] := by rw [amB, et]; rfl
   refine zj (abh (yi (PEdO.ped (qK (rows, wd, cut) (af2 rfl rfl ⟨rfl, ⟨rfl, g⟩, ?_⟩)))))
   rintro _ ⟨ts, rfl, T, aT, pT⟩
   dsimp only at T aT
   have fT := T.few g
   have li := adC ⟨T, aT, pT⟩
   have nx : jh rows wd sc (cuts.take (n + 1)) = jh rows wd sc (cuts.take n) ++ ts.map (wbD rows cut sc) := by
    rw [tk]
    unfold jh
    rw [amw]
    simp only [an0, aoZ, amq, li]
   generalize jh rows wd sc (cuts.take n) = W at *
   refine ⟨_, rfl, fun m ρ cs => (∃ x5 x6 : Option DV, ρ = [some (.dat (tab rows)), some (.dat (.list (cuts.map .int))), some (.dat (.int sc)), some (.own (f.M.length + 0)), some (.dat (.int cut)), x5, x6]) /\ cs = [.lst (W ++ (ts.take m).map (wbD rows cut sc))], ⟨⟨_, _, rfl⟩, by rw [apq, anx, amq]⟩, ?_, ?_⟩
   ·rintro m d _ _ hd2 ⟨⟨x5, x6, rfl⟩, rfl⟩
    rw [alJ] at hd2
    cases e2 : ts[m]? with
    | none => rw [e2] at hd2; cases hd2
    | some t =>
     rw [e2] at hd2
     cases hd2
     have ht := alN e2
     have Lt := T.line t ht
     have fl := qi g Lt.op Lt.nd
     have tk2 : ts.take (m + 1) = ts.take m ++ [t] := by rw [amB, e2]; rfl
     refine aiN (ac2 (i := 3) (j := 0) rfl rfl ?_ (ac1 (jV (zy (zl rfl (zy (abI (zy (PEdO.ped (aau (A := gD3) (B := fun q => pD (scP rows cut sc q)) t.2 (acJ (zl rfl ⟨_, rfl, rfl, by omega, ?_, ?_⟩))))))))))))
     ·rw [alR, alD, amk]
      omega
     ·rintro D2 q ρ3 es3 hq ho hes
      obtain ⟨u, rfl⟩ := ho.one
      refine zj (ja ?_)
      rw [if_pos rfl]
      refine yC hes (zp (rows, wd, cut, q, sc) (alh rfl rfl rfl rfl ⟨rfl, ⟨rfl, g, Lt.op q hq, L⟩, ?_⟩))
      rintro _ rfl
      exact ⟨.mk1, rfl⟩
     ·refine ya (.inl ⟨_, rfl, ya ⟨_, rfl, by show 2 <= 1000; decide, ⟨_, _, rfl⟩, ?_⟩⟩)
      rw [tk2, al6, <- amR]
      rfl
   ·rintro _ _ ⟨⟨x5, x6, rfl⟩, rfl⟩
    rw [alD, amg, <- nx]
    refine ⟨⟨_, _, _, rfl⟩, rfl, ?_⟩
    rw [nx, alR, alD]
    omega
 ·rintro _ _ ⟨⟨x4, x5, x6, rfl⟩, rfl, le⟩
  rw [alD, amg] at *
  have fr : anW (freed f.M.length [OC.lst (jh rows wd sc cuts)]) [some (DV.dat (tab rows)), some (.dat (.list (cuts.map PyData.int))), some (.dat (.int sc)), some (.own (f.M.length + 0)), x4, x5, x6] = [some (.dat (tab rows)), some (.dat (.list (cuts.map PyData.int))), some (.dat (.int sc)), some (.dat (.list (jh rows wd sc cuts))), freed f.M.length [OC.lst (jh rows wd sc cuts)] x4, freed f.M.length [OC.lst (jh rows wd sc cuts)] x5, freed f.M.length [OC.lst (jh rows wd sc cuts)] x6] := by simp [freed]
  refine abY ?_
  rw [fr]
  exact yy (zl rfl ⟨rfl, by omega⟩)
def acp (d : PyData) : Prop := ∃ (wo : Str) (l : List Pt), d = .tuple [.str wo, .tuple (l.map pD)] /\ PySem.PyData.strOk wo = true
theorem ajj (rows : List (List Int)) (cut : Int) (sc : Nat) (t : Bool × List Gt) : acp (wbD rows cut sc t) := by
 refine ⟨if t.1 = true then "ring" else "run", t.2.map (scP rows cut sc), ?_, ?_⟩
 ·unfold wbD
  rw [anY]
  rfl
 ·cases t.1 <;> decide +kernel
theorem ags (rows : List (List Int)) (wd sc : Nat) (cuts : List Int) : ∀ d ∈ jh rows wd sc cuts, acp d := fun d hd => by
 obtain ⟨c, _, h⟩ := amb.mp hd
 obtain ⟨t, _, rfl⟩ := al1.mp h
 exact ajj rows c sc t
theorem aej : ∀ l : List Pt, ams (l.map pD) = true /\ alK (l.map pD) <= 1
 | [] => ⟨rfl, ama _⟩
 | p :: l => ⟨(aej l).1, ao4.mpr ⟨alI 1, (aej l).2⟩⟩
theorem afn : ∀ es : List PyData, (∀ d ∈ es, acp d) -> ams es = true /\ alK es <= 3
 | [], _ => ⟨rfl, ama _⟩
 | d :: es, h => by
  obtain ⟨a, b⟩ := afn es fun e he => h e (alH _ he)
  obtain ⟨wo, l, rfl, so⟩ := h d alL
  obtain ⟨c1, c2⟩ := aej l
  refine ⟨?_, ao4.mpr ⟨?_, b⟩⟩
  ·show (((PyData.str wo).canLay0 && (ams (l.map pD) && true)) && ams es) = true
   rw [a, c1, show (PyData.str wo).canLay0 = true from so]
   rfl
  ·show max 0 (max (alK (l.map pD) + 1) 0) + 1 <= 3
   omega
abbrev afo (K : alE) : Sp := spD K 1 (fun (c : List PyData) xs => xs = [.dat (.list c)] /\ ∀ d ∈ c, acp d) fun _ r => r = .bool true
theorem ah1 (F : Def K mg "_law_whole" ju ["_law_web"]) (m_isinstance : mg "isinstance" = none) (m_bool : mg "bool" = none) (kB : amH K (.type "int") (.type "bool") = some false) : FnIn P w K mg base (k + 1) "_law_whole" ["_law_web"] (afo K) := by
 refine F.ok sc_law_whole rfl fun fa cdv A outer s H E hr => ⟨_, (zc (yR aml rfl (zO (K := K) rfl (pv 0)) (zH (K := K) (n := 2) rfl rfl (zg (zf (i := 1) sc_law_whole.nd rfl (Or.inl rfl) (Or.inr rfl)) (zg (zf (i := 2) sc_law_whole.nd rfl (Or.inl rfl) (Or.inr rfl)) zF))) (zh (yR aml rfl (qV (K := K) rfl (pv 2)) (zH (K := K) (n := 2) rfl rfl (zg (zf (i := 3) sc_law_whole.nd rfl (Or.inl rfl) (Or.inr rfl)) (zg (zf (i := 4) sc_law_whole.nd rfl (Or.inl rfl) (Or.inr rfl)) zF))) (zh (yt (PW.pt (aaZ (z3 (K := K) rfl (zB (vy (K := K) rfl) rfl m_isinstance boot_isinstance (za (pv 3) (za (abz (v := .ty "bool") rfl m_bool ao6 rfl) zb))) (fun _ => rfl)) (abA (z3 (K := K) rfl (zB (vy (K := K) rfl) rfl m_isinstance boot_isinstance (za (pv 4) (za (abz (v := .ty "bool") rfl m_bool ao6 rfl) zb))) (fun _ => rfl))))) (zh (zu vJ)) zP))))) (zh (zu vJ))), ?_⟩
 rintro f xs c hl ⟨rfl, it⟩
 try dsimp only [zW, zi]
 refine zQ (acK (yi (zl rfl ⟨_, rfl, fun n ρ => ∃ x1 x2 x3 x4 : Option DV, ρ = [some (.dat (.list c)), x1, x2, x3, x4], ⟨_, _, _, _, rfl⟩, ?_, ?_⟩)))
 ·rintro n d _ hd ⟨x1, x2, x3, x4, rfl⟩
  obtain ⟨wo, l, rfl, _⟩ := it d (alN hd)
  refine aiN (acK (acJ (zl rfl ⟨_, rfl, fun m ρ => ∃ x1 x2 x3 x4 : Option DV, ρ = [some (.dat (.list c)), x1, x2, x3, x4] /\ x2 = some (.dat (.tuple (l.map pD))), ⟨_, _, _, _, rfl, rfl⟩, ?_, ?_⟩)))
  ·rintro m d _ hd2 ⟨x1, x2, x3, x4, rfl, rfl⟩
   rw [alJ] at hd2
   cases e2 : l[m]? with
   | none => rw [e2] at hd2; cases hd2
   | some p =>
    rw [e2] at hd2
    cases hd2
    refine aiN (aaS (adN (yV (aju kB (zl rfl ⟨_, rfl, _, rfl, ?_⟩)))))
    rw [if_neg alC]
    refine yV (aju kB (zl rfl ⟨_, rfl, _, rfl, ?_⟩))
    rw [if_neg alC]
    exact jZ ⟨_, _, _, _, rfl, rfl⟩
  ·rintro _ ⟨x1, x2, x3, x4, rfl, _⟩
   exact ⟨_, _, _, _, rfl⟩
 ·rintro _ ⟨x1, x2, x3, x4, rfl⟩
  exact yy (aj7 rfl)
end
open PySem PySem.Spec PyProof.Rows L2
theorem aek : ∀ l : List Int, ams (l.map .int) = true /\ alK (l.map .int) <= 1
 | [] => ⟨rfl, ama _⟩
 | p :: l => ⟨(aek l).1, ao4.mpr ⟨ama 1, (aek l).2⟩⟩
section
variable {P : Program} {w : World} {K : alE} {mg : Str -> Option Value} {base : Heap} {k : Nat}
theorem akT {f : Addr} {fd : FuncData} (F : Fun K "law" "law" vQ f fd) (m_len : mg "len" = none) (m_range : mg "range" = none) (m_max : mg "max" = none) (m_min : mg "min" = none) (m_list : mg "list" = none) (m_isinstance : mg "isinstance" = none) (kL : amH K (.type "list") (.type "list") = some true)
  (G__law_feed : FnIn P w K mg base k "_law_feed" ["_law_script", "_law_k"] (aei K)) (G__law_table : FnIn P w K mg base k "_law_table" ["_law_feed_here"] (ae0 K)) (G__law_cuts : FnIn P w K mg base k "_law_cuts" ["_law_feed_here", "_law_rows"] (ahZ K)) (G_scale_of : FnIn P w K mg base k "scale_of" ["rows"] (aco K)) (G__law_due : FnIn P w K mg base k "_law_due" ["_law_rows", "_law_cuts_here", "_law_scale"] (ah0 K)) (G_web_of : FnIn P w K mg base k "web_of" ["rows", "cuts"] (ajG K)) (G__law_whole : FnIn P w K mg base k "_law_whole" ["_law_web"] (afo K)) :
  FnOk P w K mg base CX0 (k + 1) f fd ["_law_script"] (afj K) := by
 refine F.ok sc_law (fun vs H Q E h => ?_) fun cdv A outer s H vs Q E hr hs => ⟨_, (zc (yR aml rfl (y7 rfl m_range (za (zB (afu rfl) rfl m_max boot_max (za zd (za (zB (aa1 rfl) rfl m_min boot_min (za zd (za (zB (ym (K := K) rfl) rfl m_len amJ (za (pv 0) zb)) zb))) zb))) zb)) (zf (i := 1) sc_law.nd rfl (Or.inl rfl) (Or.inr rfl)) (zc (zD (i := 2) sc_law.nd rfl (Or.inl rfl) (ze G__law_feed hr rfl (za (pv 0) (za (pv 1) zb)))) (zc (zD (i := 3) sc_law.nd rfl (Or.inl rfl) (ze G__law_table hr rfl (za (pv 2) zb))) (zc (zD (i := 4) sc_law.nd rfl (Or.inl rfl) (ze G__law_cuts hr rfl (za (pv 2) (za (pv 3) zb)))) (zc (vM (i := 5) (N := ["_law_row"]) (own := 1) (fr := []) ⟨rfl, by decide +kernel, of_decide_eq_true (by kernel_rfl), of_decide_eq_true (by kernel_rfl), of_decide_eq_true (by kernel_rfl), rfl⟩ rfl sc_law.nd rfl (Or.inl rfl) (zO (K := K) rfl (pv 3)) (fun _ _ _ _ => (zf (i := 0) (show (["_law_row"] : List Str).Nodup by decide +kernel) rfl (Or.inl rfl) (Or.inr rfl))) (fun _ _ _ _ => yh) (fun _ _ _ _ => (jx (aaq (K := K) rfl) rfl m_list aoc (za (pv 0) zb))) rfl rfl (fun _ => rfl) (Or.inl rfl) rfl) (zc (zD (i := 6) sc_law.nd rfl (Or.inl rfl) (jx (aaq (K := K) rfl) rfl m_list aoc (za (pv 4) zb))) (zc (zD (i := 7) sc_law.nd rfl (Or.inl rfl) (ze G__law_due hr rfl (za (pv 5) (za (pv 6) (za (ze G_scale_of hr rfl (za (pv 5) zb)) zb))))) (zc (zD (i := 8) sc_law.nd rfl (Or.inl rfl) (ze G_web_of hr rfl (za (pv 3) (za (pv 4) zb)))) (zc (yt (PW.pt (aaZ (vu (z3 (K := K) rfl (zB (vy (K := K) rfl) rfl m_isinstance boot_isinstance (za (pv 8) (za (abz (v := .ty "list") rfl m_list aoc rfl) zb))) (fun _ => rfl))) (aaZ (zR (j9 (K := K) rfl hr.units) (pv 8) (pv 7) (zX _)) (abA (vu (z3 (K := K) rfl (ze G__law_whole hr rfl (za (pv 8) zb)) (fun _ => rfl))))))) (zh (zu vJ)) zP) (zc (yM (acw amT amO amP jy (pv 8) (za (zA (za qE (za (zA zb) zb))) zb))) (zh (yt (PW.pt (aaZ (zR (j9 (K := K) rfl hr.units) (ze G_web_of hr rfl (za (pv 3) (za (pv 4) zb))) (pv 7) (zX _)) (aaZ (zR (j9 (K := K) rfl hr.units) (pv 3) (pv 5) (zX _)) (abA (zR (j9 (K := K) rfl hr.units) (pv 4) (pv 6) (zX _)))))) (zh (zu vJ)) zP)))))))))))) (zh (zu vJ))), ?_⟩
 ·obtain ⟨a, ns, rfl, _⟩ := h
  rfl
 obtain ⟨a, ns, rfl, hS, h63, q⟩ := hs
 have e0 : EnvOk K L2.f0 (j7 aeZ [.dat (scr ns)]) (start aeZ [.ref a]) H := qm (.cons (afi hS) .nil) (L2.fok0 H)
 suffices h : PSd K L2.f0 _ (j7 aeZ [.dat (scr ns)]) { nx := fun _ => False, rt := fun d => d = .bool true } from
  h _ H _ e0 (fun _ _ _ _ _ z => z.elim) (fun d v H' _ r z => by
   subst z
   rw [rep_bool.mp r]
   exact q H') (fun _ _ _ _ _ z => z) (fun _ _ _ _ _ z => z)
 refine zQ (acK (v3 (ajd (R := fun xs => ∃ j : Int, xs = [.dat (.int j)] /\ 0 <= j /\ j <= 63) ?_ ?_)))
 ·repeat walk_at "dl"
  rw [alD]
  split <;> split <;> omega
 rintro _ ⟨j, rfl, j0, j1⟩
 refine ⟨j, rfl, by omega, by omega, fun i ρ => ∃ x1 x2 x3 x4 x5 x6 x7 x8, ρ = [some (.dat (scr ns)), x1, x2, x3, x4, x5, x6, x7, x8], ⟨_, _, _, _, _, _, _, _, rfl⟩, ?_, ?_⟩
 ·rintro i d _ hi ⟨x1, x2, x3, x4, x5, x6, x7, x8, rfl⟩
  obtain ⟨hi, rfl⟩ := vm hi
  refine zj (ake (akO rfl rfl h63 (by omega) (by omega)) fun p => ?_)
  refine zQ (zJ (zp () ?_))
  repeat walk_at "dl"
  rintro _ ⟨wd, rows, rfl, g⟩
  have g1 := g.h1
  have g2 := g.h2
  obtain ⟨lt, dt⟩ := ai2 rows
  refine zj (zQ (zJ (zp (rows, wd) ?_)))
  repeat walk_at "dl"
  rintro _ ⟨cuts, rfl, few⟩
  refine zj (zQ (zJ (akP rfl (by omega) (zj ?_))))
  refine zQ (zJ (acF (ac7 rfl (.inl ⟨_, rfl, zj ?_⟩))))
  refine zQ (zJ (aiM (zy (zl rfl (zy (zl rfl (zy (zp (rows, wd) (ac7 rfl ⟨rfl, ⟨rfl, g⟩, ?_⟩)))))))))
  rintro _ ⟨sc, rfl, L⟩
  dsimp only at L
  refine ya ⟨(rows, wd, cuts, sc), rfl, ⟨rfl, g, few, L⟩, ?_⟩
  rintro _ ⟨rfl, wl⟩
  dsimp only at wl
  have it := ags rows wd sc cuts
  have es : ∀ {es : List PyData}, (∃ s : Nat, Lcm (vX rows wd) s /\ es = jh rows wd s cuts) -> es = jh rows wd sc cuts := by
   rintro _ ⟨s, L', rfl⟩
   rw [ahX L' L fun _ _ => Iff.rfl]
  show PGd _ _ _ (.list (jh rows wd sc cuts)) _ _
  obtain ⟨lay, dep⟩ := afn _ it
  obtain ⟨ci, di⟩ := aek cuts
  generalize jh rows wd sc cuts = W at *
  have eW : al4 (.list W) (.list W) = true := anU _ lay
  have dW : min (aou (.list W)) (aou (.list W)) <= 60 := alZ (apa _ _) (alZ (ao0 dep) (by decide))
  refine zj ?_
  refine aaB (w := w) (ac3 (vd (qK (rows, wd, cuts) (af2 rfl rfl ⟨rfl, ⟨rfl, g, few⟩, fun _ h => ?_⟩))))
  obtain rfl := (es h).symm
  refine ⟨show 8 < 9 by decide, fun D => ?_⟩
  refine ajz (fun ρ cs => ρ = [some (.dat (scr ns)), some (.dat (.int i)), some .feed, some (.dat (tab rows)), some (.dat (.list (cuts.map .int))), some (.dat (tab rows)), some (.dat (.list (cuts.map .int))), some (.dat (.list W)), some (.own 0)] /\ cs = [.lst W]) (aiB (aeY ?_)) ?_
  ·refine adN (aa8 (yV (ak2 kL (zl (i := 8) (d := .list W) rfl ⟨_, rfl, _, rfl, ?_⟩))))
   refine yF (fun h => absurd h alC) fun _ => ?_
   refine adN (yv (jU (zl (i := 8) (d := .list W) rfl (zl (i := 7) (d := .list W) rfl ⟨lay, lay, dW, _, rfl, ?_⟩))))
   rw [if_pos rfl, eW, amm, if_neg alC]
   refine aa8 (yV (zp W (zy (zl (i := 8) (d := .list W) rfl (ya ⟨rfl, ⟨rfl, it⟩, ?_⟩)))))
   rintro _ rfl
   refine ⟨true, rfl, ?_⟩
   exact yF (fun h => absurd h alC) fun _ => abX ⟨rfl, rfl⟩
  rintro _ _ ⟨rfl, rfl⟩
  refine jC (ac2 (i := 8) (j := 0) rfl rfl (by omega) (ac1 ?_))
  repeat walk_at "dl"
  refine aiB (ak9 (adN (yv (jU (PEdO.ped (qK (rows, wd, cuts) (af2 rfl rfl ⟨rfl, ⟨rfl, g, few⟩, fun _ h => ?_⟩)))))))
  obtain rfl := (es h).symm
  refine zl (i := 7) (d := .list W) rfl ⟨lay, lay, dW, _, rfl, ?_⟩
  rw [if_pos rfl, eW, amm, if_neg alC]
  refine adN (yv (jU (zl (i := 3) (d := tab rows) rfl (zl (i := 5) (d := tab rows) rfl ⟨lt, lt, alZ (apa _ _) dt, _, rfl, ?_⟩))))
  rw [if_pos rfl, anU _ lt, amm, if_neg alC]
  refine yv (jU (zl (i := 4) (d := .list (cuts.map .int)) rfl (zl (i := 6) (d := .list (cuts.map .int)) rfl ⟨ci, ci, alZ (apa _ _) (alZ (ao0 di) (by decide)), _, rfl, ?_⟩)))
  rw [if_pos rfl, anU (.list (cuts.map .int)) ci, amm, if_neg alC]
  exact abX ⟨_, _, _, _, _, _, _, _, rfl⟩
 ·rintro _ ⟨x1, x2, x3, x4, x5, x6, x7, x8, rfl⟩
  repeat walk_at "dl"
  rfl
end
open PySem PySem.Spec PyProof.Rows L2
theorem all_mk {l : PySem.W.OpenLaw} {w : World} {K : alE} {h : Heap} {mg : Str -> Option Value} {fa : Addr} (X : K.In h) (G : h.Ns mainGlobals mg) (hfa : mg "law" = some (.ref fa))
  {f1 : Addr} {od1 an1 : Option Addr} {sl1 : Array (Option Value)} {oc1 kV1 dc1 pm1 cd1 ct1 : Value} (a1 : FD K "size" ab4 f1 od1 an1 sl1 oc1 kV1 dc1 pm1 cd1 ct1)
  {f2 : Addr} {od2 an2 : Option Addr} {sl2 : Array (Option Value)} {oc2 kV2 dc2 pm2 cd2 ct2 : Value} (a2 : FD K "points" vg f2 od2 an2 sl2 oc2 kV2 dc2 pm2 cd2 ct2)
  {f3 : Addr} {od3 an3 : Option Addr} {sl3 : Array (Option Value)} {oc3 kV3 dc3 pm3 cd3 ct3 : Value} (a3 : FD K "has_point" jl f3 od3 an3 sl3 oc3 kV3 dc3 pm3 cd3 ct3)
  {f4 : Addr} {od4 an4 : Option Addr} {sl4 : Array (Option Value)} {oc4 kV4 dc4 pm4 cd4 ct4 : Value} (a4 : FD K "neighbours" yW f4 od4 an4 sl4 oc4 kV4 dc4 pm4 cd4 ct4)
  {f5 : Addr} {od5 an5 : Option Addr} {sl5 : Array (Option Value)} {oc5 kV5 dc5 pm5 cd5 ct5 : Value} (a5 : FD K "has_cell" jL f5 od5 an5 sl5 oc5 kV5 dc5 pm5 cd5 ct5)
  {f6 : Addr} {od6 an6 : Option Addr} {sl6 : Array (Option Value)} {oc6 kV6 dc6 pm6 cd6 ct6 : Value} (a6 : FD K "corners" qq f6 od6 an6 sl6 oc6 kV6 dc6 pm6 cd6 ct6)
  {f7 : Addr} {od7 an7 : Option Addr} {sl7 : Array (Option Value)} {oc7 kV7 dc7 pm7 cd7 ct7 : Value} (a7 : FD K "common" vh f7 od7 an7 sl7 oc7 kV7 dc7 pm7 cd7 ct7)
  {f8 : Addr} {od8 an8 : Option Addr} {sl8 : Array (Option Value)} {oc8 kV8 dc8 pm8 cd8 ct8 : Value} (a8 : FD K "shortened" jm f8 od8 an8 sl8 oc8 kV8 dc8 pm8 cd8 ct8)
  {f9 : Addr} {od9 an9 : Option Addr} {sl9 : Array (Option Value)} {oc9 kV9 dc9 pm9 cd9 ct9 : Value} (a9 : FD K "ask_table" jn f9 od9 an9 sl9 oc9 kV9 dc9 pm9 cd9 ct9)
  {f10 : Addr} {od10 an10 : Option Addr} {sl10 : Array (Option Value)} {oc10 kV10 dc10 pm10 cd10 ct10 : Value} (a10 : FD K "fits" ab6 f10 od10 an10 sl10 oc10 kV10 dc10 pm10 cd10 ct10)
  {f11 : Addr} {od11 an11 : Option Addr} {sl11 : Array (Option Value)} {oc11 kV11 dc11 pm11 cd11 ct11 : Value} (a11 : FD K "is_row" vi f11 od11 an11 sl11 oc11 kV11 dc11 pm11 cd11 ct11)
  {f12 : Addr} {od12 an12 : Option Addr} {sl12 : Array (Option Value)} {oc12 kV12 dc12 pm12 cd12 ct12 : Value} (a12 : FD K "gates" aab f12 od12 an12 sl12 oc12 kV12 dc12 pm12 cd12 ct12)
  {f13 : Addr} {od13 an13 : Option Addr} {sl13 : Array (Option Value)} {oc13 kV13 dc13 pm13 cd13 ct13 : Value} (a13 : FD K "stands_high" yN f13 od13 an13 sl13 oc13 kV13 dc13 pm13 cd13 ct13)
  {f14 : Addr} {od14 an14 : Option Addr} {sl14 : Array (Option Value)} {oc14 kV14 dc14 pm14 cd14 ct14 : Value} (a14 : FD K "gate_points" yO f14 od14 an14 sl14 oc14 kV14 dc14 pm14 cd14 ct14)
  {f15 : Addr} {od15 an15 : Option Addr} {sl15 : Array (Option Value)} {oc15 kV15 dc15 pm15 cd15 ct15 : Value} (a15 : FD K "has_gate" jM f15 od15 an15 sl15 oc15 kV15 dc15 pm15 cd15 ct15)
  {f16 : Addr} {od16 an16 : Option Addr} {sl16 : Array (Option Value)} {oc16 kV16 dc16 pm16 cd16 ct16 : Value} (a16 : FD K "is_open" qr f16 od16 an16 sl16 oc16 kV16 dc16 pm16 cd16 ct16)
  {f17 : Addr} {od17 an17 : Option Addr} {sl17 : Array (Option Value)} {oc17 kV17 dc17 pm17 cd17 ct17 : Value} (a17 : FD K "cell_gates" yX f17 od17 an17 sl17 oc17 kV17 dc17 pm17 cd17 ct17)
  {f18 : Addr} {od18 an18 : Option Addr} {sl18 : Array (Option Value)} {oc18 kV18 dc18 pm18 cd18 ct18 : Value} (a18 : FD K "is_crossed" yY f18 od18 an18 sl18 oc18 kV18 dc18 pm18 cd18 ct18)
  {f19 : Addr} {od19 an19 : Option Addr} {sl19 : Array (Option Value)} {oc19 kV19 dc19 pm19 cd19 ct19 : Value} (a19 : FD K "has_high_middle" yo f19 od19 an19 sl19 oc19 kV19 dc19 pm19 cd19 ct19)
  {f20 : Addr} {od20 an20 : Option Addr} {sl20 : Array (Option Value)} {oc20 kV20 dc20 pm20 cd20 ct20 : Value} (a20 : FD K "cell_ties" jo f20 od20 an20 sl20 oc20 kV20 dc20 pm20 cd20 ct20)
  {f21 : Addr} {od21 an21 : Option Addr} {sl21 : Array (Option Value)} {oc21 kV21 dc21 pm21 cd21 ct21 : Value} (a21 : FD K "crossed_ties" yI f21 od21 an21 sl21 oc21 kV21 dc21 pm21 cd21 ct21)
  {f22 : Addr} {od22 an22 : Option Addr} {sl22 : Array (Option Value)} {oc22 kV22 dc22 pm22 cd22 ct22 : Value} (a22 : FD K "heading" qs f22 od22 an22 sl22 oc22 kV22 dc22 pm22 cd22 ct22)
  {f23 : Addr} {od23 an23 : Option Addr} {sl23 : Array (Option Value)} {oc23 kV23 dc23 pm23 cd23 ct23 : Value} (a23 : FD K "cell_ahead" yZ f23 od23 an23 sl23 oc23 kV23 dc23 pm23 cd23 ct23)
  {f24 : Addr} {od24 an24 : Option Addr} {sl24 : Array (Option Value)} {oc24 kV24 dc24 pm24 cd24 ct24 : Value} (a24 : FD K "comes_in" jN f24 od24 an24 sl24 oc24 kV24 dc24 pm24 cd24 ct24)
  {f25 : Addr} {od25 an25 : Option Addr} {sl25 : Array (Option Value)} {oc25 kV25 dc25 pm25 cd25 ct25 : Value} (a25 : FD K "gate_ahead" y3 f25 od25 an25 sl25 oc25 kV25 dc25 pm25 cd25 ct25)
  {f26 : Addr} {od26 an26 : Option Addr} {sl26 : Array (Option Value)} {oc26 kV26 dc26 pm26 cd26 ct26 : Value} (a26 : FD K "lines" aac f26 od26 an26 sl26 oc26 kV26 dc26 pm26 cd26 ct26)
  {f27 : Addr} {od27 an27 : Option Addr} {sl27 : Array (Option Value)} {oc27 kV27 dc27 pm27 cd27 ct27 : Value} (a27 : FD K "line_from" jq f27 od27 an27 sl27 oc27 kV27 dc27 pm27 cd27 ct27)
  {f28 : Addr} {od28 an28 : Option Addr} {sl28 : Array (Option Value)} {oc28 kV28 dc28 pm28 cd28 ct28 : Value} (a28 : FD K "place_of" jO f28 od28 an28 sl28 oc28 kV28 dc28 pm28 cd28 ct28)
  {f29 : Addr} {od29 an29 : Option Addr} {sl29 : Array (Option Value)} {oc29 kV29 dc29 pm29 cd29 ct29 : Value} (a29 : FD K "share" aad f29 od29 an29 sl29 oc29 kV29 dc29 pm29 cd29 ct29)
  {f30 : Addr} {od30 an30 : Option Addr} {sl30 : Array (Option Value)} {oc30 kV30 dc30 pm30 cd30 ct30 : Value} (a30 : FD K "scale_of" jP f30 od30 an30 sl30 oc30 kV30 dc30 pm30 cd30 ct30)
  {f31 : Addr} {od31 an31 : Option Addr} {sl31 : Array (Option Value)} {oc31 kV31 dc31 pm31 cd31 ct31 : Value} (a31 : FD K "web_of" vk f31 od31 an31 sl31 oc31 kV31 dc31 pm31 cd31 ct31)
  {f32 : Addr} {od32 an32 : Option Addr} {sl32 : Array (Option Value)} {oc32 kV32 dc32 pm32 cd32 ct32 : Value} (a32 : FD K "scaled_place" yJ f32 od32 an32 sl32 oc32 kV32 dc32 pm32 cd32 ct32)
  {f33 : Addr} {od33 an33 : Option Addr} {sl33 : Array (Option Value)} {oc33 kV33 dc33 pm33 cd33 ct33 : Value} (a33 : FD K "_law_feed" jQ f33 od33 an33 sl33 oc33 kV33 dc33 pm33 cd33 ct33)
  {f34 : Addr} {od34 an34 : Option Addr} {sl34 : Array (Option Value)} {oc34 kV34 dc34 pm34 cd34 ct34 : Value} (a34 : FD K "_law_draw" jR f34 od34 an34 sl34 oc34 kV34 dc34 pm34 cd34 ct34)
  {f35 : Addr} {od35 an35 : Option Addr} {sl35 : Array (Option Value)} {oc35 kV35 dc35 pm35 cd35 ct35 : Value} (a35 : FD K "_law_height" y4 f35 od35 an35 sl35 oc35 kV35 dc35 pm35 cd35 ct35)
  {f36 : Addr} {od36 an36 : Option Addr} {sl36 : Array (Option Value)} {oc36 kV36 dc36 pm36 cd36 ct36 : Value} (a36 : FD K "_law_table" jr f36 od36 an36 sl36 oc36 kV36 dc36 pm36 cd36 ct36)
  {f37 : Addr} {od37 an37 : Option Addr} {sl37 : Array (Option Value)} {oc37 kV37 dc37 pm37 cd37 ct37 : Value} (a37 : FD K "_law_cuts" jS f37 od37 an37 sl37 oc37 kV37 dc37 pm37 cd37 ct37)
  {f38 : Addr} {od38 an38 : Option Addr} {sl38 : Array (Option Value)} {oc38 kV38 dc38 pm38 cd38 ct38 : Value} (a38 : FD K "_law_place" jt f38 od38 an38 sl38 oc38 kV38 dc38 pm38 cd38 ct38)
  {f39 : Addr} {od39 an39 : Option Addr} {sl39 : Array (Option Value)} {oc39 kV39 dc39 pm39 cd39 ct39 : Value} (a39 : FD K "_law_due" qt f39 od39 an39 sl39 oc39 kV39 dc39 pm39 cd39 ct39)
  {f40 : Addr} {od40 an40 : Option Addr} {sl40 : Array (Option Value)} {oc40 kV40 dc40 pm40 cd40 ct40 : Value} (a40 : FD K "_law_whole" ju f40 od40 an40 sl40 oc40 kV40 dc40 pm40 cd40 ct40)
  {f41 : Addr} {od41 an41 : Option Addr} {sl41 : Array (Option Value)} {oc41 kV41 dc41 pm41 cd41 ct41 : Value} (a41 : FD K "law" vQ f41 od41 an41 sl41 oc41 kV41 dc41 pm41 cd41 ct41)
  {tk_FEWEST : Tok} (g_FEWEST : ame K mainGlobals "FEWEST" = some (some (.int (2) tk_FEWEST)))
  {tk_MOST : Tok} (g_MOST : ame K mainGlobals "MOST" = some (some (.int (7) tk_MOST)))
  {tk_LEAST : Tok} (g_LEAST : ame K mainGlobals "LEAST" = some (some (.int (-1000000000) tk_LEAST)))
  {tk_GREATEST : Tok} (g_GREATEST : ame K mainGlobals "GREATEST" = some (some (.int (1000000000) tk_GREATEST)))
  (z_len : ame K mainGlobals "len" = some none)
  (z_min : ame K mainGlobals "min" = some none)
  (z_max : ame K mainGlobals "max" = some none)
  (z_enumerate : ame K mainGlobals "enumerate" = some none)
  (z_range : ame K mainGlobals "range" = some none)
  (z_all : ame K mainGlobals "all" = some none)
  (z_sum : ame K mainGlobals "sum" = some none)
  (z_tuple : ame K mainGlobals "tuple" = some none)
  (z_set : ame K mainGlobals "set" = some none)
  (z_sorted : ame K mainGlobals "sorted" = some none)
  (z_abs : ame K mainGlobals "abs" = some none)
  (z_isinstance : ame K mainGlobals "isinstance" = some none)
  (z_bool : ame K mainGlobals "bool" = some none)
  (z_list : ame K mainGlobals "list" = some none)
  {C_AHEAD : Addr} (cG_AHEAD : ame K mainGlobals "AHEAD" = some (some (.ref C_AHEAD)))
  {C_BEHIND : Addr} (cG_BEHIND : ame K mainGlobals "BEHIND" = some (some (.ref C_BEHIND)))
  (tab_AHEAD : af0 K C_AHEAD akH = true)
  (tab_BEHIND : af0 K C_BEHIND ahE = true)
  (kB : amH K (.type "int") (.type "bool") = some false)
  (kL : amH K (.type "list") (.type "list") = some true) :
  ∃ fd : FuncData, (∀ (s : Shared) (v : Value), BindsTo s fd ⟨[v], []⟩ [("_law_script", v)]) /\ ∀ base : Heap, K.In base -> base.Ns mainGlobals mg -> FnOk l.prog w K mg base CX0 11 fa fd ["_law_script"] (afj K) := by
 have F_size : Def K mg "size" ab4 ["rows"] := ye X G a1 (fun _ _ _ _ _ _ us hl => match us, hl with | [_], _ => rfl)
 have F_points : Def K mg "points" vg ["rows"] := ye X G a2 (fun _ _ _ _ _ _ us hl => match us, hl with | [_], _ => rfl)
 have F_has_point : Def K mg "has_point" jl ["rows", "x", "y"] := ye X G a3 (fun _ _ _ _ _ _ us hl => match us, hl with | [_, _, _], _ => rfl)
 have F_neighbours : Def K mg "neighbours" yW ["rows", "x", "y"] := ye X G a4 (fun _ _ _ _ _ _ us hl => match us, hl with | [_, _, _], _ => rfl)
 have F_has_cell : Def K mg "has_cell" jL ["rows", "x", "y"] := ye X G a5 (fun _ _ _ _ _ _ us hl => match us, hl with | [_, _, _], _ => rfl)
 have F_corners : Def K mg "corners" qq ["x", "y"] := ye X G a6 (fun _ _ _ _ _ _ us hl => match us, hl with | [_, _], _ => rfl)
 have F_common : Def K mg "common" vh ["one", "other"] := ye X G a7 (fun _ _ _ _ _ _ us hl => match us, hl with | [_, _], _ => rfl)
 have F_shortened : Def K mg "shortened" jm ["top", "bottom"] := ye X G a8 (fun _ _ _ _ _ _ us hl => match us, hl with | [_, _], _ => rfl)
 have F_ask_table : Def K mg "ask_table" jn ["rows"] := ye X G a9 (fun _ _ _ _ _ _ us hl => match us, hl with | [_], _ => rfl)
 have F_fits : Def K mg "fits" ab6 ["things"] := ye X G a10 (fun _ _ _ _ _ _ us hl => match us, hl with | [_], _ => rfl)
 have F_is_row : Def K mg "is_row" vi ["row"] := ye X G a11 (fun _ _ _ _ _ _ us hl => match us, hl with | [_], _ => rfl)
 have F_gates : Def K mg "gates" aab ["rows", "cut"] := ye X G a12 (fun _ _ _ _ _ _ us hl => match us, hl with | [_, _], _ => rfl)
 have F_stands_high : Def K mg "stands_high" yN ["rows", "cut", "point"] := ye X G a13 (fun _ _ _ _ _ _ us hl => match us, hl with | [_, _, _], _ => rfl)
 have F_gate_points : Def K mg "gate_points" yO ["gate"] := ye X G a14 (fun _ _ _ _ _ _ us hl => match us, hl with | [_], _ => rfl)
 have F_has_gate : Def K mg "has_gate" jM ["rows", "gate"] := ye X G a15 (fun _ _ _ _ _ _ us hl => match us, hl with | [_, _], _ => rfl)
 have F_is_open : Def K mg "is_open" qr ["rows", "cut", "gate"] := ye X G a16 (fun _ _ _ _ _ _ us hl => match us, hl with | [_, _, _], _ => rfl)
 have F_cell_gates : Def K mg "cell_gates" yX ["cell"] := ye X G a17 (fun _ _ _ _ _ _ us hl => match us, hl with | [_], _ => rfl)
 have F_is_crossed : Def K mg "is_crossed" yY ["rows", "cut", "cell"] := ye X G a18 (fun _ _ _ _ _ _ us hl => match us, hl with | [_, _, _], _ => rfl)
 have F_has_high_middle : Def K mg "has_high_middle" yo ["rows", "cut", "cell"] := ye X G a19 (fun _ _ _ _ _ _ us hl => match us, hl with | [_, _, _], _ => rfl)
 have F_cell_ties : Def K mg "cell_ties" jo ["rows", "cut", "cell"] := ye X G a20 (fun _ _ _ _ _ _ us hl => match us, hl with | [_, _, _], _ => rfl)
 have F_crossed_ties : Def K mg "crossed_ties" yI ["rows", "cut", "cell"] := ye X G a21 (fun _ _ _ _ _ _ us hl => match us, hl with | [_, _, _], _ => rfl)
 have F_heading : Def K mg "heading" qs ["rows", "cut", "gate"] := ye X G a22 (fun _ _ _ _ _ _ us hl => match us, hl with | [_, _, _], _ => rfl)
 have F_cell_ahead : Def K mg "cell_ahead" yZ ["rows", "cut", "gate"] := ye X G a23 (fun _ _ _ _ _ _ us hl => match us, hl with | [_, _, _], _ => rfl)
 have F_comes_in : Def K mg "comes_in" jN ["rows", "cut", "gate"] := ye X G a24 (fun _ _ _ _ _ _ us hl => match us, hl with | [_, _, _], _ => rfl)
 have F_gate_ahead : Def K mg "gate_ahead" y3 ["rows", "cut", "gate"] := ye X G a25 (fun _ _ _ _ _ _ us hl => match us, hl with | [_, _, _], _ => rfl)
 have F_lines : Def K mg "lines" aac ["rows", "cut"] := ye X G a26 (fun _ _ _ _ _ _ us hl => match us, hl with | [_, _], _ => rfl)
 have F_line_from : Def K mg "line_from" jq ["rows", "cut", "start"] := ye X G a27 (fun _ _ _ _ _ _ us hl => match us, hl with | [_, _, _], _ => rfl)
 have F_place_of : Def K mg "place_of" jO ["rows", "cut", "gate"] := ye X G a28 (fun _ _ _ _ _ _ us hl => match us, hl with | [_, _, _], _ => rfl)
 have F_share : Def K mg "share" aad ["rows", "cut", "gate"] := ye X G a29 (fun _ _ _ _ _ _ us hl => match us, hl with | [_, _, _], _ => rfl)
 have F_scale_of : Def K mg "scale_of" jP ["rows"] := ye X G a30 (fun _ _ _ _ _ _ us hl => match us, hl with | [_], _ => rfl)
 have F_web_of : Def K mg "web_of" vk ["rows", "cuts"] := ye X G a31 (fun _ _ _ _ _ _ us hl => match us, hl with | [_, _], _ => rfl)
 have F_scaled_place : Def K mg "scaled_place" yJ ["rows", "cut", "gate", "scale"] := ye X G a32 (fun _ _ _ _ _ _ us hl => match us, hl with | [_, _, _, _], _ => rfl)
 have F_law_feed : Def K mg "_law_feed" jQ ["_law_script", "_law_k"] := ye X G a33 (fun _ _ _ _ _ _ us hl => match us, hl with | [_, _], _ => rfl)
 have F_law_draw : Def K mg "_law_draw" jR ["_law_feed_here", "_law_many"] := ye X G a34 (fun _ _ _ _ _ _ us hl => match us, hl with | [_, _], _ => rfl)
 have F_law_height : Def K mg "_law_height" y4 ["_law_feed_here", "_law_far", "_law_base"] := ye X G a35 (fun _ _ _ _ _ _ us hl => match us, hl with | [_, _, _], _ => rfl)
 have F_law_table : Def K mg "_law_table" jr ["_law_feed_here"] := ye X G a36 (fun _ _ _ _ _ _ us hl => match us, hl with | [_], _ => rfl)
 have F_law_cuts : Def K mg "_law_cuts" jS ["_law_feed_here", "_law_rows"] := ye X G a37 (fun _ _ _ _ _ _ us hl => match us, hl with | [_, _], _ => rfl)
 have F_law_place : Def K mg "_law_place" jt ["_law_rows", "_law_cut", "_law_gate", "_law_scale"] := ye X G a38 (fun _ _ _ _ _ _ us hl => match us, hl with | [_, _, _, _], _ => rfl)
 have F_law_due : Def K mg "_law_due" qt ["_law_rows", "_law_cuts_here", "_law_scale"] := ye X G a39 (fun _ _ _ _ _ _ us hl => match us, hl with | [_, _, _], _ => rfl)
 have F_law_whole : Def K mg "_law_whole" ju ["_law_web"] := ye X G a40 (fun _ _ _ _ _ _ us hl => match us, hl with | [_], _ => rfl)
 have F_law : Def K mg "law" vQ ["_law_script"] := ye X G a41 (fun _ _ _ _ _ _ us hl => match us, hl with | [_], _ => rfl)
 have m_FEWEST := am0 X G g_FEWEST
 have m_MOST := am0 X G g_MOST
 have m_LEAST := am0 X G g_LEAST
 have m_GREATEST := am0 X G g_GREATEST
 have m_len := amc X G z_len
 have m_min := amc X G z_min
 have m_max := amc X G z_max
 have m_enumerate := amc X G z_enumerate
 have m_range := amc X G z_range
 have m_all := amc X G z_all
 have m_sum := amc X G z_sum
 have m_tuple := amc X G z_tuple
 have m_set := amc X G z_set
 have m_sorted := amc X G z_sorted
 have m_abs := amc X G z_abs
 have m_isinstance := amc X G z_isinstance
 have m_bool := amc X G z_bool
 have m_list := amc X G z_list
 have m_AHEAD := am0 X G cG_AHEAD
 have m_BEHIND := am0 X G cG_BEHIND
 have e := hfa.symm.trans (am0 X G a41.1)
 cases e
 have F0 := adK (st := vQ) a41.2.1 a41.2.2.1 a41.2.2.2
 refine ⟨am8 "law" "law" (jH vQ) (yG vQ) (zk vQ) .none kV41 dc41 pm41 an41 cd41 ct41, fun s v => .of_eq rfl, fun base _ _ => ?_⟩
 have H0 := aje (P := l.prog) (w := w) (base := base) (k := 0) F_law_feed m_len m_abs
 have H1 := aiV (P := l.prog) (w := w) (base := base) (k := 0) F_law_draw
 have H2 := aiU (P := l.prog) (w := w) (base := base) (k := 0) F_fits m_len ⟨_, m_FEWEST⟩ ⟨_, m_MOST⟩
 have H3 := aiT (P := l.prog) (w := w) (base := base) (k := 0) F_size m_len
 have H4 := ago (P := l.prog) (w := w) (base := base) (k := 0) F_common m_abs
 have H5 := akE (P := l.prog) (w := w) (base := base) (k := 0) F_gate_points
 have H6 := aiW (P := l.prog) (w := w) (base := base) (k := 0) F_stands_high
 have H7 := age (P := l.prog) (w := w) (base := base) (k := 0) F_cell_gates
 have H8 := aeb (P := l.prog) (w := w) (base := base) (k := 0) F_corners
 have H9 := agr (P := l.prog) (w := w) (base := base) (k := 0) F_law_place
 have H10 := ah1 (P := l.prog) (w := w) (base := base) (k := 0) F_law_whole m_isinstance m_bool kB
 have H11 := agb (P := l.prog) (w := w) (base := base) (k := 1) F_law_height m_min (H1.mono (by decide))
 have H12 := ajh (P := l.prog) (w := w) (base := base) (k := 1) F_law_cuts m_len m_range (H1.mono (by decide))
 have H13 := aga (P := l.prog) (w := w) (base := base) (k := 1) F_is_row m_min m_max ⟨_, m_LEAST⟩ ⟨_, m_GREATEST⟩ (H2.mono (by decide))
 have H14 := agc (P := l.prog) (w := w) (base := base) (k := 1) F_points m_range (H3.mono (by decide))
 have H15 := akD (P := l.prog) (w := w) (base := base) (k := 1) F_has_point (H3.mono (by decide))
 have H16 := aee (P := l.prog) (w := w) (base := base) (k := 1) F_heading (H6.mono (by decide))
 have H17 := akG (P := l.prog) (w := w) (base := base) (k := 1) F_has_high_middle m_sum (H8.mono (by decide))
 have H18 := ahU (P := l.prog) (w := w) (base := base) (k := 1) F_shortened (H4.mono (by decide))
 have H19 := ahv (P := l.prog) (w := w) (base := base) (k := 2) F_law_table m_range (H1.mono (by decide)) (H11.mono (by decide))
 have H20 := akC (P := l.prog) (w := w) (base := base) (k := 2) F_ask_table m_len m_enumerate (H2.mono (by decide)) (H13.mono (by decide))
 have H21 := alo (P := l.prog) (w := w) (base := base) (k := 2) F_neighbours (H15.mono (by decide))
 have H22 := aiX (P := l.prog) (w := w) (base := base) (k := 2) F_has_gate m_all (H15.mono (by decide)) (H5.mono (by decide))
 have H23 := ai3 (P := l.prog) (w := w) (base := base) (k := 2) F_has_cell (H15.mono (by decide))
 have H24 := agi (P := l.prog) (w := w) (base := base) (k := 2) F_cell_ahead m_AHEAD tab_AHEAD (H16.mono (by decide))
 have H25 := agf (P := l.prog) (w := w) (base := base) (k := 2) F_crossed_ties (H7.mono (by decide)) (H6.mono (by decide)) (H17.mono (by decide))
 have H26 := ahV (P := l.prog) (w := w) (base := base) (k := 2) F_share (H5.mono (by decide)) (H18.mono (by decide))
 have H27 := ahY (P := l.prog) (w := w) (base := base) (k := 3) F_scale_of m_abs (H20.mono (by decide)) (H14.mono (by decide)) (H21.mono (by decide)) (H4.mono (by decide))
 have H28 := aiY (P := l.prog) (w := w) (base := base) (k := 3) F_is_open (H22.mono (by decide)) (H5.mono (by decide)) (H6.mono (by decide))
 have H29 := ahG (P := l.prog) (w := w) (base := base) (k := 3) F_comes_in m_BEHIND tab_BEHIND (H16.mono (by decide)) (H23.mono (by decide))
 have H30 := adA (P := l.prog) (w := w) (base := base) (k := 3) F_place_of (H26.mono (by decide))
 have H31 := ahy (P := l.prog) (w := w) (base := base) (k := 4) F_gates (H20.mono (by decide)) (H14.mono (by decide)) (H28.mono (by decide))
 have H32 := aec (P := l.prog) (w := w) (base := base) (k := 4) F_is_crossed m_all (H28.mono (by decide)) (H7.mono (by decide))
 have H33 := agp (P := l.prog) (w := w) (base := base) (k := 4) F_scaled_place (H30.mono (by decide))
 have H34 := ahB (P := l.prog) (w := w) (base := base) (k := 5) F_cell_ties (H32.mono (by decide)) (H25.mono (by decide)) (H7.mono (by decide)) (H28.mono (by decide))
 have H35 := ai7 (P := l.prog) (w := w) (base := base) (k := 6) F_gate_ahead (H24.mono (by decide)) (H23.mono (by decide)) (H34.mono (by decide))
 have H36 := ajb (P := l.prog) (w := w) (base := base) (k := 7) F_line_from m_tuple (H35.mono (by decide))
 have H37 := ahP (P := l.prog) (w := w) (base := base) (k := 8) F_lines m_set m_sorted (H20.mono (by decide)) (H31.mono (by decide)) (H29.mono (by decide)) (H36.mono (by decide))
 have H38 := aji (P := l.prog) (w := w) (base := base) (k := 9) F_law_due m_tuple (H37.mono (by decide)) (H9.mono (by decide))
 have H39 := akS (P := l.prog) (w := w) (base := base) (k := 9) F_web_of m_tuple (H20.mono (by decide)) (H27.mono (by decide)) (H33.mono (by decide)) (H37.mono (by decide))
 exact akT (P := l.prog) (w := w) (base := base) (k := 10) F0 m_len m_range m_max m_min m_list m_isinstance kL (H0.mono (by decide)) (H19.mono (by decide)) (H12.mono (by decide)) (H27.mono (by decide)) (H38.mono (by decide)) (H39.mono (by decide)) (H10.mono (by decide))
theorem walk {l : PySem.W.OpenLaw} {q : Program} {loose : List Str} {XP : (Str -> Option Value) -> Heap -> Prop} {YP : World -> Heap -> Prop} {d : DefRec} {K : Params -> alE} (hn : l.most = some 63) (hdf : d.params.defaults = [])
  (hY : ∀ (w : World) (h : Heap), YP w h -> (K w.params).In h)
  (F : ∀ (w : World) (mg : Str -> Option Value) (fa : Addr) (h : Heap), (K w.params).In h -> h.Ns mainGlobals mg -> mg d.name = some (.ref fa) ->
   ∃ fd : FuncData, (∀ (s : Shared) (u : Value), BindsTo s fd ⟨[u], []⟩ [("_law_script", u)]) /\ ∀ base : Heap, (K w.params).In base -> base.Ns mainGlobals mg -> FnOk l.prog w (K w.params) mg base CX0 11 fa fd ["_law_script"] (afj (K w.params))) :
  PySem.W.WalkO q loose XP YP l.row.toRowW d [] (fun f vs => PySem.call f vs) :=
 L2.walk_of (n := 63) (k := 11) (x := "_law_script") (CX := fun _ => CX0) (sp := fun w => afj (K w.params)) hn (by decide) hdf ⟨rfl, by decide, by decide⟩ hY F (fun _ _ a ns hl _ hS => ⟨a, ns, rfl, hS, hl, fun _ => rfl⟩) fun _ _ _ _ _ z => z
end My
def PySem.W.Fast.tw2309247001351117326 : Nat := 0
def PySem.W.Fast.tw12804241467948628071 : Nat := 0
def PySem.W.Fast.tw14315855651373800486 : Nat := 0
def PySem.W.Fast.tw8090342343763740076 : Nat := 0
def PySem.W.Fast.tw6370076602786515115 : Nat := 0
def PySem.W.Fast.tw17240592521368122137 : Nat := 0
def PySem.W.Fast.tw7870734483821761051 : Nat := 0
def PySem.W.Fast.tw1425832412021408544 : Nat := 0
def PySem.W.Fast.tw11588945101317570022 : Nat := 0
def PySem.W.Fast.tw2075939147291486827 : Nat := 0
def PySem.W.Fast.tw18361635048839989050 : Nat := 0
def PySem.W.Fast.tw5983831047956520681 : Nat := 0
def PySem.W.Fast.tw13787435689603835965 : Nat := 0
def PySem.W.Fast.tw17910292165656789265 : Nat := 0
def PySem.W.Fast.tw9437831487606290201 : Nat := 0
def PySem.W.Fast.tw15367359850923906387 : Nat := 0
def PySem.W.Fast.tw17427527140060221925 : Nat := 0
def PySem.W.Fast.tw10128071167824163462 : Nat := 0
def PySem.W.Fast.tw17577626642655834295 : Nat := 0
def PySem.W.Fast.tw7129242250623078624 : Nat := 0
def PySem.W.Fast.tw2369314911801936086 : Nat := 0
def PySem.W.Fast.tw2361721739194932958 : Nat := 0
def PySem.W.Fast.tw7318114664258932640 : Nat := 0
def PySem.W.Fast.tw1617249435652255678 : Nat := 0
def PySem.W.Fast.tw17176571662908084714 : Nat := 0
def PySem.W.Fast.tw7393056739195875980 : Nat := 0
def PySem.W.Fast.tw1238613615471061329 : Nat := 0
open PySem PySem.W PyProof.Rows
set_option maxRecDepth 100000 in
set_option maxHeartbeats 0 in
theorem PySem.Challenge.cw_heightrings_k53_webs_of_tables_holds : PySem.Challenge.rw_heightrings_k53_webs_of_tables.Holds := by
 w_on; o_law; k_head; (case hw => w_witness2)
 k_fill
 refine My.walk (l := PySem.Challenge.rw_heightrings_k53_webs_of_tables) rfl rfl (fun w h Y => by first | exact PySem.W.kIn_of Y | exact PySem.W.km_in_of Y) ?F
 case F =>
  intro w mg fa h KX G hmg
  refine' My.all_mk KX G hmg ?a1 ?a2 ?a3 ?a4 ?a5 ?a6 ?a7 ?a8 ?a9 ?a10 ?a11 ?a12 ?a13 ?a14 ?a15 ?a16 ?a17 ?a18 ?a19 ?a20 ?a21 ?a22 ?a23 ?a24 ?a25 ?a26 ?a27 ?a28 ?a29 ?a30 ?a31 ?a32 ?a33 ?a34 ?a35 ?a36 ?a37 ?a38 ?a39 ?a40 ?a41 ?g_FEWEST ?g_MOST ?g_LEAST ?g_GREATEST ?z_len ?z_min ?z_max ?z_enumerate ?z_range ?z_all ?z_sum ?z_tuple ?z_set ?z_sorted ?z_abs ?z_isinstance ?z_bool ?z_list ?cG_AHEAD ?cG_BEHIND ?tab_AHEAD ?tab_BEHIND ?kB ?kL
  (case a1 => refine ⟨?_, ?_, ?_, ?_⟩ <;> k_is)
  (case a2 => refine ⟨?_, ?_, ?_, ?_⟩ <;> k_is)
  (case a3 => refine ⟨?_, ?_, ?_, ?_⟩ <;> k_is)
  (case a4 => refine ⟨?_, ?_, ?_, ?_⟩ <;> k_is)
  (case a5 => refine ⟨?_, ?_, ?_, ?_⟩ <;> k_is)
  (case a6 => refine ⟨?_, ?_, ?_, ?_⟩ <;> k_is)
  (case a7 => refine ⟨?_, ?_, ?_, ?_⟩ <;> k_is)
  (case a8 => refine ⟨?_, ?_, ?_, ?_⟩ <;> k_is)
  (case a9 => refine ⟨?_, ?_, ?_, ?_⟩ <;> k_is)
  (case a10 => refine ⟨?_, ?_, ?_, ?_⟩ <;> k_is)
  (case a11 => refine ⟨?_, ?_, ?_, ?_⟩ <;> k_is)
  (case a12 => refine ⟨?_, ?_, ?_, ?_⟩ <;> k_is)
  (case a13 => refine ⟨?_, ?_, ?_, ?_⟩ <;> k_is)
  (case a14 => refine ⟨?_, ?_, ?_, ?_⟩ <;> k_is)
  (case a15 => refine ⟨?_, ?_, ?_, ?_⟩ <;> k_is)
  (case a16 => refine ⟨?_, ?_, ?_, ?_⟩ <;> k_is)
  (case a17 => refine ⟨?_, ?_, ?_, ?_⟩ <;> k_is)
  (case a18 => refine ⟨?_, ?_, ?_, ?_⟩ <;> k_is)
  (case a19 => refine ⟨?_, ?_, ?_, ?_⟩ <;> k_is)
  (case a20 => refine ⟨?_, ?_, ?_, ?_⟩ <;> k_is)
  (case a21 => refine ⟨?_, ?_, ?_, ?_⟩ <;> k_is)
  (case a22 => refine ⟨?_, ?_, ?_, ?_⟩ <;> k_is)
  (case a23 => refine ⟨?_, ?_, ?_, ?_⟩ <;> k_is)
  (case a24 => refine ⟨?_, ?_, ?_, ?_⟩ <;> k_is)
  (case a25 => refine ⟨?_, ?_, ?_, ?_⟩ <;> k_is)
  (case a26 => refine ⟨?_, ?_, ?_, ?_⟩ <;> k_is)
  (case a27 => refine ⟨?_, ?_, ?_, ?_⟩ <;> k_is)
  (case a28 => refine ⟨?_, ?_, ?_, ?_⟩ <;> k_is)
  (case a29 => refine ⟨?_, ?_, ?_, ?_⟩ <;> k_is)
  (case a30 => refine ⟨?_, ?_, ?_, ?_⟩ <;> k_is)
  (case a31 => refine ⟨?_, ?_, ?_, ?_⟩ <;> k_is)
  (case a32 => refine ⟨?_, ?_, ?_, ?_⟩ <;> k_is)
  (case a33 => refine ⟨?_, ?_, ?_, ?_⟩ <;> k_is)
  (case a34 => refine ⟨?_, ?_, ?_, ?_⟩ <;> k_is)
  (case a35 => refine ⟨?_, ?_, ?_, ?_⟩ <;> k_is)
  (case a36 => refine ⟨?_, ?_, ?_, ?_⟩ <;> k_is)
  (case a37 => refine ⟨?_, ?_, ?_, ?_⟩ <;> k_is)
  (case a38 => refine ⟨?_, ?_, ?_, ?_⟩ <;> k_is)
  (case a39 => refine ⟨?_, ?_, ?_, ?_⟩ <;> k_is)
  (case a40 => refine ⟨?_, ?_, ?_, ?_⟩ <;> k_is)
  (case a41 => refine ⟨?_, ?_, ?_, ?_⟩ <;> k_is)
  (case g_FEWEST => k_is)
  (case g_MOST => k_is)
  (case g_LEAST => k_is)
  (case g_GREATEST => k_is)
  (case z_len => k_is)
  (case z_min => k_is)
  (case z_max => k_is)
  (case z_enumerate => k_is)
  (case z_range => k_is)
  (case z_all => k_is)
  (case z_sum => k_is)
  (case z_tuple => k_is)
  (case z_set => k_is)
  (case z_sorted => k_is)
  (case z_abs => k_is)
  (case z_isinstance => k_is)
  (case z_bool => k_is)
  (case z_list => k_is)
  (case cG_AHEAD => k_is)
  (case cG_BEHIND => k_is)
  (case tab_AHEAD => kernel_rfl)
  (case tab_BEHIND => kernel_rfl)
  (case kB => kernel_rfl)
  (case kL => kernel_rfl)
end
