import PyProof.Rows.All
import Wide.All
import OpenK.AllK
import Wide.FinOn
import Lean
import PyProof.EqAt
import PyProof.EqKinds
import PyProof.TupleCall
import KE.KTryMore
import PyProof.ExcArgs
import PyProof.ConsumeWalk
import PyProof.P3Eq
import KE.KRevIter
import PyProof.ListRange
import PyProof.Rows.SumAny
import KE.KSortTup
import PyProof.SetScanFacts
import PyProof.TupleKey
import PyProof.DictRoadsH
import PyProof.SetRoads
import KE.KTabLook
import PyProof.Rows.ListMul
import PyProof.InstStoreFacts
import PyProof.Rows.SetFrom
import PyProof.AutoListH
import PySem.Challenge.RW_heightrings_k46_refusals_apart
open List renaming getElem?_eq_getElem → aoX, length_map → aoZ, getElem?_eq_some_iff → ao1, getD_eq_getElem?_getD → ao2, mem_cons_of_mem → ao3, mem_cons_self → ao4, mem_cons → ao7, getElem?_map → ao8, mem_of_getElem? → apc, mem_singleton → apd, getElem?_append_left → ape, length_append → aph, mem_append_right → api, mem_append → apj, size_toArray → apk, getElem?_append_right → apl, mem_map → apm, length_cons → apn, range → apo, map_cons → apq, map_append → aps, mem_append_left → apx, getElem?_eq_none → apy, getElem_mem → apz, append_nil → apC, mem_range → apF, getElem?_of_mem → apH, length_filter_le → apK, mem_filter → apL, take_length → apM, mem_flatMap → apN, length_singleton → apO, length_take → apP, filter_cons → apQ, lookup_cons → apS, filter_append → apU, head?_eq_getElem? → apV, nodup_cons → apX, not_mem_nil → apZ, length_range → ap2, nodup_append → ap3, toArray → ap5, pairwise_map → ap7, nodup_nil → ap8, getElem?_set_self → aqb, take_add_one → aqe, append_assoc → aqf, filterMap_cons → aqh, flatMap_append → aqi, find?_cons → aqk, getElem?_set_ne → aqo, length_set → aqs, getElem?_range → aqt, mem_reverse → aqy, pairwise_cons → aqz, pairwise_iff_getElem → aqF, getLast?_eq_getElem? → aqH, length_nil → aqI, ext_getElem? → aqK, map_map → aqL, getElem?_take_of_lt → aqM, getElem_of_mem → aqR, replicate → aqT, getElem?_replicate → aqU, zip_cons_cons → aqY, forIn_cons → aqZ, take_append_drop → aq0, forIn_nil → aq3, mem_erase_of_ne → aq5, map_congr_left → ara, reverse_append → arc, findSome?_cons → arf, length_erase_of_mem → arj, range_succ → ark, mem_filterMap → arl, take_succ → arB, length_pos_of_mem → arC, mem_of_head? → arD, take_zero → arE, length_replicate → arG, getElem_inj → arJ, all_eq_true → arK, pairwise_append → arO, of_mem_zip → arQ, length_pos_iff → arW, map_nil → arX, find?_eq_none → ar2, map_inj_right → ar7, drop_eq_getElem_cons → asd, reverse_cons → asf, getElem?_inj → ash, all_cons → asj, any_cons → asm, nodup_range → asw, map → asx, map_flatMap → asy, pairwise_lt_range → asC, filter_nil → asG, getElem?_mapIdx → asM, reverse_reverse → asQ, mem_of_getLast? → asS, length_reverse → asW, filter_flatMap → asY
open Bool renaming false_ne_true → aoY, and_eq_true → ao6, not_true → apE, false_eq_true → apI, not_false → aqB, false_and → aqS, true_and → ari, and_false → arv, eq_iff_iff → asF, and_true → as0
open PySem.W renaming Frag → ao0, kitOne → apa, nsIn → apv, mg_none_of → apG, mg_of → apJ, keepIn → apW, findIn → aqc, fnOf → aqn, cellsFrom_some → aqu, excIn → aqN, exmOne → aqV, hideAll_get → aq9, specialIn → arq, codeIn → ars, hideAll → arP, callWith_K → ar0, methodObj → ase, mroIn → asi
open Nat renaming le_refl → ao5, lt_of_lt_of_le → apr, le_of_ble_eq_true → apt, le_trans → apu, ne_of_lt → apB, zero_le → apD, le_of_lt → ap1, not_lt_zero → aqj, lt_succ_of_lt → aqp, lt_irrefl → aqx, le_of_eq → aqW, sub_self → aq7, ne_of_gt → arp, le_of_succ_le → aru, lt_succ_of_le → arx, lt_succ_iff → arR, min_le_left → arV, succ_pos → arY, mul_le_mul → ar6, add_assoc → asp, lt_succ_iff_lt_or_eq → asu, lt_succ_self → asv, zero_add → asB, pow_le_pow_right → asP, not_lt → as1, max_le → as2, lt_trans → as3, mul_succ → as5, le_succ → as6, log2_lt → as7
open PySem.PyData renaming depthAll → ao9, eqv → apw, canLayAll0 → ap6, eqvAll → aso, depth → as4
open PySem.Heap renaming get?_push_of_some → apb, lt_size → apf, get?_push_size → apA, get?_update_other → aqd, get?_update_self → aqD, SameBut → aqJ, size_push → ar1, FlyingW → asA
open Array renaming length_toList → apg, getElem?_eq_getElem → aql, getD_eq_getD_getElem? → aqv, getElem?_toList → aqE, getD → aqX, forIn_toList → arn, getElem?_eq_none → arz, getElem?_setIfInBounds_ne → arF, mem_toList_iff → arM, replicate → arT, size_map → asO
open PySem.PassesOwn renaming never → apR
open Classical renaming byContradiction → apT, propDecidable → ap4
open PySem renaming boot_len → apY, mem_of_lookup → aqQ
open False renaming elim → ap0
open Int renaming gcd → ap9, sign_eq_neg_one_of_neg → aqg, sign_eq_one_of_pos → aqw, emod_lt_of_pos → aqA, eq_ofNat_of_zero_le → aro, toNat_natCast → ary, lt_trichotomy → arA, emod_nonneg → arS, gcd_pos_of_ne_zero_right → arU, natAbs_natCast → ar8, mul_ediv_cancel_left → asr, one_mul → as9
open Ne renaming symm → aqa
open Option renaming isSome_iff_exists → aqm
open PySem.F renaming slot_tuple_hash → aqq, plainAttrs_list → aqr, slot_dict_keyiterator_next → aqC, slot_list_append → aqO, type_list_append → aqP, excBase_ValueError → aq6, slot_set_contains → aq8, slot_set_add → arN, slot_dict_getitem → asa, slot_dict_iter → asE, args_list_append_2 → asL, excAttr_ValueError → asN, type_set_add → asT, entry_list_append → asV
open PySem.Builtin.Tuple renaming tupleHashOf → aqG
open PyProof.Rows renaming callWith_type1 → aq1, boot_abs → arI, boot_sorted → ass, boot_tuple → asz, boot_all → asI, boot_set → asJ
open PySem.Obj renaming mapSeq → aq2, putSet → asD
open PySem.SeqAt renaming eqv_refl → aq4
open PySem.Heap.SameBut renaming update → arb
open PySem.Builtin.Int renaming intBits → ard, intTooBig → asH
open PySem.SetTable renaming toList_insertAt → arh, sizeAbove → ar4, fill → asZ
open PySem.Calls renaming callWith_builtin → art, evalArgs_plain → arL, Name_function_global → arZ, call_function_entry → ar9
open PySem.Str renaming ofString → arw
open PySem.SeqAt.ReadsAll renaming length → arH
open PySem.Builtin.Frozenset renaming oneOther → ar3, addrOf → asq
open Rat renaming divInt → ar5
open PySem.Builtin.SmallTypes renaming nextOf → asb
open PyProof renaming noPylong_of_log2 → asn
open PySem.Around renaming frames_deeper → asK
open PyProof.Rows.KTD renaming datumAt → asR
open List.Pairwise renaming of_map → asU
open PySem.EntryCells renaming newEntry → asX
open PySem.Sem renaming wp_mono → as8
set_option Elab.async false
set_option linter.all false
set_option maxRecDepth 100000
set_option maxHeartbeats 4000000
section
namespace L2
open PySem PySem.Spec PyProof.Rows
abbrev Key := Sum Int Str
def alY : Key -> Value -> Bool
 | .inl k, v => Value.isInt k v
 | .inr x, v => Value.isStrOf x v
def aoN (w : World) : Key -> Int
 | .inl k => hashInt k
 | .inr x => hashStr w x
theorem yi : ∀ {k : Key} {v : Value}, alY k v = true -> (∃ i t, k = Sum.inl i /\ v = Value.int i t) \/ (∃ x t, k = Sum.inr x /\ v = Value.str x t)
 | .inl i, v, h => by
  obtain ⟨t, e⟩ := Value.isInt_shape (k := i) (v := v) h
  exact .inl ⟨i, t, rfl, e⟩
 | .inr x, v, h => by
  obtain ⟨t, e⟩ := Value.isStrOf_shape (x := x) (v := v) h
  exact .inr ⟨x, t, rfl, e⟩
theorem amt (a b : Int) : decide ((Sum.inl a : Key) = Sum.inl b) = (a == b) := by
 by_cases e : a = b
 ·subst e; simp
 ·have h : ¬ (Sum.inl a : Key) = Sum.inl b := fun q => e (Sum.inl.inj q)
  rw [decide_eq_false h]
  exact (beq_eq_false_iff_ne.mpr e).symm
theorem amu (a b : Str) : decide ((Sum.inr a : Key) = Sum.inr b) = decide (a = b) := by
 by_cases e : a = b
 ·subst e; simp
 ·have h : ¬ (Sum.inr a : Key) = Sum.inr b := fun q => e (Sum.inr.inj q)
  rw [decide_eq_false h, decide_eq_false e]
theorem amv (a : Int) (b : Str) : decide ((Sum.inl a : Key) = Sum.inr b) = false := decide_eq_false (fun q => nomatch q)
theorem amw (a : Str) (b : Int) : decide ((Sum.inr a : Key) = Sum.inl b) = false := decide_eq_false (fun q => nomatch q)
def acL (prog : Program) (w : World) : PySem.KeyKind prog w Key where
 is := alY
 hash := aoN w
 inj := fun v a b ha hb => by
  rcases yi ha with ⟨i, t, rfl, rfl⟩ | ⟨x, t, rfl, rfl⟩
  ·rcases yi hb with ⟨j, u, rfl, e⟩ | ⟨y, u, rfl, e⟩
   ·injection e with e1 _; rw [e1]
   ·exact nomatch e
  ·rcases yi hb with ⟨j, u, rfl, e⟩ | ⟨y, u, rfl, e⟩
   ·exact nomatch e
   ·injection e with e1 _; rw [e1]
 byValue := fun k v h => by
  rcases yi h with ⟨i, t, rfl, rfl⟩ | ⟨x, t, rfl, rfl⟩ <;> rfl
 pyHash := fun hv h => by
  rcases yi hv with ⟨i, t, rfl, rfl⟩ | ⟨x, t, rfl, rfl⟩
  ·exact wpAny_pyHash_int h
  ·exact wpAny_pyHash_str h
 eqBool := fun hu hv h => by
  rcases yi hu with ⟨i, t, rfl, rfl⟩ | ⟨x, t, rfl, rfl⟩
  ·rcases yi hv with ⟨j, u, rfl, rfl⟩ | ⟨y, u, rfl, rfl⟩
   ·rw [amt] at h; exact wpAny_eqBool_int h
   ·rw [amv] at h; exact SeqAt.EqAt.int_str i t y u _ _ _ _ h
  ·rcases yi hv with ⟨j, u, rfl, rfl⟩ | ⟨y, u, rfl, rfl⟩
   ·rw [amw] at h; exact SeqAt.EqAt.str_int x t j u _ _ _ _ h
   ·rw [amu] at h; exact wpAny_eqBool_str h
 «strs» := fun k x t v h => by
  rcases yi h with ⟨i, u, rfl, e⟩ | ⟨y, u, rfl, e⟩
  ·exact nomatch e
  ·injection e with e1 _
   subst e1
   cases v <;> rfl
inductive V where
 | non | bl (b : Bool) | int (i : Int) | str (x : Str) | byt (b : Array UInt8) | flt (b : UInt64) | ref (a : Addr) | ty (n : String)
 deriving DecidableEq
def RelV : V -> Value -> Prop
 | .non, u => u = Value.none
 | .bl b, u => u = Value.bool b
 | .int i, u => ∃ t, u = Value.int i t
 | .str x, u => ∃ t, u = Value.str x t
 | .byt b, u => ∃ t, u = Value.bytes b t
 | .flt b, u => ∃ t, u = Value.float b t
 | .ref a, u => u = Value.ref a
 | .ty n, u => u = Value.type n
abbrev Vals : List V -> List Value -> Prop := Paired RelV
theorem Vals.length {xs : List V} {us : List Value} (r : Vals xs us) : xs.length = us.length := Paired.length r
theorem Vals.get : ∀ {xs : List V} {us : List Value} {i : Nat} {x : V}, Vals xs us -> xs[i]? = some x -> ∃ u, us[i]? = some u /\ RelV x u
 | _, _, _, _, .nil, e => by simp at e
 | _, _, 0, _, .cons r _, e => by simp at e; subst e; exact ⟨_, rfl, r⟩
 | _, _, i + 1, x, .cons _ t, e => by
  obtain ⟨u, h1, h2⟩ := Vals.get (i := i) (x := x) t (by simpa using e)
  exact ⟨u, by simpa using h1, h2⟩
theorem Vals.set {x : V} {u : Value} (r : RelV x u) : ∀ {xs : List V} {us : List Value} (i : Nat), Vals xs us -> Vals (xs.set i x) (us.set i u)
 | _, _, _, .nil => .nil
 | _, _, 0, .cons _ t => .cons r t
 | _, _, i + 1, .cons q t => .cons q (Vals.set r i t)
theorem Vals.append : ∀ {xs ys : List V} {us ws : List Value}, Vals xs us -> Vals ys ws -> Vals (xs ++ ys) (us ++ ws)
 | _, _, _, _, .nil, s => s
 | _, _, _, _, .cons r t, s => .cons r (Vals.append t s)
def aoa : Option V -> Option Value -> Prop
 | some v, some u => RelV v u
 | none, none => True
 | _, _ => False
def KV {κ : Type} : List (κ × V) -> List (κ × Value) -> Prop := Paired fun (p : κ × V) (q : κ × Value) => p.1 = q.1 /\ RelV p.2 q.2
def kV : Key -> V
 | .inl i => .int i
 | .inr x => .str x
inductive HO where
  | lst (xs : List V)
  | tup (xs : List V)
  | dK (kvs : List (Key × V)) | dT (kvs : List (List Key × V))
  | set (S : Int -> Bool) (n : Nat)
  | ins (C dx : Addr) (fs : List (Str × V))
  | own (x : Addr)
  | xd (fs : List (Str × V))
  | met (f x : Addr)
  | rng (lo hi : Int)
  | frz (o : Obj) (u : HO)
  | tbl (ps : Array Value)
  | ext (φ : Heap -> Prop)
abbrev Hp := Addr -> Option HO
def upd (H : Hp) (a : Addr) (o : HO) : Hp := fun b => if b = a then some o else H b
theorem zy {H : Hp} {a : Addr} {o : HO} : upd H a o a = some o := by unfold upd; rw [if_pos rfl]
theorem zw {H : Hp} {a b : Addr} {o : HO} (h : b ≠ a) : upd H a o b = H b := by unfold upd; rw [if_neg h]
theorem zG {H : Hp} {a b : Addr} {o : HO} (h : H a = some o) (h' : H b = none) : a ≠ b := by
 intro e; subst e; rw [h] at h'; cases h'
section
variable (P : Program) (w : World)
def ObjOk (H : Hp) (h : Heap) (a : Addr) : HO -> Prop
 | .lst xs => xs.length <= sizeLine /\ ∃ (its : List Value) (n : Nat), Vals xs its /\ h.get? a = some { cls := .type "list", data := .seq its.toArray n }
 | .tup xs => xs.length <= sizeLine /\ ∃ its : List Value, Vals xs its /\ IsTup h a its.toArray
 | .dK kvs => kvs.length <= sizeLine /\ (a == sysModules) = false /\ ∃ vs, KV kvs vs /\ h.DictOf (acL P w) a vs
 | .dT kvs => kvs.length <= sizeLine /\ (a == sysModules) = false /\ ∃ xs : List (List Key × Addr × Value),
   Paired (fun (p : List Key × V) (q : List Key × Addr × Value) => p.1 = q.1 /\ H q.2.1 = some (.tup (p.1.map kV)) /\ RelV p.2 q.2.2) kvs xs /\
   ∃ o es ep, h.get? a = some o /\ o.ExactDict /\ o.data = .dict es ep /\ es.toList = xs.map (entryOfKey (tupleKind (acL P w))) /\ (xs.map (·.1)).Nodup
 | .set S n => h.SetOf (intKind P w) a S n
 | .ins C dx fs => H dx = some (.own a) /\ fs.length <= 1000 /\ dx ≠ a /\ h.get? a = some (PySem.W.instObj C dx) /\
   ∃ mA, h.Ns1 dx mA /\ (∀ f, aoa (fs.lookup f) (mA f)) /\ PySem.Within mA (fs.map (·.1))
 | .own _ => ∃ o, h.get? a = some o
 | .xd fs => ∃ mA, h.Ns1 a mA /\ ∀ f, aoa (fs.lookup f) (mA f)
 | .rng lo hi => ∃ t u v, h.get? a = some { cls := .type "range", data := .fields #[.int lo t, .int hi u, .int 1 v] }
 | .frz o u => h.get? a = some o /\ ObjOk H h a u
 | .tbl ps => h.get? a = some { cls := .none, data := .fields ps }
 | .met f x => h.get? a = some (ase (.ref f) (.ref x))
 | .ext φ => φ h /\ (∃ o, h.get? a = some o) /\ ∀ h1 h2 : Heap, φ h1 -> (∀ o, h1.get? a = some o -> h2.get? a = some o) -> φ h2
def HOk (H : Hp) (h : Heap) : Prop := ∀ a o, H a = some o -> ObjOk P w H h a o
end
section
variable {P : Program} {w : World} {H H' : Hp} {h h' : Heap} {a : Addr} {o : HO}
theorem ObjOk.lt (x : ObjOk P w H h a o) : a < h.objs.size := by
 cases o with
 | lst xs => obtain ⟨_, _, _, _, e⟩ := x; exact apf e
 | tup xs => obtain ⟨_, _, _, p⟩ := x; exact p.lt
 | dK kvs => obtain ⟨_, _, _, _, o, _, _, e, _⟩ := x; exact apf e
 | dT kvs => obtain ⟨_, _, _, _, o, _, _, e, _⟩ := x; exact apf e
 | set S n => obtain ⟨o, _, _, _, e, _⟩ := x; exact apf e
 | ins C dx fs => obtain ⟨_, _, _, e, _⟩ := x; exact apf e
 | own y => obtain ⟨_, e⟩ := x; exact apf e
 | xd fs => obtain ⟨_, ⟨_, _, _, e, _⟩, _⟩ := x; exact apf e
 | rng lo hi => obtain ⟨_, _, _, e⟩ := x; exact apf e
 | frz ob u => obtain ⟨e, _⟩ := x; exact apf e
 | tbl ps => exact apf (show h.get? a = some _ from x)
 | met f y => exact apf (show h.get? a = some _ from x)
 | ext φ => obtain ⟨_, ⟨_, e⟩, _⟩ := x; exact apf e
theorem Paired.mapP {α β : Type} {F G : α -> β -> Prop} : ∀ {l₁ : List α} {l₂ : List β}, Paired F l₁ l₂ -> (∀ a b, F a b -> G a b) -> Paired G l₁ l₂
 | _, _, .nil, _ => .nil
 | _, _, .cons r t, f => .cons (f _ _ r) (Paired.mapP t f)
theorem ObjOk.stay (x : ObjOk P w H h a o) (k : ∀ b u, (b = a \/ H b = some (.own a)) -> h.get? b = some u -> h'.get? b = some u)
  (ho : ∀ b, H b = some (.own a) -> H' b = some (.own a)) (ht : ∀ b xs, H b = some (.tup xs) -> H' b = some (.tup xs)) : ObjOk P w H' h' a o := by
 induction o with
 | lst xs => obtain ⟨z, its, n, r, e⟩ := x; exact ⟨z, its, n, r, k _ _ (.inl rfl) e⟩
 | tup xs => obtain ⟨z, its, r, ob, e, c⟩ := x; exact ⟨z, its, r, ob, k _ _ (.inl rfl) e, c⟩
 | dK kvs => obtain ⟨z, y, vs, r, ob, es, ep, e, c⟩ := x; exact ⟨z, y, vs, r, ob, es, ep, k _ _ (.inl rfl) e, c⟩
 | dT kvs =>
  obtain ⟨z, y, xs, r, ob, es, ep, e, c⟩ := x
  exact ⟨z, y, xs, Paired.mapP r fun p q z => ⟨z.1, ht _ _ z.2.1, z.2.2⟩, ob, es, ep, k _ _ (.inl rfl) e, c⟩
 | set S n => obtain ⟨ob, es, ep, t, e, c⟩ := x; exact ⟨ob, es, ep, t, k _ _ (.inl rfl) e, c⟩
 | ins C dx fs =>
  obtain ⟨d, z, ne, e, mA, ⟨od, es, ep, e2, c⟩, r⟩ := x
  exact ⟨ho _ d, z, ne, k _ _ (.inl rfl) e, mA, ⟨od, es, ep, k _ _ (.inr d) e2, c⟩, r⟩
 | own y => obtain ⟨ob, e⟩ := x; exact ⟨ob, k _ _ (.inl rfl) e⟩
 | xd fs => obtain ⟨mA, ⟨od, es, ep, e, c⟩, r⟩ := x; exact ⟨mA, ⟨od, es, ep, k _ _ (.inl rfl) e, c⟩, r⟩
 | rng lo hi => obtain ⟨t, u, v, e⟩ := x; exact ⟨t, u, v, k _ _ (.inl rfl) e⟩
 | frz ob u ih => obtain ⟨e, q⟩ := x; exact ⟨k _ _ (.inl rfl) e, ih q⟩
 | tbl ps =>
  have e : h.get? a = some { cls := .none, data := .fields ps } := x
  show h'.get? a = some { cls := .none, data := .fields ps }
  exact k a _ (.inl rfl) e
 | met f y =>
  have e : h.get? a = some (ase (.ref f) (.ref y)) := x
  show h'.get? a = some (ase (.ref f) (.ref y))
  exact k a _ (.inl rfl) e
 | ext φ => obtain ⟨p, ⟨o, e⟩, st⟩ := x; exact ⟨st _ _ p fun o q => k _ _ (.inl rfl) q, ⟨o, k _ _ (.inl rfl) e⟩, st⟩
theorem HOk.lt (x : HOk P w H h) (e : H a = some o) : a < h.objs.size := (x a o e).lt
theorem HOk.fresh (x : HOk P w H h) (e : h.objs.size <= a) : H a = none := by
 cases q : H a with
 | none => rfl
 | some u => exact absurd (apr (x.lt q) e) (aqx _)
theorem HOk.kept (x : HOk P w H h) (k : ∀ b u, h.get? b = some u -> h'.get? b = some u) : HOk P w H h' := fun a o e =>
 (x a o e).stay (fun b u _ q => k b u q) (fun _ q => q) fun _ _ q => q
theorem HOk.laid (x : HOk P w H h) (k : ∀ b u, h.get? b = some u -> h'.get? b = some u) (hp : h.objs.size <= a) (new : ObjOk P w (upd H a o) h' a o) : HOk P w (upd H a o) h' := fun b u e => by
 have hn := x.fresh hp
 by_cases hb : b = a
 ·subst hb; rw [zy] at e; cases e; exact new
 ·rw [zw hb] at e
  exact (x b u e).stay (fun c v _ q => k c v q) (fun c q => by rw [zw (zG q hn)]; exact q) fun c xs q => by rw [zw (zG q hn)]; exact q
end
def Rd (H : Hp) (a : Addr) (u : HO) : Prop := H a = some u \/ ∃ o, H a = some (.frz o u)
theorem Rd.ok {P : Program} {w : World} {H : Hp} {h : Heap} {a : Addr} {u : HO} (r : Rd H a u) (x : HOk P w H h) : ObjOk P w H h a u := by
 rcases r with r | ⟨o, r⟩
 ·exact x a u r
 ·obtain ⟨_, q⟩ := x a _ r
  exact q
def Mut : Option HO -> Prop
 | some (.lst _) => True
 | some (.dK _) => True
 | some (.dT _) => True
 | some (.set _ _) => True
 | some (.ins _ _ _) => True
 | some (.ext _) => True
 | _ => False
section
variable {P : Program} {w : World} {H : Hp} {h h' : Heap} {x e : Addr} {o' : HO}
theorem HOk.write (ok : HOk P w H h) (mu : Mut (H x)) (he : e = x \/ H e = some (.own x)) (k : ∀ b u, b ≠ e -> h.get? b = some u -> h'.get? b = some u) (heo : ∃ u, h'.get? e = some u)
  (new : ObjOk P w (upd H x o') h' x o') : HOk P w (upd H x o') h' := fun b u q => by
 have nown : ∀ c y, H c = some (.own y) -> c ≠ x := fun c y r z => by subst z; rw [r] at mu; exact mu
 have ntup : ∀ c xs, H c = some (.tup xs) -> c ≠ x := fun c xs r z => by subst z; rw [r] at mu; exact mu
 by_cases hb : b = x
 ·subst hb; rw [zy] at q; cases q; exact new
 ·rw [zw hb] at q
  by_cases hbe : b = e
  ·have q' : H b = some (.own x) := by
    rcases he with z | z
    ·exact absurd (hbe.trans z) hb
    ·rw [hbe]; exact z
   rw [q] at q'; cases q'
   obtain ⟨v, hv⟩ := heo
   exact ⟨v, by rw [hbe]; exact hv⟩
  ·refine (ok b u q).stay (fun c v hc r => k c v ?_ r) (fun c r => by rw [zw (nown c b r)]; exact r) fun c xs r => by rw [zw (ntup c xs r)]; exact r
   rcases hc with rfl | hc
   ·exact hbe
   ·rintro rfl
    rcases he with z | z
    ·exact nown c b hc z
    ·rw [hc] at z; cases z; exact hb rfl
end
structure Un (fs ex : List Addr) (H H' : Hp) (h h' : Heap) : Prop where
 keep : ∀ b o, h.get? b = some o -> H b = none -> b ∉ fs -> b ∉ ex -> h'.get? b = some o
 slot : ∀ b o, h.get? b = some o -> H b = none -> b ∈ fs -> b ∉ ex -> ∃ sl, h'.get? b = some { o with slots := sl }
 free : ∀ b o, h.get? b = some o -> H b = none -> b ∉ ex -> H' b = none
 there : ∀ b o, h.get? b = some o -> b ∉ ex -> ∃ o', h'.get? b = some o'
 tups : ∀ b xs, H b = some (.tup xs) -> H' b = some (.tup xs)
 frzs : ∀ b o u, H b = some (.frz o u) -> H' b = some (.frz o u)
 tbls : ∀ b ps, H b = some (.tbl ps) -> ∃ more, H' b = some (.tbl (ps ++ more))
section
variable {fs fs' ex ex' : List Addr} {H H1 H2 : Hp} {h h1 h2 h' : Heap} {a x e : Addr} {o : HO}
theorem Un.any (u : Un fs ex H H1 h h1) {b : Addr} {ob : Obj} (q : h.get? b = some ob) (n : H b = none) (hx : b ∉ ex) : ∃ sl, h1.get? b = some { ob with slots := sl } := by
 by_cases hb : b ∈ fs
 ·exact u.slot b ob q n hb hx
 ·exact ⟨ob.slots, u.keep b ob q n hb hx⟩
theorem Un.kept (k : ∀ b u, h.get? b = some u -> h'.get? b = some u) : Un fs ex H H h h' :=
 ⟨fun b ob q _ _ _ => k b ob q, fun b ob q _ _ _ => ⟨ob.slots, k b ob q⟩, fun _ _ _ n _ => n, fun b ob q _ => ⟨ob, k b ob q⟩, fun _ _ q => q, fun _ _ _ q => q, fun _ ps q => ⟨#[], by rw [q]; simp⟩⟩
theorem Un.refl : Un fs ex H H h h := Un.kept fun _ _ q => q
theorem Un.laid (k : ∀ b u, h.get? b = some u -> h'.get? b = some u) (hp : h.objs.size <= a) (hn : H a = none) : Un fs ex H (upd H a o) h h' where
 keep := fun b u q _ _ _ => k b u q
 slot := fun b u q _ _ _ => ⟨u.slots, k b u q⟩
 free := fun b u q n _ => by rw [zw (apB (apr (apf q) hp))]; exact n
 there := fun b u q _ => ⟨u, k b u q⟩
 tups := fun b xs q => by rw [zw (zG q hn)]; exact q
 frzs := fun b u xs q => by rw [zw (zG q hn)]; exact q
 tbls := fun b ps q => ⟨#[], by rw [zw (zG q hn), q]; simp⟩
theorem Un.write (mu : Mut (H x)) (he : e = x \/ H e = some (.own x)) (k : ∀ b u, b ≠ e -> h.get? b = some u -> h'.get? b = some u) (heo : ∃ u, h'.get? e = some u) : Un fs ex H (upd H x o) h h' := by
 have hx : ∀ b, H b = none -> b ≠ x := fun b n z => by subst z; rw [n] at mu; exact mu
 have hb : ∀ b, H b = none -> b ≠ e := fun b n z => by
  subst z
  rcases he with r | r
  ·exact hx b n r
  ·rw [n] at r; cases r
 have hm : ∀ b u, H b = some u -> ¬ Mut (some u) -> b ≠ x := fun b u q nm z => by subst z; rw [q] at mu; exact nm mu
 refine ⟨fun b u q n _ _ => k b u (hb b n) q, fun b u q n _ _ => ⟨u.slots, k b u (hb b n) q⟩, fun b u q n _ => by rw [zw (hx b n)]; exact n, fun b u q _ => ?_,
  fun b xs q => by rw [zw (hm b _ q fun z => z)]; exact q, fun b u xs q => by rw [zw (hm b _ q fun z => z)]; exact q, fun b ps q => ⟨#[], by rw [zw (hm b _ q fun z => z), q]; simp⟩⟩
 by_cases hbe : b = e
 ·subst hbe; exact heo
 ·exact ⟨u, k b u hbe q⟩
end
def trk (h : Heap) (H : Hp) : List Addr := (apo h.objs.size).filter fun a => (H a).isSome
def acM (h : Heap) (H : Hp) : Heap := arP h (trk h H)
theorem ahj (h : Heap) (H : Hp) : (acM h H).objs.size = h.objs.size := PySem.W.hideAll_size _ _
theorem ait {h : Heap} {H : Hp} {b : Addr} {o : Obj} (e : h.get? b = some o) (n : H b = none) : (acM h H).get? b = some o :=
 aq9 _ e fun hm => by
  have q : (H b).isSome = true := (apL.mp hm).2
  rw [n] at q; simp at q
theorem aks {h : Heap} {H : Hp} {b : Addr} {o : Obj} (e : (acM h H).get? b = some o) : h.get? b = some o /\ H b = none := by
 have e' : h.get? b = some o := PySem.W.of_hideAll (trk h H) e
 refine ⟨e', ?_⟩
 cases q : H b with
 | none => rfl
 | some x =>
  have hm : b ∈ trk h H := apL.mpr ⟨apF.mpr (apf e'), by simp [q]⟩
  have z : (acM h H).get? b = none := PySem.W.hideAll_none (trk h H) hm
  rw [z] at e; cases e
def akt (g h : Heap) (L : Addr) : List (Addr × Obj) := (apo h.objs.size).filterMap fun a => if a = L \/ (g.get? a).isSome = true then none else (h.get? a).map fun o => (a, o)
def rest (g h : Heap) (L d : Addr) : List (Addr × Obj) := (akt g h L).filter fun p => decide (p.1 ≠ d)
structure Mod (K : ao0) (mg : Str -> Option Value) (base : Heap) : Prop where
 kin : K.In base
 glob : base.Ns mainGlobals mg
 blt : ∃ mb, base.Ns builtinsNs mb /\ ∀ x : Str, x ≠ "__name__" -> mb x = bootBuiltins x
 nolimit : base.NoLimit
structure Cx where
 prog : Program
 w : World
 K : ao0
 mg : Str -> Option Value
 base : Heap
 A : Around
 N : List Str
 s₀ : Shared
 H₀ : Hp
 env : Env
 outer : List Env
 stack : List Env
 ex : List Addr
 fn : Str -> Bool
 calm : Bool
 pn : List (Addr × Obj)
 xe : Value -> Shared -> Prop
def frs (l : List Env) : List Addr := l.filterMap (·.frame)
abbrev Cx.fs (X : Cx) : List Addr := frs X.outer
def Vis (sc : Scope) (x : Str) : Prop := sc.names.lookup x = some .local \/ sc.names.lookup x = some .cell \/ sc.names.lookup x = some .free
def Loc (sc : Scope) (x : Str) : Prop := sc.names.lookup x = some .local \/ sc.names.lookup x = some .cell
def Look (env : Env) (h : Heap) (m : Str -> Option Value) (x : Str) (u : Value) : Prop :=
 (env.kindOf x = some .local /\ m x = some u) \/ ((env.kindOf x = some .cell \/ env.kindOf x = some .free) /\ ∃ c, env.cells.lookup x = some c /\ h.IsCell c (some u))
structure Cx.Ok (X : Cx) : Prop where
 mod : Mod X.K X.mg X.base
 kind : X.env.scope.kind = .function
 glob : X.env.globals = mainGlobals
 blt : X.env.builtins = builtinsNs
 above : X.s₀.heap.objs.size <= X.env.locals
 inj : ∀ x y c, X.env.cells.lookup x = some c -> X.env.cells.lookup y = some c -> x = y
 has : ∀ x, (X.env.kindOf x = some .cell \/ X.env.kindOf x = some .free) -> ∃ c, X.env.cells.lookup x = some c
 cab : ∀ x c, X.fn x = true -> X.env.cells.lookup x = some c -> X.s₀.heap.objs.size <= c
 hd : X.calm = true -> X.A.handled = none
 frames : X.A.frames = some X.stack
 stk : X.stack = X.outer \/ (X.stack = X.env :: X.outer /\ X.env.frame = some X.env.locals)
 exf : ∀ b ∈ X.ex, b ≠ X.env.locals /\ ∀ x c, X.env.cells.lookup x = some c -> c ≠ b
 bs : ∀ b o, X.base.get? b = some o -> X.s₀.heap.get? b = some o /\ X.H₀ b = none
 bsz : X.base.objs.size <= X.s₀.heap.objs.size
 noex : ∀ b o, X.base.get? b = some o -> b ∉ X.ex
 exfs : ∀ b ∈ X.ex, b ∉ X.fs
 funs : X.s₀.heap.FunFrames X.base X.outer
 frf : ∀ b ∈ X.fs, X.H₀ b = none
structure Inv (X : Cx) (pins : List (Addr × Obj)) (σ : List (Option V)) (H : Hp) (s : Shared) : Prop where
 ok : X.Ok
 os : s.os = X.s₀.os
 bare : AllBare s.gens
 base : Un X.fs X.ex X.H₀ H X.s₀.heap s.heap
 loc : ∃ m, s.heap.Ns X.env.locals m /\ ∀ (i : Nat) (x : Str) (v : V), X.N[i]? = some x -> σ[i]? = some (some v) -> Vis X.env.scope x -> ∃ u, RelV v u /\ Look X.env s.heap m x u
 cell : ∀ x c, X.env.cells.lookup x = some c -> ∃ v, s.heap.IsCell c v
 free : H X.env.locals = none
 freeC : ∀ x c, X.env.cells.lookup x = some c -> H c = none
 pin : ∀ p ∈ X.pn ++ pins, s.heap.get? p.1 = some p.2 /\ H p.1 = none /\ p.1 ≠ X.env.locals /\ p.1 ∉ X.fs /\ ∀ v, p.2.data ≠ .cell v
 hok : HOk X.prog X.w H s.heap
 len : σ.length = X.N.length
section
variable {X : Cx} {pins : List (Addr × Obj)} {σ : List (Option V)} {H H' : Hp} {s : Shared} {h' : Heap}
theorem Cx.Ok.nofr (ok : X.Ok) {b : Addr} {o : Obj} (e : X.base.get? b = some o) : b ∉ X.fs := fun hb => by
 have := (ok.funs.mem hb).1
 rw [e] at this; cases this
theorem Inv.bs (I : Inv X pins σ H s) : ∀ b o, X.base.get? b = some o -> s.heap.get? b = some o /\ H b = none := fun b o e =>
 ⟨I.base.keep b o (I.ok.bs b o e).1 (I.ok.bs b o e).2 (I.ok.nofr e) (I.ok.noex b o e), I.base.free b o (I.ok.bs b o e).1 (I.ok.bs b o e).2 (I.ok.noex b o e)⟩
theorem Inv.bk (I : Inv X pins σ H s) : ∀ b o, X.base.get? b = some o -> s.heap.get? b = some o := fun b o e => (I.bs b o e).1
theorem Inv.mod (I : Inv X pins σ H s) : Mod X.K X.mg X.base := I.ok.mod
theorem Inv.kIn (I : Inv X pins σ H s) : X.K.In s.heap := I.ok.mod.kin.keeps I.bk
theorem Inv.fr (I : Inv X pins σ H s) : ∃ m, Fr X.base X.env.locals s.heap m :=
 let ⟨m, hn, _⟩ := I.loc
 ⟨m, hn, I.bk, apu I.ok.bsz I.ok.above⟩
theorem Inv.lt (I : Inv X pins σ H s) : X.env.locals < s.heap.objs.size := let ⟨_, hn, _⟩ := I.loc; hn.lt
theorem Inv.sz (I : Inv X pins σ H s) : X.s₀.heap.objs.size <= s.heap.objs.size := apu I.ok.above (ap1 I.lt)
theorem Inv.nofs (I : Inv X pins σ H s) {a : Addr} (h : s.heap.objs.size <= a) : a ∉ X.fs := fun hb => by
 obtain ⟨_, o, ho, _⟩ := I.ok.funs.mem hb
 exact absurd (apr (apf ho) (apu I.sz h)) (aqx _)
theorem Inv.cne (I : Inv X pins σ H s) : ∀ x c, X.env.cells.lookup x = some c -> c ≠ X.env.locals := fun x c e z => by
 obtain ⟨v, o, ho, hd⟩ := I.cell x c e
 obtain ⟨m, ⟨o', es, ep, ho', hd', _⟩, _⟩ := I.loc
 rw [z, ho'] at ho; cases ho; rw [hd'] at hd; cases hd
theorem Inv.funs (I : Inv X pins σ H s) : s.heap.FunFrames X.base X.outer := by
 have all : ∀ (l : List Env), (∀ b ∈ frs l, b ∈ X.fs) -> X.s₀.heap.FunFrames X.base l -> s.heap.FunFrames X.base l := by
  intro l
  induction l with
  | nil => intro _ _; trivial
  | cons env r ih =>
   intro hs hl
   obtain ⟨hk, ⟨L, o, hf, hn, ho, hd⟩, hr⟩ := hl
   have hL : L ∈ X.fs := hs L (by unfold frs; rw [aqh, hf]; exact ao4)
   obtain ⟨sl, e⟩ := I.base.slot L o ho (I.ok.frf L hL) hL fun z => I.ok.exfs L z hL
   exact ⟨hk, ⟨L, _, hf, hn, e, hd⟩, ih (fun b hb => hs b (by unfold frs; rw [aqh, hf]; exact ao3 _ hb)) hr⟩
 exact all X.outer (fun _ hb => hb) I.ok.funs
theorem Inv.stack (I : Inv X pins σ H s) : s.heap.FunFrames X.base X.stack := by
 rcases I.ok.stk with e | ⟨e, hf⟩
 ·rw [e]; exact I.funs
 ·rw [e]
  obtain ⟨m, hn, _⟩ := I.loc
  refine .cons (by rw [I.ok.kind]; decide) hf hn ?_ I.funs
  exact Heap.get?_none_of_le (apu I.ok.bsz I.ok.above)
theorem Inv.stkSub (I : Inv X pins σ H s) : ∀ b ∈ frs X.stack, b ∈ X.env.locals :: X.fs := fun b hb => by
 rcases I.ok.stk with e | ⟨e, hf⟩
 ·rw [e] at hb; exact ao3 _ hb
 ·rw [e] at hb
  unfold frs at hb
  rw [aqh, hf] at hb
  exact hb
theorem Inv.stkFree (I : Inv X pins σ H s) : ∀ b ∈ frs X.stack, H b = none := fun b hb => by
 rcases ao7.mp (I.stkSub b hb) with e | hb
 ·rw [e]; exact I.free
 ·obtain ⟨_, o, ho, _⟩ := I.ok.funs.mem hb
  exact I.base.free b o ho (I.ok.frf b hb) fun z => I.ok.exfs b z hb
theorem Inv.step {g' : Array GenState} {t' : Nat} {d' : Drawn} {ch : List Addr} (I : Inv X pins σ H s)
  (hch : ∀ b ∈ ch, (b ∈ X.ex \/ X.s₀.heap.objs.size <= b) /\ b ≠ X.env.locals /\ (∀ x c, X.env.cells.lookup x = some c -> c ≠ b) /\ ∀ p ∈ X.pn ++ pins, p.1 ≠ b)
  (keep : ∀ b o, b ≠ X.env.locals -> b ∉ X.fs -> b ∉ ch -> s.heap.get? b = some o -> H b = none -> h'.get? b = some o)
  (slot : ∀ b o, b ≠ X.env.locals -> b ∈ X.fs -> b ∉ ch -> s.heap.get? b = some o -> H b = none -> ∃ sl, h'.get? b = some { o with slots := sl }) (free : ∀ b o, b ∉ ch -> s.heap.get? b = some o -> H b = none -> H' b = none)
  (there : ∀ b o, b ∉ ch -> s.heap.get? b = some o -> ∃ o', h'.get? b = some o')
  (tups : ∀ b xs, H b = some (.tup xs) -> H' b = some (.tup xs)) (frzs : ∀ b o u, H b = some (.frz o u) -> H' b = some (.frz o u)) (tbls : ∀ b ps, H b = some (.tbl ps) -> ∃ more, H' b = some (.tbl (ps ++ more)))
  (ns : ∀ m, s.heap.Ns X.env.locals m -> h'.Ns X.env.locals m) (hok : HOk X.prog X.w H' h') (hg : AllBare g') :
  Inv X pins σ H' { s with heap := h', gens := g', drawn := d', toks := t' } := by
 have neL : ∀ b o, X.s₀.heap.get? b = some o -> b ≠ X.env.locals := fun b o e => apB (apr (apf e) I.ok.above)
 have neC : ∀ b o, X.s₀.heap.get? b = some o -> b ∉ X.ex -> b ∉ ch := fun b o e hx hb => by
  rcases (hch b hb).1 with z | z
  ·exact hx z
  ·exact absurd (apr (apf e) z) (aqx _)
 have cellK : ∀ x c, X.env.cells.lookup x = some c -> ∀ v, s.heap.IsCell c v -> h'.IsCell c v := fun x c e v ⟨o, ho, hd⟩ => by
  have nch : c ∉ ch := fun z => (hch c z).2.2.1 x c e rfl
  by_cases hc : c ∈ X.fs
  ·obtain ⟨sl, q⟩ := slot c o (I.cne x c e) hc nch ho (I.freeC x c e)
   exact ⟨_, q, hd⟩
  ·exact ⟨o, keep c o (I.cne x c e) hc nch ho (I.freeC x c e), hd⟩
 refine ⟨I.ok, I.os, hg, ⟨fun b o e n hb hx => ?_, fun b o e n hb hx => ?_, fun b o e n hx => ?_, fun b o e hx => ?_, fun b xs e => tups b xs (I.base.tups b xs e), fun b o xs e => frzs b o xs (I.base.frzs b o xs e), fun b ps e => ?_⟩, ?_, fun x c e => ?_, ?_, fun x c e => ?_, fun p hp => ?_, hok, I.len⟩
 ·exact keep b o (neL b o e) hb (neC b o e hx) (I.base.keep b o e n hb hx) (I.base.free b o e n hx)
 ·obtain ⟨sl, e1⟩ := I.base.slot b o e n hb hx
  obtain ⟨sl', e2⟩ := slot b _ (neL b o e) hb (neC b o e hx) e1 (I.base.free b o e n hx)
  exact ⟨sl', e2⟩
 ·obtain ⟨o', e1⟩ := I.base.there b o e hx
  exact free b o' (neC b o e hx) e1 (I.base.free b o e n hx)
 ·obtain ⟨o', e1⟩ := I.base.there b o e hx
  exact there b o' (neC b o e hx) e1
 ·obtain ⟨m1, e1⟩ := I.base.tbls b ps e
  obtain ⟨m2, e2⟩ := tbls b _ e1
  exact ⟨m1 ++ m2, by rw [e2, Array.append_assoc]⟩
 ·obtain ⟨m, hn, hl⟩ := I.loc
  refine ⟨m, ns m hn, fun i x v e1 e2 e3 => ?_⟩
  obtain ⟨u, r, l⟩ := hl i x v e1 e2 e3
  refine ⟨u, r, ?_⟩
  rcases l with l | ⟨k, c, e, z⟩
  ·exact .inl l
  ·exact .inr ⟨k, c, e, cellK x c e _ z⟩
 ·obtain ⟨v, z⟩ := I.cell x c e
  exact ⟨v, cellK x c e v z⟩
 ·obtain ⟨m, ⟨o, _, _, ho, _⟩, _⟩ := I.loc
  exact free _ o (fun z => (hch _ z).2.1 rfl) ho I.free
 ·obtain ⟨v, o, ho, hd⟩ := I.cell x c e
  exact free c o (fun z => (hch c z).2.2.1 x c e rfl) ho (I.freeC x c e)
 ·obtain ⟨e, n, ne, nf, d⟩ := I.pin p hp
  have nch : p.1 ∉ ch := fun z => (hch p.1 z).2.2.2 p hp rfl
  exact ⟨keep p.1 p.2 ne nf nch e n, free p.1 p.2 nch e n, ne, nf, d⟩
theorem Inv.un {t' : Nat} (I : Inv X pins σ H s) (u : Un X.fs [] H H' s.heap h') (hok : HOk X.prog X.w H' h') : Inv X pins σ H' { s with heap := h', toks := t' } := by
 obtain ⟨m, ⟨o, es, ep, ho, r⟩, _⟩ := id I.loc
 obtain ⟨sl, hL⟩ := u.any ho I.free (by simp)
 exact I.step (g' := s.gens) (d' := s.drawn) (ch := []) (fun _ z => nomatch z) (fun b o _ hb _ e n => u.keep b o e n hb (by simp)) (fun b o _ hb _ e n => u.slot b o e n hb (by simp)) (fun b o _ e n => u.free b o e n (by simp)) (fun b o _ e => u.there b o e (by simp)) u.tups u.frzs u.tbls (fun m' hm => by
  obtain ⟨o', es', ep', ho', r'⟩ := hm
  rw [ho] at ho'; cases ho'
  exact ⟨_, es', ep', hL, r'⟩) hok I.bare
theorem Inv.call {g' : Array GenState} {t' : Nat} {d' : Drawn} {ch : List Addr} (I : Inv X pins σ H s) (u : Un (frs X.stack) ch H H' s.heap h') (hok : HOk X.prog X.w H' h') (hg : AllBare g')
  (hch : ∀ b ∈ ch, (b ∈ X.ex \/ X.s₀.heap.objs.size <= b) /\ b ≠ X.env.locals /\ (∀ x c, X.env.cells.lookup x = some c -> c ≠ b) /\ ∀ p ∈ X.pn ++ pins, p.1 ≠ b) :
  Inv X pins σ H' { s with heap := h', gens := g', drawn := d', toks := t' } := by
 obtain ⟨m, ⟨o, es, ep, ho, r⟩, _⟩ := id I.loc
 obtain ⟨sl, hL⟩ := u.any ho I.free fun z => (hch _ z).2.1 rfl
 exact I.step (ch := ch) hch (fun b o hL hb hc e n => u.keep b o e n (fun z => (ao7.mp (I.stkSub b z)).elim hL hb) hc) (fun b o _ _ hc e n => u.any e n hc) (fun b o hc e n => u.free b o e n hc) (fun b o hc e => u.there b o e hc) u.tups u.frzs u.tbls (fun m' hm => by
  obtain ⟨o', es', ep', ho', r'⟩ := hm
  rw [ho] at ho'; cases ho'
  exact ⟨_, es', ep', hL, r'⟩) hok hg
theorem Inv.turned {t' : Nat} {it : Addr} (I : Inv X pins σ H s) (k : ∀ b o, b ≠ it -> s.heap.get? b = some o -> h'.get? b = some o) (hn : H it = none) (hL : it ≠ X.env.locals)
  (h1 : it ∈ X.ex \/ X.s₀.heap.objs.size <= it) (h2 : ∀ x c, X.env.cells.lookup x = some c -> c ≠ it) (h3 : ∀ p ∈ X.pn ++ pins, p.1 ≠ it) : Inv X pins σ H { s with heap := h', toks := t' } := by
 have nit : ∀ b u, H b = some u -> b ≠ it := fun b u e z => by rw [z, hn] at e; cases e
 refine I.step (g' := s.gens) (d' := s.drawn) (ch := [it]) (fun b hb => ?_) (fun b o _ _ hc e _ => k b o (fun z => hc (by simp [z])) e) (fun b o _ _ hc e _ => ⟨o.slots, k b o (fun z => hc (by simp [z])) e⟩) (fun _ _ _ _ n => n)
  (fun b o hc e => ⟨o, k b o (fun z => hc (by simp [z])) e⟩) (fun _ _ e => e) (fun _ _ _ e => e) (fun b ps e => ⟨#[], by rw [e]; simp⟩) (fun m hm => ?_) (fun b u e => ?_) I.bare
 ·have e : b = it := by simpa using hb
  subst e
  exact ⟨h1, hL, h2, h3⟩
 ·obtain ⟨o, es, ep, ho, r⟩ := hm
  exact ⟨o, es, ep, k _ o (aqa hL) ho, r⟩
 ·refine (I.hok b u e).stay (fun c v hc q => k c v ?_ q) (fun _ q => q) fun _ _ q => q
  rcases hc with z | z
  ·rw [z]; exact nit b u e
  ·exact nit c _ z
theorem Inv.tok (I : Inv X pins σ H s) (t : Nat) : Inv X pins σ H { s with toks := t } := I.un (h' := s.heap) (t' := t) Un.refl I.hok
theorem Inv.kept {t' : Nat} (I : Inv X pins σ H s) (k : ∀ b u, s.heap.get? b = some u -> h'.get? b = some u) : Inv X pins σ H { s with heap := h', toks := t' } := I.un (Un.kept k) (I.hok.kept k)
theorem Inv.laid {a : Addr} {o : HO} {t' : Nat} (I : Inv X pins σ H s) (k : ∀ b u, s.heap.get? b = some u -> h'.get? b = some u) (hp : s.heap.objs.size <= a) (new : ObjOk X.prog X.w (upd H a o) h' a o) :
  Inv X pins σ (upd H a o) { s with heap := h', toks := t' } := I.un (Un.laid k hp (I.hok.fresh hp)) (I.hok.laid k hp new)
theorem Inv.write {x e : Addr} {o : HO} {t' : Nat} (I : Inv X pins σ H s) (mu : Mut (H x)) (he : e = x \/ H e = some (.own x)) (k : ∀ b u, b ≠ e -> s.heap.get? b = some u -> h'.get? b = some u) (heo : ∃ u, h'.get? e = some u)
  (new : ObjOk X.prog X.w (upd H x o) h' x o) : Inv X pins σ (upd H x o) { s with heap := h', toks := t' } := I.un (Un.write mu he k heo) (I.hok.write mu he k heo new)
theorem Inv.pins_of {pins' : List (Addr × Obj)} (I : Inv X pins σ H s) (h : ∀ p ∈ pins', s.heap.get? p.1 = some p.2 /\ H p.1 = none /\ p.1 ≠ X.env.locals /\ p.1 ∉ X.fs /\ ∀ v, p.2.data ≠ .cell v) : Inv X pins' σ H s :=
 ⟨I.ok, I.os, I.bare, I.base, I.loc, I.cell, I.free, I.freeC, fun p hp => (apj.mp hp).elim (fun z => I.pin p (apx _ z)) (h p), I.hok, I.len⟩
theorem aba {N : List Str} (hN : N.Nodup) {i j : Nat} {x : Str} (a : N[i]? = some x) (b : N[j]? = some x) : i = j := by
 obtain ⟨h1, e1⟩ := ao1.mp a
 obtain ⟨h2, e2⟩ := ao1.mp b
 exact (arJ hN).mp (e1.trans e2.symm)
theorem ab8 {M : Model} {A : Around} {E : Value -> Shared -> Prop} {i : Nat} {x : Str} {v : V} {u : Value} {Q : Unit -> Shared -> Prop} (I : Inv X pins σ H s) (hN : X.N.Nodup) (hi : X.N[i]? = some x) (hx : Loc X.env.scope x) (r : RelV v u)
  (h : ∀ s', Inv X pins (σ.set i (some v)) H s' -> (∃ a, aqJ a s.heap s'.heap /\ (a = X.env.locals \/ X.env.cells.lookup x = some a)) -> Q () s') (hf : X.fn x = true \/ X.env.scope.names.lookup x = some .local := by first | exact .inl rfl | exact .inr rfl | assumption) : wpAny M A (storeName X.env x u) Q E s := by
 obtain ⟨m, hn, hl⟩ := id I.loc
 have hcls : (X.env.scope.kind == .class || (X.env.scope.kind == .module && X.env.locals != X.env.globals)) = false := by rw [I.ok.kind]; rfl
 have hiσ : i < σ.length := by rw [I.len]; exact (ao1.mp hi).1
 have cne := I.cne
 have tracked : ∀ {a : Addr} {h' : Heap}, (∃ o, s.heap.get? a = some o /\ H a = none) -> aqJ a s.heap h' -> HOk X.prog X.w H h' := fun {a h'} ha hs b ob e => by
  obtain ⟨_, _, hfree⟩ := ha
  refine (I.hok b ob e).stay (fun c w' hc q => (hs.2 c ?_).trans q) (fun _ q => q) fun _ _ q => q
  rintro rfl
  rcases hc with rfl | hc
  ·rw [hfree] at e; cases e
  ·rw [hfree] at hc; cases hc
 rcases hx with hk | hk
 ·refine wpAny_storeName_local hk hn (fun h' hn' hs => ?_) hcls
  obtain ⟨oL, _, _, hoL, _⟩ := id hn
  refine h _ ⟨I.ok, I.os, I.bare, ⟨fun b o e n hb hx => ?_, fun b o e n hb hx => ?_, I.base.free, fun b o e hx => ?_, I.base.tups, I.base.frzs, I.base.tbls⟩, ⟨_, hn', fun j y v' e1 e2 e3 => ?_⟩, fun y c e => ?_, I.free, I.freeC, fun p hp => ?_, tracked ⟨oL, hoL, I.free⟩ hs, by simpa using I.len⟩ ⟨_, hs, .inl rfl⟩
  ·exact (hs.2 b (apB (apr (apf e) I.ok.above))).trans (I.base.keep b o e n hb hx)
  ·obtain ⟨sl, e1⟩ := I.base.slot b o e n hb hx
   exact ⟨sl, (hs.2 b (apB (apr (apf e) I.ok.above))).trans e1⟩
  ·obtain ⟨o', e1⟩ := I.base.there b o e hx
   exact ⟨o', (hs.2 b (apB (apr (apf e) I.ok.above))).trans e1⟩
  ·by_cases hj : j = i
   ·subst hj
    rw [hi] at e1; cases e1
    rw [aqb hiσ] at e2
    cases e2
    exact ⟨u, r, .inl ⟨hk, by simp⟩⟩
   ·rw [aqo (aqa hj)] at e2
    obtain ⟨u', r', q⟩ := hl j y v' e1 e2 e3
    refine ⟨u', r', ?_⟩
    rcases q with ⟨k, e⟩ | ⟨k, c, e, z⟩
    ·refine .inl ⟨k, ?_⟩
     have : y ≠ x := fun e => hj (aba hN e1 (e ▸ hi))
     simp [this, e]
    ·exact .inr ⟨k, c, e, z.sameBut hs (cne y c e)⟩
  ·obtain ⟨w', z⟩ := I.cell y c e
   exact ⟨w', z.sameBut hs (cne y c e)⟩
  ·obtain ⟨e, n, ne, nf, d⟩ := I.pin p hp
   exact ⟨(hs.2 p.1 ne).trans e, n, ne, nf, d⟩
 ·have hfn : X.fn x = true := by
   rcases hf with z | z
   ·exact z
   ·rw [z] at hk; cases hk
  obtain ⟨c, hc⟩ := I.ok.has x (.inl hk)
  obtain ⟨w', z⟩ := I.cell x c hc
  refine wpAny_storeName_cell I.ok.kind hk hc z (fun h' hc' hs => ?_)
  obtain ⟨oc, hoc, hocd⟩ := id z
  refine h { s with heap := h' } ⟨I.ok, I.os, I.bare, ⟨fun b o e n hb hx => ?_, fun b o e n hb hx => ?_, I.base.free, fun b o e hx => ?_, I.base.tups, I.base.frzs, I.base.tbls⟩, ⟨m, hn.sameBut hs (aqa (cne x c hc)), fun j y v' e1 e2 e3 => ?_⟩, fun y c' e => ?_, I.free, I.freeC, fun p hp => ?_, tracked ⟨oc, hoc, I.freeC x c hc⟩ hs, by simpa using I.len⟩ ⟨c, hs, .inr hc⟩
  ·exact (hs.2 b (apB (apr (apf e) (I.ok.cab x c hfn hc)))).trans (I.base.keep b o e n hb hx)
  ·obtain ⟨sl, e1⟩ := I.base.slot b o e n hb hx
   exact ⟨sl, (hs.2 b (apB (apr (apf e) (I.ok.cab x c hfn hc)))).trans e1⟩
  ·obtain ⟨o', e1⟩ := I.base.there b o e hx
   exact ⟨o', (hs.2 b (apB (apr (apf e) (I.ok.cab x c hfn hc)))).trans e1⟩
  ·by_cases hj : j = i
   ·subst hj
    rw [hi] at e1; cases e1
    rw [aqb hiσ] at e2
    cases e2
    exact ⟨u, r, .inr ⟨.inl hk, c, hc, hc'⟩⟩
   ·rw [aqo (aqa hj)] at e2
    obtain ⟨u', r', q⟩ := hl j y v' e1 e2 e3
    refine ⟨u', r', ?_⟩
    rcases q with q | ⟨k, c', e, z'⟩
    ·exact .inl q
    ·refine .inr ⟨k, c', e, z'.sameBut hs ?_⟩
     rintro rfl
     exact hj (aba hN e1 (I.ok.inj _ _ _ e hc ▸ hi))
  ·by_cases hcc : c' = c
   ·subst hcc; exact ⟨_, hc'⟩
   ·obtain ⟨w2, z2⟩ := I.cell y c' e
    exact ⟨w2, z2.sameBut hs hcc⟩
  ·obtain ⟨e, n, ne, nf, d⟩ := I.pin p hp
   refine ⟨(hs.2 p.1 ?_).trans e, n, ne, nf, d⟩
   intro q
   rw [q, hoc] at e
   have q' : oc = p.2 := Option.some.inj e
   exact d w' (by rw [<- q']; exact hocd)
theorem jq {M : Model} {A : Around} {E : Value -> Shared -> Prop} {i : Nat} {x : Str} {v : V} {u : Value} {Q : Unit -> Shared -> Prop} (I : Inv X pins σ H s) (hN : X.N.Nodup) (hi : X.N[i]? = some x) (hx : Loc X.env.scope x) (r : RelV v u)
  (h : ∀ s', Inv X pins (σ.set i (some v)) H s' -> Q () s') (hf : X.fn x = true \/ X.env.scope.names.lookup x = some .local := by first | exact .inl rfl | exact .inr rfl | assumption) : wpAny M A (storeName X.env x u) Q E s :=
 ab8 I hN hi hx r (fun s' I' _ => h s' I') hf
theorem Inv.call' {s' : Shared} {ch : List Addr} (I : Inv X pins σ H s) (ho : s'.os = s.os) (u : Un (frs X.stack) ch H H' s.heap s'.heap) (hok : HOk X.prog X.w H' s'.heap) (hg : AllBare s'.gens)
  (hch : ∀ b ∈ ch, (b ∈ X.ex \/ X.s₀.heap.objs.size <= b) /\ b ≠ X.env.locals /\ (∀ x c, X.env.cells.lookup x = some c -> c ≠ b) /\ ∀ p ∈ X.pn ++ pins, p.1 ≠ b) : Inv X pins σ H' s' := by
 obtain ⟨h', g', d', t', o'⟩ := s'
 have e : o' = s.os := ho
 subst e
 exact I.call (g' := g') (t' := t') (d' := d') u hok hg hch
end
abbrev XK := Value -> Option Addr -> Hp -> Prop
abbrev St := List (Option V)
abbrev VK := V -> Hp -> Prop
abbrev TE := St -> Hp -> VK -> Prop
abbrev TT := St -> Hp -> (Bool -> Hp -> Prop) -> Prop
abbrev TA := St -> Hp -> (List V -> Hp -> Prop) -> Prop
structure Ends where
 nx : St -> Hp -> Prop
 rt : VK
 bk : St -> Hp -> Prop := fun _ _ => False
 ct : St -> Hp -> Prop := fun _ _ => False
abbrev TS := Ends -> St -> Hp -> Prop
def EP (X : Cx) (pins : List (Addr × Obj)) (σ : St) (Q : VK) (u : Value) (s' : Shared) : Prop := ∃ v H', Inv X pins σ H' s' /\ RelV v u /\ Q v H'
def TP (X : Cx) (pins : List (Addr × Obj)) (σ : St) (Q : Bool -> Hp -> Prop) (b : Bool) (s' : Shared) : Prop := ∃ H', Inv X pins σ H' s' /\ Q b H'
def AP (X : Cx) (pins : List (Addr × Obj)) (σ : St) (Q : List V -> Hp -> Prop) (us : List Value) (s' : Shared) : Prop := ∃ vs H', Inv X pins σ H' s' /\ Vals vs us /\ Q vs H'
def SP (X : Cx) (pins : List (Addr × Obj)) (D : Ends) (f : Flow) (s' : Shared) : Prop :=
 match f with
 | .next => ∃ σ' H', Inv X pins σ' H' s' /\ D.nx σ' H'
 | .brk => ∃ σ' H', Inv X pins σ' H' s' /\ D.bk σ' H'
 | .cont => ∃ σ' H', Inv X pins σ' H' s' /\ D.ct σ' H'
 | .ret u => ∃ v σ' H', Inv X pins σ' H' s' /\ RelV v u /\ D.rt v H'
def PE (X : Cx) (e : Expr) (t : TE) : Prop :=
 ∀ (pins : List (Addr × Obj)) (s : Shared) (σ : St) (H : Hp) (Q : VK), Inv X pins σ H s -> t σ H Q -> wpAny (model X.prog X.w) X.A (eval e X.env) (EP X pins σ Q) X.xe s
def PT (X : Cx) (e : Expr) (t : TT) : Prop :=
 ∀ (pins : List (Addr × Obj)) (s : Shared) (σ : St) (H : Hp) (Q : Bool -> Hp -> Prop), Inv X pins σ H s -> t σ H Q -> wpAny (model X.prog X.w) X.A (isTrue e X.env (eval e X.env)) (TP X pins σ Q) X.xe s
def PW (X : Cx) (e : Expr) (t : TT) : Prop :=
 ∀ (whole : Sem Value) (pins : List (Addr × Obj)) (s : Shared) (σ : St) (H : Hp) (Q : Bool -> Hp -> Prop), Inv X pins σ H s -> t σ H Q -> wpAny (model X.prog X.w) X.A (isTrue e X.env whole) (TP X pins σ Q) X.xe s
theorem PW.pt {X : Cx} {e : Expr} {t : TT} (h : PW X e t) : PT X e t := h _
def PA (X : Cx) (es : List Expr) (t : TA) : Prop :=
 ∀ (pos : Pos) (pins : List (Addr × Obj)) (s : Shared) (σ : St) (H : Hp) (Q : List V -> Hp -> Prop), Inv X pins σ H s -> t σ H Q -> wpAny (model X.prog X.w) X.A (spliced (backTo pos (starEach es X.env))) (AP X pins σ Q) X.xe s
def PS (X : Cx) (st : Stmt) (t : TS) : Prop :=
 ∀ (pins : List (Addr × Obj)) (s : Shared) (σ : St) (H : Hp) (D : Ends), Inv X pins σ H s -> t D σ H -> wpAny (model X.prog X.w) X.A (exec st X.env) (SP X pins D) X.xe s
def PSs (X : Cx) (st : List Stmt) (t : TS) : Prop :=
 ∀ (pins : List (Addr × Obj)) (s : Shared) (σ : St) (H : Hp) (D : Ends), Inv X pins σ H s -> t D σ H -> wpAny (model X.prog X.w) X.A (execs st X.env) (SP X pins D) X.xe s
theorem thn {α : Type} {t : Sem α} {Q Q' : α -> Shared -> Prop} {M : Model} {A : Around} {E : Value -> Shared -> Prop} {s : Shared} (h : wpAny M A t Q E s) (hQ : ∀ a s, Q a s -> Q' a s) : wpAny M A t Q' E s := wpAny_mono h hQ fun _ _ x => x
section
variable {X : Cx}
def yf (i : Nat) : TE := fun σ H Q => ∃ v, σ[i]? = some (some v) /\ Q v H
def tC (v : V) : TE := fun _ H Q => Q v H
theorem amx {i : Nat} {x : Str} {pos : Pos} (hN : X.N[i]? = some x) (hv : Vis X.env.scope x) (hd : (x == ("__debug__" : Str)) = false := by decide) (hcd : (x == ("__classdict__" : Str)) = false := by decide) : PE X (.Name x pos) (yf i) := by
 intro pins s σ H Q I h
 obtain ⟨v, e, h⟩ := h
 obtain ⟨m, hn, hl⟩ := I.loc
 obtain ⟨u, r, l⟩ := hl i x v hN e hv
 have fin : EP X pins σ Q u s := ⟨v, H, I, r, h⟩
 rcases l with ⟨hk, hm⟩ | ⟨hk, c, hc, hcell⟩
 ·exact wpAny_Name (wpAny_loadName_local I.ok.kind hk hn hm fin) hd
 ·rcases hk with hk | hk
  ·exact wpAny_Name (wpAny_loadName_cell I.ok.kind hk hc hcell fin) hd
  ·exact wpAny_Name (wpAny_loadName_free I.ok.kind hk hc hcell fin hcd) hd
theorem ze {i j pos} : PE X (.Constant (.int i) j pos) (tC (.int i)) := fun _ _ _ H _ I h => wpAny_Constant_int ⟨.int i, H, I.tok _, ⟨_, rfl⟩, h⟩
theorem vm {b j pos} : PE X (.Constant (.bool b) j pos) (tC (.bl b)) := fun _ _ _ H _ I h => Constant_bool ⟨.bl b, H, I, rfl, h⟩
theorem afc {j pos} : PE X (.Constant .none j pos) (tC .non) := fun _ _ _ H _ I h => Constant_none ⟨.non, H, I, rfl, h⟩
theorem yL {x j pos} : PE X (.Constant (.str x) j pos) (tC (.str x)) := fun _ _ _ H _ I h => Calls.Constant_str ⟨.str x, H, I.tok _, ⟨_, rfl⟩, h⟩
def Gl (X : Cx) (x : Str) : Prop := X.env.kindOf x = some .globalImplicit
theorem qS {E : Value -> Shared -> Prop} {pins : List (Addr × Obj)} {s : Shared} {σ : St} {H : Hp} {x : Str} {u : Value} {pos : Pos} {Q : Value -> Shared -> Prop} (I : Inv X pins σ H s) (hg : Gl X x) (hm : X.mg x = some u) (h : Q u s)
  (hd : (x == ("__debug__" : Str)) = false := by decide) : wpAny (model X.prog X.w) X.A (eval (.Name x pos) X.env) Q E s :=
 arZ I.ok.kind hg (Calls.loadGlobal_global (by rw [I.ok.glob]; exact I.mod.glob.keeps I.bk) hm h) hd
theorem aai {E : Value -> Shared -> Prop} {pins : List (Addr × Obj)} {s : Shared} {σ : St} {H : Hp} {x : Str} {u : Value} {pos : Pos} {Q : Value -> Shared -> Prop} (I : Inv X pins σ H s) (hg : Gl X x) (hm : X.mg x = none) (hv : bootBuiltins x = some u) (h : Q u s)
  (hn : x ≠ "__name__" := by decide) (hd : (x == ("__debug__" : Str)) = false := by decide) : wpAny (model X.prog X.w) X.A (eval (.Name x pos) X.env) Q E s := by
 obtain ⟨mb, h1, h2⟩ := I.mod.blt
 exact arZ I.ok.kind hg (Calls.loadGlobal_builtin (by rw [I.ok.glob]; exact I.mod.glob.keeps I.bk) hm (by rw [I.ok.blt]; exact h1.keeps I.bk) ((h2 x hn).trans hv) h) hd
theorem yj {x : Str} {v : V} {u : Value} {pos : Pos} (hg : Gl X x) (hm : X.mg x = some u) (r : RelV v u) (hd : (x == ("__debug__" : Str)) = false := by decide) : PE X (.Name x pos) (tC v) :=
 fun _ _ _ H _ I h => qS I hg hm ⟨v, H, I, r, h⟩ hd
theorem aku {x : Str} {v : V} {u : Value} {pos : Pos} (hg : Gl X x) (hm : X.mg x = none) (hv : bootBuiltins x = some u) (r : RelV v u) (hn : x ≠ "__name__" := by decide) (hd : (x == ("__debug__" : Str)) = false := by decide) : PE X (.Name x pos) (tC v) :=
 fun _ _ _ H _ I h => aai I hg hm hv ⟨v, H, I, r, h⟩ hn hd
variable {a b : Expr} {ta tb : TE} {pos : Pos}
def tB (t : TE) : TT := fun σ H Q => t σ H fun x H1 => ∃ c, x = .bl c /\ Q c H1
variable {tA tB' : TT} {rest : List Expr}
def aob (t u : TT) : TT := fun σ H Q => t σ H fun c H1 => if c = true then u σ H1 Q else Q false H1
def tOr (t u : TT) : TT := fun σ H Q => t σ H fun c H1 => if c = true then Q true H1 else u σ H1 Q
def aoc (t : TT) : TT := fun σ H Q => t σ H fun c H1 => Q (!c) H1
theorem aaT (ha : PT X a tA) : PW X (.BoolOp .And [a] pos) tA := by
 intro wh pins s σ H Q I h
 refine isTrue_and (thn (ha pins s σ H Q I h) fun c s1 e => ?_)
 cases c with
 | true => exact isTrue_and_nil e
 | false => exact e
theorem afd (ha : PT X a tA) : PW X (.BoolOp .Or [a] pos) tA := by
 intro wh pins s σ H Q I h
 refine isTrue_or (thn (ha pins s σ H Q I h) fun c s1 e => ?_)
 cases c with
 | false => exact isTrue_or_nil e
 | true => exact e
theorem acN (ha : PT X a tA) (hb : PW X (.BoolOp .And (b :: rest) pos) tB') : PW X (.BoolOp .And (a :: b :: rest) pos) (aob tA tB') := by
 intro wh pins s σ H Q I h
 refine isTrue_and (thn (ha pins s σ H _ I h) fun c s1 ⟨H1, I1, q1⟩ => ?_)
 cases c with
 | true => exact hb wh pins s1 σ H1 Q I1 q1
 | false => exact ⟨H1, I1, q1⟩
theorem af5 (ha : PT X a tA) (hb : PW X (.BoolOp .Or (b :: rest) pos) tB') : PW X (.BoolOp .Or (a :: b :: rest) pos) (tOr tA tB') := by
 intro wh pins s σ H Q I h
 refine isTrue_or (thn (ha pins s σ H _ I h) fun c s1 ⟨H1, I1, q1⟩ => ?_)
 cases c with
 | true => exact ⟨H1, I1, q1⟩
 | false => exact hb wh pins s1 σ H1 Q I1 q1
theorem vB (ha : PT X a tA) : PT X (.UnaryOp .Not a pos) (aoc tA) := by
 intro pins s σ H Q I h
 exact isTrue_not (ha pins s σ H (fun c H1 => Q (!c) H1) I h)
def alZ (ta tb : TE) : TE := fun σ H Q => ta σ H fun x H1 => ∃ c, x = .bl c /\ if c = true then tb σ H1 Q else Q (.bl false) H1
def al0 (ta : TE) : TE := fun σ H Q => ta σ H fun x H1 => ∃ c, x = .bl c /\ Q (.bl (!c)) H1
theorem afe {op} {t : TE} (h : PE X a t) : PE X (.BoolOp op [a] pos) t := fun pins s σ H Q I hw => BoolOp_one (h pins s σ H Q I hw)
theorem acO (ha : PE X a ta) (hb : PE X (.BoolOp .And (b :: rest) pos) tb) : PE X (.BoolOp .And (a :: b :: rest) pos) (alZ ta tb) := by
 intro pins s σ H Q I h
 refine BoolOp_and (thn (ha pins s σ H _ I h) fun v s1 ⟨x, H1, I1, r1, q1⟩ => ?_)
 obtain ⟨c, rfl, q1⟩ := q1
 cases r1
 refine wpAny_truthy_bool ?_
 cases c with
 | true => exact hb pins s1 σ H1 Q I1 q1
 | false => exact ⟨.bl false, H1, I1, rfl, q1⟩
theorem amy (ha : PE X a ta) : PE X (.UnaryOp .Not a pos) (al0 ta) := by
 intro pins s σ H Q I h
 refine UnaryOp_ (thn (ha pins s σ H _ I h) fun v s1 ⟨x, H1, I1, r1, q1⟩ => ?_)
 obtain ⟨c, rfl, q1⟩ := q1
 cases r1
 exact not_of (wpAny_truthy_bool ⟨.bl (!c), H1, I1, rfl, q1⟩)
def tIf (t : TT) (ta tb : TE) : TE := fun σ H Q => t σ H fun c H1 => if c = true then ta σ H1 Q else tb σ H1 Q
theorem qI {c : Expr} (hc : PT X c tA) (ha : PE X a ta) (hb : PE X b tb) : PE X (.IfExp c a b pos) (tIf tA ta tb) := by
 intro pins s σ H Q I h
 refine wpAny_IfExp (thn (hc pins s σ H _ I h) fun d s1 ⟨H1, I1, q1⟩ => ?_)
 cases d with
 | true => exact ha pins s1 σ H1 Q I1 q1
 | false => exact hb pins s1 σ H1 Q I1 q1
end
def SqL (K : ao0) (H : Hp) (a : Addr) (xs : List V) : Prop :=
 Rd H a (.lst xs) \/
  ∃ (o : Obj) (its : Array Value) (n : Nat), K.lookup a = some o /\ o.cls = .type "list" /\ o.dict = none /\ o.data = .seq its n /\ its.size <= sizeLine /\ Vals xs its.toList
def SqT (K : ao0) (H : Hp) (a : Addr) (xs : List V) : Prop :=
 Rd H a (.tup xs) \/
  ∃ (o : Obj) (its : Array Value) (n : Nat), K.lookup a = some o /\ o.cls = .type "tuple" /\ o.data = .seq its n /\ its.size <= sizeLine /\ Vals xs its.toList
def aoO : Value -> Option V
 | .none => some .non
 | .bool b => some (.bl b)
 | .int i _ => some (.int i)
 | .str x _ => some (.str x)
 | .bytes b _ => some (.byt b)
 | .float b _ => some (.flt b)
 | .ref a => some (.ref a)
 | .type n => some (.ty n)
 | _ => none
theorem RelV.abs {x : V} {u : Value} (r : RelV x u) : aoO u = some x := by
 cases x with
 | non => cases r; rfl
 | bl _ => cases r; rfl
 | int _ => obtain ⟨t, rfl⟩ := r; rfl
 | str _ => obtain ⟨t, rfl⟩ := r; rfl
 | byt _ => obtain ⟨t, rfl⟩ := r; rfl
 | flt _ => obtain ⟨t, rfl⟩ := r; rfl
 | ref _ => cases r; rfl
 | ty _ => cases r; rfl
theorem RelV.inj {x y : V} {u : Value} (r : RelV x u) (q : RelV y u) : x = y := Option.some.inj (r.abs.symm.trans q.abs)
theorem Vals.inj : ∀ {xs ys : List V} {us : List Value}, Vals xs us -> Vals ys us -> xs = ys
 | _, _, _, .nil, .nil => rfl
 | _, _, _, .cons r t, .cons r' t' => by rw [r.inj r', Vals.inj t t']
section
variable {X : Cx} {pins : List (Addr × Obj)} {σ : St} {H : Hp} {s : Shared} {a : Addr} {xs ys : List V}
theorem SqL.of {K : ao0} (h : H a = some (.lst xs)) : SqL K H a xs := .inl (.inl h)
theorem SqT.of {K : ao0} (h : H a = some (.tup xs)) : SqT K H a xs := .inl (.inl h)
theorem Inv.list (I : Inv X pins σ H s) (h : SqL X.K H a xs) : ∃ its : List Value, Vals xs its /\ PlainL s.heap a its.toArray /\ xs.length <= sizeLine := by
 rcases h with h | ⟨o, its, n, hk, hc, hd, hs, hz, r⟩
 ·obtain ⟨z, its, n, r, e⟩ := h.ok I.hok
  exact ⟨its, r, ⟨_, n, e, rfl, rfl, rfl⟩, z⟩
 ·refine ⟨its.toList, r, ⟨o, n, I.kIn a o hk, hc, hd, by simpa using hs⟩, ?_⟩
  have e := r.length
  simp only [apg] at e
  omega
theorem Inv.tuple (I : Inv X pins σ H s) (h : SqT X.K H a xs) : ∃ its : List Value, Vals xs its /\ IsTup s.heap a its.toArray /\ xs.length <= sizeLine := by
 rcases h with h | ⟨o, its, n, hk, hc, hs, hz, r⟩
 ·obtain ⟨z, its, r, p⟩ := h.ok I.hok
  exact ⟨its, r, p, z⟩
 ·refine ⟨its.toList, r, ⟨o, I.kIn a o hk, hc, n, by simpa using hs⟩, ?_⟩
  have e := r.length
  simp only [apg] at e
  omega
theorem Inv.list_inj (I : Inv X pins σ H s) (h : SqL X.K H a xs) (h' : SqL X.K H a ys) : xs = ys := by
 obtain ⟨its, r, ⟨o, n, e, _, _, d⟩, _⟩ := I.list h
 obtain ⟨its', r', ⟨o', n', e', _, _, d'⟩, _⟩ := I.list h'
 rw [e] at e'; cases e'
 rw [d] at d'
 injection d' with d1 _
 have : its = its' := by simpa using congrArg Array.toList d1
 subst this
 exact r.inj r'
theorem Inv.tuple_inj (I : Inv X pins σ H s) (h : SqT X.K H a xs) (h' : SqT X.K H a ys) : xs = ys := by
 obtain ⟨its, r, ⟨o, e, _, n, d⟩, _⟩ := I.tuple h
 obtain ⟨its', r', ⟨o', e', _, n', d'⟩, _⟩ := I.tuple h'
 rw [e] at e'; cases e'
 rw [d] at d'
 injection d' with d1 _
 have : its = its' := by simpa using congrArg Array.toList d1
 subst this
 exact r.inj r'
end
abbrev Cx.wish (X : Cx) (E : Value -> Shared -> Prop) : Cx := { X with xe := E }
abbrev Cx.nox (X : Cx) : Cx := X.wish fun _ _ => False
theorem Cx.Ok.wish {X : Cx} (ok : X.Ok) (E : Value -> Shared -> Prop) : (X.wish E).Ok :=
 ⟨ok.mod, ok.kind, ok.glob, ok.blt, ok.above, ok.inj, ok.has, ok.cab, ok.hd, ok.frames, ok.stk, ok.exf, ok.bs, ok.bsz, ok.noex, ok.exfs, ok.funs, ok.frf⟩
theorem Cx.Ok.unwish {X : Cx} {E : Value -> Shared -> Prop} (ok : (X.wish E).Ok) : X.Ok :=
 ⟨ok.mod, ok.kind, ok.glob, ok.blt, ok.above, ok.inj, ok.has, ok.cab, ok.hd, ok.frames, ok.stk, ok.exf, ok.bs, ok.bsz, ok.noex, ok.exfs, ok.funs, ok.frf⟩
section
variable {X : Cx} {pins : List (Addr × Obj)} {σ : St} {H : Hp} {s : Shared} {E : Value -> Shared -> Prop}
theorem Inv.wish (I : Inv X pins σ H s) (E : Value -> Shared -> Prop) : Inv (X.wish E) pins σ H s := ⟨I.ok.wish E, I.os, I.bare, I.base, I.loc, I.cell, I.free, I.freeC, I.pin, I.hok, I.len⟩
theorem Inv.unwish (I : Inv (X.wish E) pins σ H s) : Inv X pins σ H s := ⟨I.ok.unwish, I.os, I.bare, I.base, I.loc, I.cell, I.free, I.freeC, I.pin, I.hok, I.len⟩
theorem SP.unwish {D : Ends} {f : Flow} {s' : Shared} (h : SP (X.wish E) pins D f s') : SP X pins D f s' := by
 cases f with
 | next => obtain ⟨σ', H', I, q⟩ := h; exact ⟨σ', H', I.unwish, q⟩
 | brk => obtain ⟨σ', H', I, q⟩ := h; exact ⟨σ', H', I.unwish, q⟩
 | cont => obtain ⟨σ', H', I, q⟩ := h; exact ⟨σ', H', I.unwish, q⟩
 | ret u => obtain ⟨v, σ', H', I, r, q⟩ := h; exact ⟨v, σ', H', I.unwish, r, q⟩
theorem PSs.nox {st : List Stmt} {t : TS} (h : PSs X.nox st t) : PSs X st t := fun pins s σ H D I hw =>
 wpAny_mono (h pins s σ H D (I.wish _) hw) (fun _ _ q => q.unwish) fun _ _ z => ap0 z
end
section
variable {X : Cx} {st : Stmt} {rest : List Stmt} {t u : TS} {e : Expr} {te : TE} {pos : Pos}
def af6 : TS := fun D σ H => D.nx σ H
def qH (t u : TS) : TS := fun D σ H => t { D with nx := u D } σ H
theorem zO : PSs X [] af6 := fun _ _ σ H _ I h => wpAny_execs_nil ⟨σ, H, I, h⟩
theorem zc (h1 : PS X st t) (h2 : PSs X rest u) : PSs X (st :: rest) (qH t u) := by
 intro pins s σ H D I h
 refine wpAny_execs_cons (thn (h1 pins s σ H { D with nx := u D } I h) fun f s1 q => ?_)
 cases f with
 | next =>
  obtain ⟨σ', H', I', q⟩ := q
  exact h2 pins s1 σ' H' D I' q
 | ret v => exact q
 | brk => exact q
 | cont => exact q
theorem zg (h1 : PS X st t) : PSs X [st] t := by
 intro pins s σ H D I h
 refine wpAny_execs_cons (thn (h1 pins s σ H D I h) fun f s1 q => ?_)
 cases f with
 | next => exact wpAny_execs_nil q
 | ret v => exact q
 | brk => exact q
 | cont => exact q
theorem Inv.quiet {pins : List (Addr × Obj)} {σ : St} {H : Hp} {s : Shared} (I : Inv X pins σ H s) : interactive X.env = false := by simp [interactive, I.ok.kind]
def adU (te : TE) : TS := fun D σ H => te σ H fun _ H1 => D.nx σ H1
theorem z6 (he : PE X e te) (hs : swapsWith e none pos.line X.env = pure false := by rfl) : PS X (.Expr e pos) (adU te) := by
 intro pins s σ H D I h
 exact wpAny_Expr_any (thn (he pins s σ H _ I h) fun v s1 ⟨x, H1, I1, r1, q1⟩ => ⟨σ, H1, I1, q1⟩) I.quiet hs
def acP (te : TE) : TS := fun D σ H => te σ H D.rt
theorem zu (he : PE X e te) : PS X (.Return (some e) pos) (acP te) := by
 intro pins s σ H D I h
 exact wpAny_Return_some (thn (he pins s σ H _ I h) fun v s1 ⟨x, H1, I1, r1, q1⟩ => ⟨x, σ, H1, I1, r1, q1⟩)
def ahk (c : TT) (t u : TS) : TS := fun D σ H => c σ H fun b H1 => if b = true then t D σ H1 else u D σ H1
theorem yz {c : Expr} {a b : List Stmt} {tc : TT} (hc : PT X c tc) (ha : PSs X a t) (hb : PSs X b u) : PS X (.If c a b pos) (ahk tc t u) := by
 intro pins s σ H D I h
 refine wpAny_If (thn (hc pins s σ H _ I h) fun d s1 ⟨H1, I1, q1⟩ => ?_)
 cases d with
 | true => exact ha pins s1 σ H1 D I1 q1
 | false => exact hb pins s1 σ H1 D I1 q1
def amz : TS := fun _ _ _ => False
theorem adV : PS X st amz := fun _ _ _ _ _ _ h => h.elim
end
abbrev TG := V -> St -> Hp -> (St -> Hp -> Prop) -> Prop
abbrev TGs := List V -> St -> Hp -> (St -> Hp -> Prop) -> Prop
def PG (X : Cx) (target : Expr) (t : TG) : Prop :=
 ∀ (pins : List (Addr × Obj)) (s : Shared) (σ : St) (H : Hp) (v : V) (u : Value) (Q : St -> Hp -> Prop), Inv X pins σ H s -> RelV v u -> t v σ H Q ->
  wpAny (model X.prog X.w) X.A (assign target X.env u) (fun _ s' => ∃ σ' H', Inv X pins σ' H' s' /\ Q σ' H') X.xe s
def PGs (X : Cx) (ts : List Expr) (t : TGs) : Prop :=
 ∀ (pins : List (Addr × Obj)) (s : Shared) (σ : St) (H : Hp) (vs : List V) (us : List Value) (Q : St -> Hp -> Prop), Inv X pins σ H s -> Vals vs us -> t vs σ H Q ->
  wpAny (model X.prog X.w) X.A (assignInOrder ((assignEach ts X.env).map (·.2)) us) (fun _ s' => ∃ σ' H', Inv X pins σ' H' s' /\ Q σ' H') X.xe s
abbrev amA := V -> V -> V -> Hp -> (Hp -> Prop) -> Prop
def akv (X : Cx) (t : amA) : Prop :=
 ∀ (pins : List (Addr × Obj)) (s : Shared) (σ : St) (H : Hp) (o i v : V) (ov iv u : Value) (Q : Hp -> Prop), Inv X pins σ H s -> RelV o ov -> RelV i iv -> RelV v u -> t o i v H Q ->
  wpAny (model X.prog X.w) X.A (setItem ov iv u) (fun _ s' => ∃ H', Inv X pins σ H' s' /\ Q H') X.xe s
section
variable {X : Cx} {pos : Pos}
def y6 (i : Nat) : TG := fun v σ H Q => Q (σ.set i (some v)) H
theorem zk {i : Nat} {x : Str} (hN : X.N.Nodup) (hi : X.N[i]? = some x) (hx : Loc X.env.scope x) (hf : X.fn x = true \/ X.env.scope.names.lookup x = some .local := by first | exact .inl rfl | exact .inr rfl | assumption) : PG X (.Name x pos) (y6 i) := by
 intro pins s σ H v u Q I r h
 exact wpAny_assign_Name (jq I hN hi hx r (fun s' I' => ⟨_, H, I', h⟩) hf)
def aod : TGs := fun vs σ H Q => vs = [] /\ Q σ H
def al1 (t : TG) (u : TGs) : TGs := fun vs σ H Q => ∃ v r, vs = v :: r /\ t v σ H fun σ' H' => u r σ' H' Q
theorem zN : PGs X [] aod := by
 intro pins s σ H vs us Q I r h
 obtain ⟨e, h⟩ := h
 subst e
 cases r
 exact assignInOrder_nil ⟨σ, H, I, h⟩
theorem zo {e : Expr} {es : List Expr} {t : TG} {u : TGs} (h1 : PG X e t) (h2 : PGs X es u)
  (hs : (assignEach (e :: es) X.env).map (·.2) = assign e X.env :: (assignEach es X.env).map (·.2) := by rfl) : PGs X (e :: es) (al1 t u) := by
 intro pins s σ H vs us Q I r h
 obtain ⟨v, vr, e1, h⟩ := h
 subst e1
 cases r with
 | cons r rr =>
  rw [hs]
  refine assignInOrder_cons (thn (h1 pins s σ H _ _ _ I r h) fun _ s1 ⟨σ1, H1, I1, q1⟩ => ?_)
  exact h2 pins s1 σ1 H1 _ _ Q I1 rr q1
def amB (K : ao0) (n : Nat) (t : TGs) : TG := fun v σ H Q => ∃ a xs, v = .ref a /\ SqT K H a xs /\ xs.length = n /\ t xs σ H Q
theorem amC {es : List Expr} {k : Nat} {t : TGs} {n : Nat} (hc : X.calm = true) (h : PGs X es t)
  (hn : (assignEach es X.env).length = n := by rfl) (hst : (assignEach es X.env).findIdx? (·.1) = none := by rfl) : PG X (.Tuple es k pos) (amB X.K n t) := by
 intro pins s σ H v u Q I r hw
 obtain ⟨a, xs, e1, hq, hl, hw⟩ := hw
 subst e1
 cases r
 obtain ⟨its, rv, ht, hz⟩ := I.tuple hq
 refine assign_Tuple_tuple (I.ok.hd hc) ht (by simp [hn, <- hl, rv.length]) hst fun h' hx => ?_
 have I1 : Inv X pins σ H { s with heap := h' } := I.kept (t' := s.toks) fun b o e => hx b o (apB (apf e)) e
 exact h pins _ σ H xs _ Q I1 (by simpa using rv) hw
def adW (to ti : TE) (t : amA) : TG := fun v σ H Q => to σ H fun o H1 => ti σ H1 fun i H2 => t o i v H2 fun H3 => Q σ H3
theorem aaj {o i : Expr} {to ti : TE} {t : amA} (ho : PE X o to) (hi : PE X i ti) (hs : akv X t)
  (ha : ∀ v, assign (.Subscript o i pos) X.env v = (do
   let ov <- holding [v] (eval o X.env)
   let iv <- holding [v, ov] (eval i X.env)
   standAt pos
   holding [v, ov, iv] (setItem ov iv v)
   release [v, ov, iv] []) := by intro _; rfl) : PG X (.Subscript o i pos) (adW to ti t) := by
 intro pins s σ H v u Q I r h
 rw [ha]
 refine wpAny_bind (wpAny_holding (thn (ho pins s σ H _ I h) fun ov s1 ⟨x, H1, I1, r1, q1⟩ => ?_))
 refine wpAny_bind (wpAny_holding (thn (hi pins s1 σ H1 _ I1 q1) fun iv s2 ⟨y, H2, I2, r2, q2⟩ => ?_))
 refine wpAny_bind (wpAny_standAt (wpAny_bind (wpAny_holding (thn (hs pins s2 σ H2 x y v ov iv u _ I2 r1 r2 r q2) fun _ s3 ⟨H3, I3, q3⟩ => ?_))))
 exact wpAny_release ⟨σ, H3, I3, q3⟩
def jV (te : TE) (g : TG) : TS := fun D σ H => te σ H fun x H1 => g x σ H1 D.nx
theorem yg {tg e : Expr} {te : TE} {g : TG} (he : PE X e te) (hg : PG X tg g) (hs : swapsWithSole [tg] e pos.line X.env = pure false := by rfl) (hw : swappedStores [tg] e X.env = pure none := by rfl)
  (h1 : (assignEach [tg] X.env).map (·.2) = [assign tg X.env] := by rfl) : PS X (.Assign [tg] e pos) (jV te g) := by
 intro pins s σ H D I h
 refine wpAny_Assign_stores (thn (he pins s σ H _ I h) fun v s1 ⟨x, H1, I1, r1, q1⟩ => ?_) hs hw
 rw [h1]
 exact thn (hg pins s1 σ H1 x v _ I1 r1 q1) fun _ s2 q => q
theorem zC {i : Nat} {x : Str} {e : Expr} {te : TE} {pos' : Pos} (hN : X.N.Nodup) (hi : X.N[i]? = some x) (hx : Loc X.env.scope x) (he : PE X e te) (hs : swapsWith e (some (.Name x pos')) pos.line X.env = pure false := by rfl) (hf : X.fn x = true \/ X.env.scope.names.lookup x = some .local := by first | exact .inl rfl | exact .inr rfl | assumption) :
  PS X (.Assign [.Name x pos'] e pos) (jV te (y6 i)) := by
 intro pins s σ H D I h
 refine wpAny_Assign_Name (thn (he pins s σ H _ I h) fun v s1 ⟨y, H1, I1, r1, q1⟩ => ?_) hs
 exact jq I1 hN hi hx r1 (fun s2 I2 => ⟨_, H1, I2, q1⟩) hf
def aoe (i j : Nat) (ta : TA) : TS := fun D σ H => ta σ H fun vs H1 => ∃ v w, vs = [v, w] /\ D.nx ((σ.set i (some v)).set j (some w)) H1
theorem aiu {i j : Nat} {x y : Str} {a b : Expr} {ta : TA} {px py pt : Pos} {kt k2 pt2} (hc : X.calm = true) (hN : X.N.Nodup) (hi : X.N[i]? = some x) (hj : X.N[j]? = some y) (hij : i ≠ j)
  (hx : X.env.scope.names.lookup x = some .local) (hy : X.env.scope.names.lookup y = some .local) (ha : PA X [a, b] ta)
  (hw : swappedStores [.Tuple [.Name x px, .Name y py] kt pt] (.Tuple [a, b] k2 pt2) X.env = pure (some [x, y]))
  (hs : swapsWithSole [.Tuple [.Name x px, .Name y py] kt pt] (.Tuple [a, b] k2 pt2) pos.line X.env = pure false := by rfl) :
  PS X (.Assign [.Tuple [.Name x px, .Name y py] kt pt] (.Tuple [a, b] k2 pt2) pos) (aoe i j ta) := by
 intro pins s σ H D I h
 rw [exec_Assign_arm]
 refine wpAny_bind (wpAny_standAt ?_)
 rw [hs]
 refine wpAny_bind (wpAny_pure ?_)
 rw [if_neg (by decide)]
 refine wpAny_bind (Tuple_ (thn (ha _ pins s σ H _ I h) fun us s1 ⟨vs, H1, I1, r1, q1⟩ => ?_))
 obtain ⟨v, w, e1, q1⟩ := q1
 subst e1
 obtain ⟨u1, u2, rfl, rv, rw'⟩ : ∃ u1 u2, us = [u1, u2] /\ RelV v u1 /\ RelV w u2 := by
  cases r1 with
  | cons p q =>
   cases q with
   | cons p' q' =>
    cases q'
    exact ⟨_, _, rfl, p, p'⟩
 refine wpAny_newObj_type ?_ (by show 2 <= sizeLine; decide)
 have I2 : Inv X pins σ H1 { s1 with heap := s1.heap.push { cls := .type "tuple", data := .seq [u1, u2].toArray } } := I1.kept (t' := s1.toks) fun b o e => apb _ e
 rw [hw]
 refine wpAny_bind (wpAny_pure ?_)
 show wpAny (model X.prog X.w) X.A (do rule "assign.swapped-stores"; let items <- unpackItems (.ref s1.heap.objs.size) 2 none; assignInOrder [fun v => bindName X.env y v, fun v => bindName X.env x v] items.reverse; pure Flow.next) _ _ _
 refine wpAny_bind (wpAny_rule (wpAny_bind (unpackItems_tuple (items := #[u1, u2]) (I.ok.hd hc) (IsTup.new s1.heap _) fun h' hx' => ?_)))
 have I3 := I2.kept (h' := h') (t' := s1.toks) fun b o e => hx' b o (apB (apf e)) e
 show wpAny _ _ (assignInOrder [fun v => bindName X.env y v, fun v => bindName X.env x v] [u2, u1] >>= fun _ => pure Flow.next) _ _ _
 refine wpAny_bind (assignInOrder_cons (wpAny_bindName (jq I3 hN hj (.inl hy) rw' (fun s2 I4 => ?_) (.inr hy))))
 refine assignInOrder_cons (wpAny_bindName (jq I4 hN hi (.inl hx) rv (fun s3 I5 => assignInOrder_nil (wpAny_pure ?_)) (.inr hx)))
 rw [List.set_comm _ _ (aqa hij)] at I5
 exact ⟨_, H1, I5, q1⟩
end
section
variable {X : Cx} {pos : Pos}
def aff (c : TT) (tb : TS) : TS := fun D σ H => ∃ W : Nat -> St -> Hp -> Prop, (∃ m, W m σ H) /\ ∀ m σ H, W m σ H ->
 c σ H fun b H1 => if b = true then ∃ N : St -> Hp -> Prop, (∀ σ' H', N σ' H' -> ∃ m', m' < m /\ W m' σ' H') /\ tb { D with nx := N, ct := N, bk := D.nx } σ H1 else D.nx σ H1
theorem abb {c : Expr} {body : List Stmt} {tc : TT} {tb : TS} (hp : PassesOwn (model X.prog X.w) X.A X.env X.xe) (hc : PT X c tc) (hb : PSs X body tb) : PS X (.While c body [] pos) (aff tc tb) := by
 intro pins s σ H D I h
 obtain ⟨W, ⟨m0, w0⟩, turn⟩ := h
 refine wpAny_While (codeAny_whileLoop (fun n s' => ∃ σ' H', Inv X pins σ' H' s' /\ W n σ' H') ?_ m0 ⟨σ, H, I, w0⟩)
 rintro n s1 ⟨σ1, H1, I1, w1⟩
 refine wpAny_passesOwn hp (thn (hc pins s1 σ1 H1 _ I1 (turn n σ1 H1 w1)) fun b s2 ⟨H2, I2, q2⟩ => ?_)
 cases b with
 | true =>
  obtain ⟨N, hN, q2⟩ := q2
  rw [if_pos rfl]
  refine wpAny_passesOwn hp (thn (hb pins s2 σ1 H2 _ I2 q2) fun f s3 q3 => ?_)
  cases f with
  | next =>
   obtain ⟨σ3, H3, I3, n3⟩ := q3
   obtain ⟨m', hm, w3⟩ := hN σ3 H3 n3
   exact ⟨m', hm, σ3, H3, I3, w3⟩
  | cont =>
   obtain ⟨σ3, H3, I3, n3⟩ := q3
   obtain ⟨m', hm, w3⟩ := hN σ3 H3 n3
   exact ⟨m', hm, σ3, H3, I3, w3⟩
  | brk => exact q3
  | ret v => exact q3
 | false =>
  rw [if_neg aoY]
  exact wpAny_execs_nil ⟨σ1, H2, I2, q2⟩
end
structure It where
 go : Nat -> Hp -> Prop
 yld : Nat -> Hp -> V -> Hp -> Prop
 stop : Nat -> Hp -> Prop
def vT (X : Cx) (pins : List (Addr × Obj)) (H : Hp) (b : Addr) : Prop :=
 H b = none /\ b ≠ X.env.locals /\ b ∉ X.fs /\ (b ∈ X.ex \/ X.s₀.heap.objs.size <= b) /\ (∀ x c, X.env.cells.lookup x = some c -> c ≠ b) /\ ∀ p ∈ X.pn ++ pins, p.1 ≠ b
theorem Inv.fpOk {X : Cx} {pins : List (Addr × Obj)} {σ : St} {H H' : Hp} {s : Shared} {b : Addr} (I : Inv X pins σ H s) (hb : s.heap.objs.size <= b) (hn : H' b = none) : vT X pins H' b := by
 refine ⟨hn, arp (apr I.lt hb), I.nofs hb, .inr (apu I.sz hb), fun x c e z => ?_, fun p hp z => ?_⟩
 ·obtain ⟨v, q⟩ := I.cell x c e
  exact absurd (apr q.lt (by rw [z]; exact hb)) (aqx _)
 ·exact absurd (apr (apf (I.pin p hp).1) (by rw [z]; exact hb)) (aqx _)
structure Turn (P : Program) (w : World) (K : ao0) (tg : Expr) (J : It) (fp : List Addr) (it : Addr) (tn : Nat -> Heap -> Prop) : Prop where
 mem : it ∈ fp
 obj : ∀ i h, tn i h -> ∀ b ∈ fp, ∃ o, h.get? b = some o /\ ∀ v, o.data ≠ .cell v
 keep : ∀ i h h', tn i h -> (∀ b ∈ fp, ∀ o, h.get? b = some o -> h'.get? b = some o) -> tn i h'
 item : ∀ (X : Cx), X.prog = P -> X.w = w -> X.K = K -> X.calm = true -> ∀ (i : Nat) (pins : List (Addr × Obj)) (s : Shared) (σ : St) (H : Hp) (E : Value -> Shared -> Prop), Inv X pins σ H s -> (∀ b ∈ fp, vT X pins H b) -> tn i s.heap -> J.go i H ->
  wpAny (model P w) X.A (pyNext (.ref it)) (fun r s1 => ∃ u, r = some u /\
   wpAny (model P w) X.A (letOwnedTupleGo tg (.ref it) u) (fun _ s2 => ∃ x H', Inv X pins σ H' s2 /\ RelV x u /\ J.yld i H x H' /\ tn (i + 1) s2.heap /\ ∀ b ∈ fp, H' b = none) E s1) E s
 done : ∀ (X : Cx), X.prog = P -> X.w = w -> X.K = K -> X.calm = true -> ∀ (i : Nat) (pins : List (Addr × Obj)) (s : Shared) (σ : St) (H : Hp) (E : Value -> Shared -> Prop), Inv X pins σ H s -> (∀ b ∈ fp, vT X pins H b) -> tn i s.heap -> J.stop i H ->
  wpAny (model P w) X.A (pyNext (.ref it)) (fun r s1 => r = none /\ Inv X pins σ H s1) E s
 self : ∀ (A : Around) (i : Nat) (s : Shared) (Q : Value -> Shared -> Prop) (E : Value -> Shared -> Prop), tn i s.heap -> Q (.ref it) s -> wpAny (model P w) A (pyIter (.ref it)) Q E s
abbrev TI := St -> Hp -> (It -> Hp -> Prop) -> Prop
def PIE (X : Cx) (pins : List (Addr × Obj)) (σ : St) (tg : Expr) (R : It -> Hp -> Prop) (itv : Value) (s2 : Shared) : Prop :=
 ∃ (it : Addr) (fp : List Addr) (tn : Nat -> Heap -> Prop) (J : It) (H' : Hp), itv = .ref it /\ Inv X pins σ H' s2 /\ Turn X.prog X.w X.K tg J fp it tn /\ tn 0 s2.heap /\ (∀ b ∈ fp, vT X pins H' b) /\ R J H'
def PI (X : Cx) (tg iter : Expr) (wi : TI) : Prop :=
 ∀ (pins : List (Addr × Obj)) (s : Shared) (σ : St) (H : Hp) (R : It -> Hp -> Prop), Inv X pins σ H s -> wi σ H R ->
  wpAny (model X.prog X.w) X.A (eval iter X.env) (fun v s1 => wpAny (model X.prog X.w) X.A (pyIter v) (PIE X pins σ tg R) X.xe s1) X.xe s
theorem aiv {M : Model} {A : Around} {E : Value -> Shared -> Prop} {s : Shared} {tg : Expr} {it : Addr} {u : Value} {o : Obj} {n : String} {vs : Array Value} {Q : Unit -> Shared -> Prop} (ho : s.heap.get? it = some o) (hc : o.cls = .type n) (hd : o.data = .fields vs)
  (hn : ["enumerate", "zip", "dict_itemiterator", "dict_reverseitemiterator", "odict_iterator", "itertools.zip_longest", "itertools.pairwise"].contains n = false) (hQ : Q () s) : wpAny M A (letOwnedTupleGo tg (.ref it) u) Q E s := by
 unfold letOwnedTupleGo
 cases tg <;> first
  | exact wpAny_pure hQ
  | (cases u <;> first
    | exact wpAny_pure hQ
    | (refine wpAny_bind (wpAny_load ho ?_)
       rw [hc, hd]
       show wpAny M A (if (["enumerate", "zip", "dict_itemiterator", "dict_reverseitemiterator", "odict_iterator", "itertools.zip_longest", "itertools.pairwise"].contains n && vs[0]? == some (rawInt _)) = true then _ else _) Q E s
       rw [if_neg (by intro h; rw [hn, aqS] at h; cases h)]
       exact wpAny_pure hQ))
def Itl (K : ao0) (a : Addr) : It :=
 ⟨fun i H => ∃ xs x, SqL K H a xs /\ xs[i]? = some x, fun i H x H' => H' = H /\ ∀ xs, SqL K H a xs -> xs[i]? = some x, fun i H => ∃ xs, SqL K H a xs /\ xs.length <= i⟩
def Itt (K : ao0) (a : Addr) : It :=
 ⟨fun i H => ∃ xs x, SqT K H a xs /\ xs[i]? = some x, fun i H x H' => H' = H /\ ∀ xs, SqT K H a xs -> xs[i]? = some x, fun i H => ∃ xs, SqT K H a xs /\ xs.length <= i⟩
def Itr (lo : Int) (n : Nat) : It := ⟨fun i _ => i < n, fun i H x H' => H' = H /\ x = .int (lo + i), fun i _ => n <= i⟩
theorem ahl {P : Program} {w : World} {K : ao0} {tg : Expr} (a it : Addr) : Turn P w K tg (Itl K a) [it] it (fun i h => h.IsListIter it a i) where
 mem := by simp
 obj := fun i h st b hb => by
  have e : b = it := by simpa using hb
  subst e
  obtain ⟨o, e, c, d⟩ := st
  exact ⟨o, e, fun v z => by rw [d] at z; cases z⟩
 keep := fun i h h' st k => st.at fun o e => k it (by simp) o e
 item := by
  intro X hP hw hK hc i pins s σ H E I hf st hg
  subst hP hw hK
  obtain ⟨xs, x, hq, hx⟩ := hg
  obtain ⟨its, rv, p, hz⟩ := I.list hq
  obtain ⟨u, hu, ru⟩ := rv.get hx
  obtain ⟨f0, f1, f2, f3, f4, f5⟩ := hf it (by simp)
  refine wpAny_pyNext_list_item st p.isList (x := u) (by simpa using hu) fun h' st' sb => ?_
  have I1 : Inv X pins σ H { s with heap := h' } := I.turned (t' := s.toks) (fun b o hb e => (sb.2 b hb).trans e) f0 f1 f3 f4 f5
  obtain ⟨o, e, c, d⟩ := id st'
  exact ⟨u, rfl, aiv (s := { s with heap := h' }) e c d (by decide) ⟨x, H, I1, ru, ⟨rfl, fun ys hy => by rw [I.list_inj hy hq]; exact hx⟩, st', fun b hb => (hf b hb).1⟩⟩
 done := by
  intro X hP hw hK hc i pins s σ H E I hf st hg
  subst hP hw hK
  obtain ⟨xs, hq, hx⟩ := hg
  obtain ⟨its, rv, p, hz⟩ := I.list hq
  obtain ⟨f0, f1, f2, f3, f4, f5⟩ := hf it (by simp)
  have hl := rv.length
  exact wpAny_pyNext_list_end (I.ok.hd hc) st p.isList (by simp; omega) fun h' eb => ⟨rfl, I.turned (t' := s.toks) (fun b o hb e => eb b o hb e) f0 f1 f3 f4 f5⟩
 self := fun _ _ _ _ _ st h => wpAny_pyIter_listiter st h
theorem afg {P : Program} {w : World} {K : ao0} {tg : Expr} (a it : Addr) : Turn P w K tg (Itt K a) [it] it (fun i h => h.IsTupleIter it a i) where
 mem := by simp
 obj := fun i h st b hb => by
  have e : b = it := by simpa using hb
  subst e
  obtain ⟨o, e, c, d⟩ := st
  exact ⟨o, e, fun v z => by rw [d] at z; cases z⟩
 keep := fun i h h' st k => st.at fun o e => k it (by simp) o e
 item := by
  intro X hP hw hK hc i pins s σ H E I hf st hg
  subst hP hw hK
  obtain ⟨xs, x, hq, hx⟩ := hg
  obtain ⟨its, rv, p, hz⟩ := I.tuple hq
  obtain ⟨u, hu, ru⟩ := rv.get hx
  obtain ⟨f0, f1, f2, f3, f4, f5⟩ := hf it (by simp)
  refine wpAny_pyNext_tuple_item st (show s.heap.IsTuple a its.toArray from p) (x := u) (by simpa using hu) fun h' st' sb => ?_
  have I1 : Inv X pins σ H { s with heap := h' } := I.turned (t' := s.toks) (fun b o hb e => (sb.2 b hb).trans e) f0 f1 f3 f4 f5
  obtain ⟨o, e, c, d⟩ := id st'
  exact ⟨u, rfl, aiv (s := { s with heap := h' }) e c d (by decide) ⟨x, H, I1, ru, ⟨rfl, fun ys hy => by rw [I.tuple_inj hy hq]; exact hx⟩, st', fun b hb => (hf b hb).1⟩⟩
 done := by
  intro X hP hw hK hc i pins s σ H E I hf st hg
  subst hP hw hK
  obtain ⟨xs, hq, hx⟩ := hg
  obtain ⟨its, rv, p, hz⟩ := I.tuple hq
  obtain ⟨f0, f1, f2, f3, f4, f5⟩ := hf it (by simp)
  have hl := rv.length
  exact wpAny_pyNext_tuple_end (I.ok.hd hc) st (show s.heap.IsTuple a its.toArray from p) (by simp; omega) fun h' eb => ⟨rfl, I.turned (t' := s.toks) (fun b o hb e => eb b o hb e) f0 f1 f3 f4 f5⟩
 self := fun _ _ _ _ _ st h => wpAny_pyIter_tupleiter st h
theorem afh {P : Program} {w : World} {K : ao0} {tg : Expr} (it : Addr) (lo : Int) (n : Nat) : Turn P w K tg (Itr lo n) [it] it (fun i h => IsRangeIter h it (lo + (i : Nat) * 1) ((n : Int) - (i : Nat)) 1) where
 mem := by simp
 obj := fun i h st b hb => by
  have e : b = it := by simpa using hb
  subst e
  exact ⟨_, st, fun v z => by
   have z' : Data.fields _ = Data.cell v := z
   cases z'⟩
 keep := fun i h h' st k => k it (by simp) _ st
 item := by
  intro X hP hw hK hc i pins s σ H E I hf st hg
  subst hP hw hK
  obtain ⟨f0, f1, f2, f3, f4, f5⟩ := hf it (by simp)
  have W := Walks.range (prog := X.prog) (w := X.w) (I.ok.hd hc) it lo 1 n
  refine W.item i s _ _ hg st fun v h' tk hv st' kk => ?_
  obtain ⟨t, rfl⟩ := hv
  have I1 : Inv X pins σ H { s with heap := h', toks := tk } := I.turned (fun b o hb e => kk b o (by simpa using hb) e) f0 f1 f3 f4 f5
  refine ⟨_, rfl, aiv (s := { s with heap := h', toks := tk }) (n := "range_iterator") st' rfl rfl (by decide) ⟨.int (lo + i), H, I1, ⟨t, ?_⟩, ⟨rfl, rfl⟩, st', fun b hb => (hf b hb).1⟩⟩
  rw [Int.mul_one]
 done := by
  intro X hP hw hK hc i pins s σ H E I hf st hg
  subst hP hw hK
  obtain ⟨f0, f1, f2, f3, f4, f5⟩ := hf it (by simp)
  exact wpAny_pyNext_range_end (I.ok.hd hc) st (by have : n <= i := hg; omega) fun h' eb => ⟨rfl, I.turned (t' := s.toks) (fun b o hb e => eb b o hb e) f0 f1 f3 f4 f5⟩
 self := fun _ _ _ _ _ st h => wpAny_pyIter_rangeiter st h
section
variable {X : Cx} {tg : Expr}
def af7 (K : ao0) (tl : TE) : TI := fun σ H R => tl σ H fun x H1 => ∃ a, x = .ref a /\ (∃ xs, SqL K H1 a xs) /\ R (Itl K a) H1
def amD (K : ao0) (tl : TE) : TI := fun σ H R => tl σ H fun x H1 => ∃ a, x = .ref a /\ (∃ xs, SqT K H1 a xs) /\ R (Itt K a) H1
theorem akw {l : Expr} {tl : TE} (hl : PE X l tl) : PI X tg l (af7 X.K tl) := by
 intro pins s σ H R I h
 refine thn (hl pins s σ H _ I h) fun v s1 ⟨x, H1, I1, r1, q1⟩ => ?_
 obtain ⟨a, e, ⟨xs, hq⟩, q⟩ := q1
 subst e
 cases r1
 obtain ⟨its, rv, p, hz⟩ := I1.list hq
 refine wpAny_pyIter_list p.isList ?_
 refine ⟨s1.heap.objs.size, [s1.heap.objs.size], _, _, H1, rfl, I1.kept (t' := s1.toks) fun b o e => apb _ e, ahl a _, ⟨_, apA _ rfl, rfl, rfl⟩, fun b hb => ?_, q⟩
 have e : b = s1.heap.objs.size := by simpa using hb
 subst e
 exact I1.fpOk (ao5 _) (I1.hok.fresh (ao5 _))
theorem amE {l : Expr} {tl : TE} (hl : PE X l tl) : PI X tg l (amD X.K tl) := by
 intro pins s σ H R I h
 refine thn (hl pins s σ H _ I h) fun v s1 ⟨x, H1, I1, r1, q1⟩ => ?_
 obtain ⟨a, e, ⟨xs, hq⟩, q⟩ := q1
 subst e
 cases r1
 obtain ⟨its, rv, p, hz⟩ := I1.tuple hq
 refine wpAny_pyIter_tuple (show s1.heap.IsTuple a its.toArray from p) ?_
 refine ⟨s1.heap.objs.size, [s1.heap.objs.size], _, _, H1, rfl, I1.kept (t' := s1.toks) fun b o e => apb _ e, afg a _, ⟨_, apA _ rfl, rfl, rfl⟩, fun b hb => ?_, q⟩
 have e : b = s1.heap.objs.size := by simpa using hb
 subst e
 exact I1.fpOk (ao5 _) (I1.hok.fresh (ao5 _))
theorem aiw {pins : List (Addr × Obj)} {σ : St} {H : Hp} {s : Shared} {R : It -> Hp -> Prop} {E : Value -> Shared -> Prop} {lo hi : Int} {t u v : Tok} {tk : Nat} (I : Inv X pins σ H s) (h1 : -(2 ^ 62) <= lo) (h2 : lo < 2 ^ 62) (h3 : -(2 ^ 62) <= hi) (h4 : hi < 2 ^ 62)
  (q : R (Itr lo (hi - lo).toNat) H) : wpAny (model X.prog X.w) X.A (pyIter (.ref s.heap.objs.size)) (PIE X pins σ tg R) E { s with heap := s.heap.push { cls := .type "range", data := .fields #[.int lo t, .int hi u, .int 1 v] }, toks := tk } := by
 refine wpAny_pyIter_range (IsRange.new ..) (small_one h1 h2 h3 h4) ?_
 have I1 : Inv X pins σ H { s with heap := s.heap.push { cls := .type "range", data := .fields #[.int lo t, .int hi u, .int 1 v] }, toks := tk } := I.kept fun b o e => apb _ e
 refine ⟨(s.heap.push { cls := .type "range", data := .fields #[.int lo t, .int hi u, .int 1 v] }).objs.size, [(s.heap.push { cls := .type "range", data := .fields #[.int lo t, .int hi u, .int 1 v] }).objs.size], _, _, H, rfl,
  I1.kept (t' := tk) fun b o e => apb _ e, afh _ lo (hi - lo).toNat, ?_, fun b hb => ?_, q⟩
 ·have e1 : lo + ((0 : Nat) : Int) * 1 = lo := by simp
  have e2 : (((hi - lo).toNat : Nat) : Int) - ((0 : Nat) : Int) = Builtin.Range.rangeSize lo hi 1 := by rw [rangeSize_one]; split <;> omega
  show IsRangeIter _ _ (lo + ((0 : Nat) : Int) * 1) ((((hi - lo).toNat : Nat) : Int) - ((0 : Nat) : Int)) 1
  rw [e1, e2]
  exact apA _ rfl
 ·have e : b = (s.heap.push { cls := .type "range", data := .fields #[.int lo t, .int hi u, .int 1 v] }).objs.size := by simpa using hb
  subst e
  exact I1.fpOk (ao5 _) (I1.hok.fresh (ao5 _))
def af8 (ta : TA) : TI := fun σ H R => ta σ H fun vs H1 => ∃ j : Int, vs = [.int j] /\ -(2 ^ 62) <= j /\ j < 2 ^ 62 /\ R (Itr 0 j.toNat) H1
theorem yQ {a : Expr} {ta : TA} {p pos : Pos} (hg : Gl X "range") (hm : X.mg "range" = none) (ha : PA X [a] ta) (hs : starEach [a] X.env = [(false, eval a X.env)] := by rfl) : PI X tg (.Call (.Name "range" p) [a] [] pos) (af8 ta) := by
 intro pins s σ H R I h
 refine Call_ (aai I hg hm boot_range (aq1 (thn (ha pos pins s σ H _ I h) fun us s1 ⟨vs, H1, I1, r1, q1⟩ => ?_) hs rfl))
 obtain ⟨j, e, q1, q2, q⟩ := q1
 subst e
 cases r1 with
 | cons r rr =>
  cases rr
  obtain ⟨t, rfl⟩ := r
  exact call_range_1 (aiw I1 (by omega) (by omega) q1 q2 (by simpa using q))
def akx (wi : TI) (g : TG) (tb : TS) : TS := fun D σ H => wi σ H fun J H1 => ∃ W : Nat -> Nat -> St -> Hp -> Prop, (∃ m, W 0 m σ H1) /\ ∀ i m σ H, W i m σ H ->
 (J.stop i H /\ D.nx σ H) \/ (J.go i H /\ ∃ N : St -> Hp -> Prop, (∀ σ' H', N σ' H' -> ∃ m', m' < m /\ W (i + 1) m' σ' H') /\ ∀ x H', J.yld i H x H' -> g x σ H' fun σ2 H2 => tb { D with nx := N, ct := N, bk := D.nx } σ2 H2)
def abc (fp : List Addr) (h : Heap) : List (Addr × Obj) := fp.filterMap fun b => (h.get? b).map fun o => (b, o)
theorem qg {fp : List Addr} {h : Heap} {b : Addr} {o : Obj} (hb : b ∈ fp) (e : h.get? b = some o) : (b, o) ∈ abc fp h := arl.mpr ⟨b, hb, by rw [e]; rfl⟩
theorem ahm {fp : List Addr} {h : Heap} {p : Addr × Obj} (hp : p ∈ abc fp h) : p.1 ∈ fp /\ h.get? p.1 = some p.2 := by
 obtain ⟨b, hb, e⟩ := arl.mp hp
 cases q : h.get? b with
 | none => rw [q] at e; cases e
 | some o =>
  rw [q] at e
  have e' : (b, o) = p := Option.some.inj e
  subst e'
  exact ⟨hb, q⟩
theorem Inv.pinned {pins : List (Addr × Obj)} {σ : St} {H : Hp} {s : Shared} {fp : List Addr} (I : Inv X pins σ H s) (hf : ∀ b ∈ fp, vT X pins H b) (ho : ∀ b ∈ fp, ∃ o, s.heap.get? b = some o /\ ∀ v, o.data ≠ .cell v) : Inv X (pins ++ abc fp s.heap) σ H s :=
 I.pins_of fun p hp => (apj.mp hp).elim (fun z => I.pin p (api _ z)) fun z => by
  obtain ⟨hb, e⟩ := ahm z
  obtain ⟨f0, f1, f2, _⟩ := hf p.1 hb
  obtain ⟨o, e', d⟩ := ho p.1 hb
  rw [e] at e'; cases e'
  exact ⟨e, f0, f1, f2, d⟩
theorem Inv.unpinned {pins pl : List (Addr × Obj)} {σ : St} {H : Hp} {s : Shared} (I : Inv X (pins ++ pl) σ H s) : Inv X pins σ H s := I.pins_of fun p hp => I.pin p (api _ (apx _ hp))
theorem jr {iter : Expr} {body : List Stmt} {wi : TI} {g : TG} {tb : TS} {pos : Pos} (hp : PassesOwn (model X.prog X.w) X.A X.env X.xe) (hc : X.calm = true) (hi : PI X tg iter wi) (hg : PG X tg g) (hb : PSs X body tb)
  (hs : ∀ x, foldedSetIterable iter X.env x = pure x := by intro _; rfl) : PS X (.For tg iter body [] pos) (akx wi g tb) := by
 intro pins s σ H D I h
 refine wpAny_For (thn (hi pins s σ H _ I h) fun v s1 h1 => thn h1 fun itv s2 h2 => ?_) hs
 obtain ⟨it, fp, tn, J, H2, e, I2, T, st2, f2, W, ⟨m0, w0⟩, turn⟩ := h2
 subst e
 -- what stays true of the iterator's objects through the loop
 have stat : ∀ {H' : Hp}, (∀ b ∈ fp, H' b = none) -> ∀ b ∈ fp, vT X pins H' b := fun hn b hb => ⟨hn b hb, (f2 b hb).2⟩
 refine codeAny_forLoop_any (fun n s' => ∃ i σ' H', Inv X pins σ' H' s' /\ tn i s'.heap /\ (∀ b ∈ fp, H' b = none) /\ W i n σ' H') ?_ m0 ⟨0, σ, H2, I2, st2, fun b hb => (f2 b hb).1, w0⟩
 rintro n s3 ⟨i, σ3, H3, I3, st3, fr3, w3⟩
 rcases turn i n σ3 H3 w3 with ⟨stop, qn⟩ | ⟨go, N, hN, step⟩
 ·refine wpAny_passesOwn hp (thn (T.done X rfl rfl rfl hc i pins s3 σ3 H3 X.xe I3 (stat fr3) st3 stop) fun r s4 ⟨hr, I4⟩ => ?_)
  subst hr
  exact wpAny_execs_nil ⟨σ3, H3, I4, qn⟩
 ·refine wpAny_passesOwn hp (thn (T.item X rfl rfl rfl hc i pins s3 σ3 H3 X.xe I3 (stat fr3) st3 go) fun r s4 ⟨u, hr, h4⟩ => ?_)
  subst hr
  refine wpAny_passesOwn hp (thn h4 fun _ s5 ⟨x, H5, I5, r5, y5, st5, fr5⟩ => ?_)
  have I5' := I5.pinned (stat fr5) (T.obj _ _ st5)
  refine wpAny_passesOwn hp (thn (hg _ s5 σ3 H5 x u _ I5' r5 (step x H5 y5)) fun _ s6 ⟨σ6, H6, I6, q6⟩ => ?_)
  refine wpAny_passesOwn hp (thn (hb _ s6 σ6 H6 _ I6 q6) fun f s7 q7 => ?_)
  have again : ∀ {σ7 : St} {H7 : Hp}, Inv X (pins ++ abc fp s5.heap) σ7 H7 s7 -> N σ7 H7 -> ∃ m, m < n /\ ∃ i σ' H', Inv X pins σ' H' s7 /\ tn i s7.heap /\ (∀ b ∈ fp, H' b = none) /\ W i m σ' H' := fun {σ7 H7} I7 n7 => by
   obtain ⟨m', hm, w7⟩ := hN σ7 H7 n7
   refine ⟨m', hm, i + 1, σ7, H7, I7.unpinned, T.keep _ _ _ st5 fun b hb o e => (I7.pin (b, o) (api _ (api _ (qg hb e)))).1, fun b hb => ?_, w7⟩
   obtain ⟨o, e, d⟩ := T.obj _ _ st5 b hb
   exact (I7.pin (b, o) (api _ (api _ (qg hb e)))).2.1
  cases f with
  | next => obtain ⟨σ7, H7, I7, n7⟩ := q7; exact again I7 n7
  | cont => obtain ⟨σ7, H7, I7, n7⟩ := q7; exact again I7 n7
  | brk => obtain ⟨σ7, H7, I7, q7⟩ := q7; exact ⟨σ7, H7, I7.unpinned, q7⟩
  | ret v => obtain ⟨x7, σ7, H7, I7, r7, q7⟩ := q7; exact ⟨x7, σ7, H7, I7.unpinned, r7, q7⟩
end
abbrev R2 := V -> V -> Hp -> VK -> Prop
def OpR (X : Cx) (f : Value -> Value -> Sem Value) (r : R2) : Prop :=
 ∀ (pins : List (Addr × Obj)) (s : Shared) (σ : St) (H : Hp) (x y : V) (v u : Value) (Q : VK), Inv X pins σ H s -> RelV x v -> RelV y u -> r x y H Q ->
  wpAny (model X.prog X.w) X.A (f v u) (EP X pins σ Q) X.xe s
def UnR (X : Cx) (f : Value -> Sem Value) (r : V -> Hp -> VK -> Prop) : Prop :=
 ∀ (pins : List (Addr × Obj)) (s : Shared) (σ : St) (H : Hp) (x : V) (v : Value) (Q : VK), Inv X pins σ H s -> RelV x v -> r x H Q ->
  wpAny (model X.prog X.w) X.A (f v) (EP X pins σ Q) X.xe s
def yn (X : Cx) (f : Value) (r : List V -> Hp -> VK -> Prop) : Prop :=
 ∀ (pins : List (Addr × Obj)) (s : Shared) (σ : St) (H : Hp) (xs : List V) (us : List Value) (Q : VK), Inv X pins σ H s -> Vals xs us -> r xs H Q ->
  wpAny (model X.prog X.w) X.A (call f us) (EP X pins σ Q) X.xe s
def aoP (X : Cx) (r : V -> Hp -> (Bool -> Hp -> Prop) -> Prop) : Prop :=
 ∀ (pins : List (Addr × Obj)) (s : Shared) (σ : St) (H : Hp) (x : V) (v : Value) (Q : Bool -> Hp -> Prop), Inv X pins σ H s -> RelV x v -> r x H Q ->
  wpAny (model X.prog X.w) X.A (truthy v) (TP X pins σ Q) X.xe s
def tOp (r : R2) (ta tb : TE) : TE := fun σ H Q => ta σ H fun x H1 => tb σ H1 fun y H2 => r x y H2 Q
def tUn (r : V -> Hp -> VK -> Prop) (ta : TE) : TE := fun σ H Q => ta σ H fun x H1 => r x H1 Q
def rI (C : Int -> Int -> Prop) (g : Int -> Int -> V) : R2 := fun x y H Q => ∃ i j, x = .int i /\ y = .int j /\ C i j /\ Q (g i j) H
def rI0 (g : Int -> Int -> V) : R2 := fun x y H Q => ∃ i j, x = .int i /\ y = .int j /\ Q (g i j) H
def rU (g : Int -> V) : V -> Hp -> VK -> Prop := fun x H Q => ∃ i, x = .int i /\ Q (g i) H
section
variable {X : Cx} {a b c : Expr} {ta tb tc : TE} {pos : Pos}
theorem amF (ha : PE X a ta) (hb : PE X b tb) {pins : List (Addr × Obj)} {s : Shared} {σ : St} {H : Hp} {R : V -> V -> Hp -> Prop} (I : Inv X pins σ H s)
  (h : ta σ H fun x H1 => tb σ H1 fun y H2 => R x y H2) {Q : Value -> Shared -> Prop} {f : Value -> Value -> Sem Value}
  (hf : ∀ v u s2 x y H2, Inv X pins σ H2 s2 -> RelV x v -> RelV y u -> R x y H2 -> wpAny (model X.prog X.w) X.A (f v u) Q X.xe s2) :
  wpAny (model X.prog X.w) X.A (eval a X.env) (fun v s₁ => wpAny (model X.prog X.w) X.A (eval b X.env) (fun u s₂ => wpAny (model X.prog X.w) X.A (f v u) Q X.xe s₂) X.xe s₁) X.xe s := by
 refine thn (ha pins s σ H _ I h) fun v s1 ⟨x, H1, I1, r1, q1⟩ => ?_
 refine thn (hb pins s1 σ H1 _ I1 q1) fun u s2 ⟨y, H2, I2, r2, q2⟩ => ?_
 exact hf v u s2 x y H2 I2 r1 r2 q2
theorem zq {op : Operator} {r : R2} (ho : OpR X (binaryOp op) r) (ha : PE X a ta) (hb : PE X b tb) : PE X (.BinOp a op b pos) (tOp r ta tb) := by
 intro pins s σ H Q I h
 exact wpAny_BinOp (amF ha hb I h fun v u s2 x y H2 I2 rx ry q => ho pins s2 σ H2 x y v u Q I2 rx ry q)
theorem aof {op : UnaryOp} {r : V -> Hp -> VK -> Prop} (ho : UnR X (unaryOp op) r) (ha : PE X a ta) : PE X (.UnaryOp op a pos) (tUn r ta) := by
 intro pins s σ H Q I h
 exact UnaryOp_ (thn (ha pins s σ H _ I h) fun v s1 ⟨x, H1, I1, r1, q1⟩ => ho pins s1 σ H1 x v Q I1 r1 q1)
theorem opI {f : Value -> Value -> Sem Value} {C : Int -> Int -> Prop} {g : Int -> Int -> Int}
  (rule : ∀ (i j : Int) (t u : Tok) (s : Shared) (Q : Value -> Shared -> Prop) (E : Value -> Shared -> Prop), C i j -> Q (.int (g i j) s.toks) { s with toks := s.toks + 1 } -> wpAny (model X.prog X.w) X.A (f (.int i t) (.int j u)) Q E s) :
  OpR X f (rI C fun i j => .int (g i j)) := by
 intro pins s σ H x y v u Q I rx ry h
 obtain ⟨i, j, rfl, rfl, hc, q⟩ := h
 obtain ⟨t, rfl⟩ := rx
 obtain ⟨t', rfl⟩ := ry
 exact rule i j t t' s _ _ hc ⟨.int (g i j), H, I.tok _, ⟨_, rfl⟩, q⟩
theorem aog {f : Value -> Value -> Sem Value} {g : Int -> Int -> Int}
  (rule : ∀ (i j : Int) (t u : Tok) (s : Shared) (Q : Value -> Shared -> Prop) (E : Value -> Shared -> Prop), Q (.int (g i j) s.toks) { s with toks := s.toks + 1 } -> wpAny (model X.prog X.w) X.A (f (.int i t) (.int j u)) Q E s) :
  OpR X f (rI0 fun i j => .int (g i j)) := by
 intro pins s σ H x y v u Q I rx ry h
 obtain ⟨i, j, rfl, rfl, q⟩ := h
 obtain ⟨t, rfl⟩ := rx
 obtain ⟨t', rfl⟩ := ry
 exact rule i j t t' s _ _ ⟨.int (g i j), H, I.tok _, ⟨_, rfl⟩, q⟩
theorem aky {f : Value -> Value -> Sem Value} {g : Int -> Int -> Bool}
  (rule : ∀ (i j : Int) (t u : Tok) (s : Shared) (Q : Value -> Shared -> Prop) (E : Value -> Shared -> Prop), Q (.bool (g i j)) s -> wpAny (model X.prog X.w) X.A (f (.int i t) (.int j u)) Q E s) :
  OpR X f (rI0 fun i j => .bl (g i j)) := by
 intro pins s σ H x y v u Q I rx ry h
 obtain ⟨i, j, rfl, rfl, q⟩ := h
 obtain ⟨t, rfl⟩ := rx
 obtain ⟨t', rfl⟩ := ry
 exact rule i j t t' s _ _ ⟨.bl (g i j), H, I, rfl, q⟩
def aoQ (i j : Int) : Prop := 0 <= j /\ j <= 1000000 /\ i.natAbs < 2 ^ 64
def CMul (i j : Int) : Prop := (-(2 ^ 64) < i /\ i < 2 ^ 64) \/ (-(2 ^ 64) < j /\ j < 2 ^ 64)
theorem CMul.ok {i j : Int} (h : CMul i j) : IntMulOk i j := by
 rcases h with ⟨h1, h2⟩ | ⟨h1, h2⟩
 ·exact .of_left (intBits_le_64 h1 h2)
 ·exact .of_right (intBits_le_64 h1 h2)
theorem zQ : OpR X (binaryOp .Add) (rI0 fun i j => .int (i + j)) := aog fun _ _ _ _ _ _ _ q => add_int q
theorem ym : OpR X (binaryOp .Sub) (rI0 fun i j => .int (i - j)) := aog fun _ _ _ _ _ _ _ q => sub_int q
theorem vC : OpR X (binaryOp .Mult) (rI CMul fun i j => .int (i * j)) := opI fun _ _ _ _ _ _ _ hc q => mul_int q hc.ok
theorem vD : OpR X (binaryOp .Mod) (rI (fun _ j => 0 < j) fun i j => .int (i % j)) := opI fun i j _ _ _ _ _ hc q => by
 have h1 : (0 : Int) < j := hc
 exact mod_int' (by omega) (by rw [Int.fmod_eq_emod_of_nonneg i (by omega)]; exact q)
theorem aak : OpR X (binaryOp .Pow) (rI aoQ fun i j => .int (i ^ j.toNat)) := opI fun _ _ _ _ _ _ _ hc q => pow_int_small hc.1 hc.2.1 hc.2.2 q
theorem unI {f : Value -> Sem Value} {g : Int -> Int}
  (rule : ∀ (i : Int) (t : Tok) (s : Shared) (Q : Value -> Shared -> Prop) (E : Value -> Shared -> Prop), Q (.int (g i) s.toks) { s with toks := s.toks + 1 } -> wpAny (model X.prog X.w) X.A (f (.int i t)) Q E s) :
  UnR X f (rU fun i => .int (g i)) := by
 intro pins s σ H x v Q I rx h
 obtain ⟨i, rfl, q⟩ := h
 obtain ⟨t, rfl⟩ := rx
 exact rule i t s _ _ ⟨.int (g i), H, I.tok _, ⟨_, rfl⟩, q⟩
theorem amG : UnR X (unaryOp .USub) (rU fun i => .int (-i)) := unI fun _ _ _ _ _ q => neg_int q
end
section
variable {X : Cx} {a b c : Expr} {ta tb tc : TE} {pos : Pos}
theorem aix {pins : List (Addr × Obj)} {σ : St} {H : Hp} {s : Shared} {Q : VK} {k k' : Bool} (I : Inv X pins σ H s) (q : Q (.bl k) H) (e : k = k') : EP X pins σ Q (.bool k') s := by
 subst e
 exact ⟨.bl k, H, I, rfl, q⟩
theorem adX : OpR X (compareOp .Lt) (rI0 fun i j => .bl (decide (i < j))) := aky fun _ _ _ _ _ _ _ q => lt_int q
theorem ab9 : OpR X (compareOp .LtE) (rI0 fun i j => .bl (decide (i <= j))) := aky fun _ _ _ _ _ _ _ q => le_int q
theorem adY : OpR X (compareOp .Gt) (rI0 fun i j => .bl (decide (j < i))) := aky fun _ _ _ _ _ _ _ q => gt_int q
theorem al3 : OpR X (compareOp .GtE) (rI0 fun i j => .bl (decide (j <= i))) := aky fun _ _ _ _ _ _ _ q => ge_int q
theorem amH : OpR X (compareOp .Is) (fun x y H Q => y = .non /\ Q (.bl (decide (x = .non))) H) := by
 intro pins s σ H x y v u Q I rx ry h
 obtain ⟨rfl, q⟩ := h
 cases ry
 refine is_none_gen (aix I q ?_)
 cases x <;> first
  | (cases rx; rfl)
  | (obtain ⟨t, rfl⟩ := rx; rfl)
theorem akz : OpR X (compareOp .IsNot) (fun x y H Q => y = .non /\ Q (.bl (!decide (x = .non))) H) := by
 intro pins s σ H x y v u Q I rx ry h
 obtain ⟨rfl, q⟩ := h
 cases ry
 refine isnot_none_gen (aix I q ?_)
 cases x <;> first
  | (cases rx; rfl)
  | (obtain ⟨t, rfl⟩ := rx; rfl)
theorem zR (b : Expr) {op : CmpOp} (h : op ≠ .In := by decide) (h2 : op ≠ .NotIn := by decide) : behindInMarks op b = false := by
 have e1 : (op == CmpOp.In) = false := by cases op <;> first | rfl | exact absurd rfl h
 have e2 : (op == CmpOp.NotIn) = false := by cases op <;> first | rfl | exact absurd rfl h2
 cases b <;> simp [behindInMarks, e1, e2]
theorem qh {op : CmpOp} {r : R2} (ho : OpR X (compareOp op) r) (ha : PE X a ta) (hb : PE X b tb) (hm : behindInMarks op b = false) : PE X (.Compare a [op] [b] pos) (tOp r ta tb) := by
 intro pins s σ H Q I h
 exact wpAny_Compare1 (amF ha hb I h fun v u s2 x y H2 I2 rx ry q => ho pins s2 σ H2 x y v u Q I2 rx ry q) hm
def adZ (t : TE) : TT := fun σ H Q => t σ H fun x H' => ∃ k, x = .bl k /\ Q k H'
theorem zL {op : CmpOp} {r : R2} (ho : OpR X (compareOp op) r) (ha : PE X a ta) (hb : PE X b tb) (hm : behindInMarks op b = false) : PT X (.Compare a [op] [b] pos) (adZ (tOp r ta tb)) := by
 intro pins s σ H Q I h
 refine wpAny_isTrue_Compare1 (thn (ha pins s σ H _ I h) fun v s1 ⟨x, H1, I1, r1, q1⟩ => thn (hb pins s1 σ H1 _ I1 q1) fun u s2 ⟨y, H2, I2, r2, q2⟩ =>
  thn (ho pins s2 σ H2 x y v u _ I2 r1 r2 q2) fun c s3 ⟨z, H3, I3, r3, k, e, q3⟩ => ?_) hm
 subst e
 cases r3
 exact wpAny_truthy_bool ⟨H3, I3, q3⟩
def aiy (r r' : R2) (ta tb tc : TE) : TE := fun σ H Q => ta σ H fun x H1 => tb σ H1 fun y H2 => r x y H2 fun z H3 => ∃ k, z = .bl k /\
 (if k = true then tc σ H3 fun w' H4 => r' y w' H4 Q else Q (.bl false) H3)
theorem abd {op op' : CmpOp} {r r' : R2} (ho : OpR X (compareOp op) r) (ho' : OpR X (compareOp op') r') (ha : PE X a ta) (hb : PE X b tb) (hc : PE X c tc)
  (hm : lastMarks [op, op'] [b, c] = false := by with_unfolding_all rfl) : PE X (.Compare a [op, op'] [b, c] pos) (aiy r r' ta tb tc) := by
 intro pins s σ H Q I h
 refine Compare_chain (thn (ha pins s σ H _ I h) fun v s1 ⟨x, H1, I1, r1, q1⟩ => chain_link (thn (hb pins s1 σ H1 _ I1 q1) fun u s2 ⟨y, H2, I2, r2, q2⟩ =>
  thn (ho pins s2 σ H2 x y v u _ I2 r1 r2 q2) fun d s3 ⟨z, H3, I3, r3, k, e, q3⟩ => ?_)) hm
 subst e
 cases r3
 refine wpAny_truthy_bool ?_
 cases k with
 | false => exact ite_ff ⟨.bl false, H3, I3, rfl, q3⟩
 | true => exact ite_tt (chain_last (thn (hc pins s3 σ H3 _ I3 q3) fun w' s4 ⟨z', H4, I4, r4, q4⟩ => ho' pins s4 σ H4 y z' u w' Q I4 r2 r4 q4))
def amI (K : ao0) (x : V) (H : Hp) (k : Bool) : Prop :=
 match x with
 | .non => k = false
 | .bl b => k = b
 | .int i => k = (i != 0)
 | .str y => y.length <= sizeLine /\ k = ((y.length : Int) != 0)
 | .byt y => y.size <= sizeLine /\ k = ((y.size : Int) != 0)
 | .ref p => (∃ xs, SqL K H p xs /\ k = !xs.isEmpty) \/ (∃ xs, SqT K H p xs /\ k = !xs.isEmpty) \/ ∃ kvs, H p = some (.dK kvs) /\ k = !kvs.isEmpty
 | _ => False
theorem afi {κ : Type} {kvs : List (κ × V)} {vs : List (κ × Value)} (r : KV kvs vs) : (!vs.isEmpty) = !kvs.isEmpty := by
 cases r <;> rfl
theorem abe {xs : List V} {its : List Value} (r : Vals xs its) : (!its.toArray.isEmpty) = !xs.isEmpty := by
 cases r <;> simp
theorem abf : (sizeLine : Nat) < 2 ^ 63 := by rw [sizeLine_eq]; decide
theorem amJ : aoP X (fun x H Q => ∃ k, amI X.K x H k /\ Q k H) := by
 intro pins s σ H x v Q I rx h
 obtain ⟨k, e, q⟩ := h
 have hl := abf
 have hs : sizeLine = 16777216 := sizeLine_eq
 cases x with
 | non =>
  cases rx
  have e' : k = false := e
  subst e'
  exact truthy_none ⟨H, I, q⟩
 | bl b =>
  cases rx
  have e' : k = b := e
  subst e'
  exact wpAny_truthy_bool ⟨H, I, q⟩
 | int i =>
  obtain ⟨t, rfl⟩ := rx
  have e' : k = (i != 0) := e
  subst e'
  exact PySem.P.truthy_int ⟨H, I, q⟩
 | str y =>
  obtain ⟨t, rfl⟩ := rx
  obtain ⟨hy, e'⟩ : y.length <= sizeLine /\ k = ((y.length : Int) != 0) := e
  subst e'
  exact PySem.P.truthy_str (by omega) ⟨H, I.tok _, q⟩
 | byt y =>
  obtain ⟨t, rfl⟩ := rx
  obtain ⟨hy, e'⟩ : y.size <= sizeLine /\ k = ((y.size : Int) != 0) := e
  subst e'
  exact PySem.W.truthy_bytes (by omega) ⟨H, I.tok _, q⟩
 | ref p =>
  cases rx
  have e' : (∃ xs, SqL X.K H p xs /\ k = !xs.isEmpty) \/ (∃ xs, SqT X.K H p xs /\ k = !xs.isEmpty) \/ ∃ kvs, H p = some (.dK kvs) /\ k = !kvs.isEmpty := e
  rcases e' with ⟨xs, hx, e'⟩ | ⟨xs, hx, e'⟩ | ⟨kvs, hx, e'⟩
  ·subst e'
   obtain ⟨its, r, pl, hz⟩ := I.list hx
   have hlen := r.length
   exact wpAny_truthy_list pl.isList (by simp only [apk]; omega) ⟨H, I.tok _, by rw [abe r]; exact q⟩
  ·subst e'
   obtain ⟨its, r, pl, hz⟩ := I.tuple hx
   have hlen := r.length
   exact truthy_tuple pl (by simp only [apk]; omega) ⟨H, I.tok _, by rw [abe r]; exact q⟩
  ·subst e'
   obtain ⟨hz, hS, vs, r, m⟩ : kvs.length <= sizeLine /\ (p == sysModules) = false /\ ∃ vs, KV kvs vs /\ s.heap.DictOf (acL X.prog X.w) p vs := I.hok p _ hx
   have hlen : kvs.length = vs.length := Paired.length r
   exact wpAny_truthy_dict hS m (by omega) ⟨H, I.tok _, by rw [afi r]; exact q⟩
 | _ => exact (show False from e).elim
theorem aiz (ha : PE X a ta) (he : ∀ whole, isTrue a X.env whole = (do let v <- whole; standAt a.pos; holding [v] (truthy v))) :
  PT X a (fun σ H Q => ta σ H fun x H' => ∃ k, amI X.K x H' k /\ Q k H') := by
 intro pins s σ H Q I h
 exact isTrue_plain (thn (ha pins s σ H _ I h) fun v s1 ⟨x, H1, I1, r1, q1⟩ => amJ pins s1 σ H1 x v Q I1 r1 q1) (he _)
theorem vals1 {x : V} {us : List Value} (r : Vals [x] us) : ∃ u, us = [u] /\ RelV x u := by
 cases r with
 | cons r1 r2 => cases r2; exact ⟨_, rfl, r1⟩
theorem vals2 {x y : V} {us : List Value} (r : Vals [x, y] us) : ∃ u w', us = [u, w'] /\ RelV x u /\ RelV y w' := by
 cases r with
 | cons r1 r2 =>
  cases r2 with
  | cons r3 r4 => cases r4; exact ⟨_, _, rfl, r1, r3⟩
theorem abg : yn X (.builtin "abs") (fun xs H Q => ∃ i, xs = [.int i] /\ Q (.int (if i < 0 then -i else i)) H) := by
 intro pins s σ H xs us Q I r h
 obtain ⟨i, rfl, q⟩ := h
 obtain ⟨u, rfl, t, rfl⟩ := vals1 r
 exact call_abs_int fun u tk => ⟨.int (if i < 0 then -i else i), H, I.tok _, ⟨_, rfl⟩, q⟩
theorem ahn (hc : X.calm = true) : yn X (.builtin "max") (fun xs H Q => ∃ i j, xs = [.int i, .int j] /\ Q (.int (if j > i then j else i)) H) := by
 intro pins s σ H xs us Q I r h
 obtain ⟨i, j, rfl, q⟩ := h
 obtain ⟨u, w', rfl, ⟨t, rfl⟩, ⟨t', rfl⟩⟩ := vals2 r
 refine max_two_ints (I.ok.hd hc) fun h' tk k => ⟨_, H, I.kept k, ?_, q⟩
 by_cases hj : j > i
 ·rw [if_pos hj, if_pos hj]; exact ⟨_, rfl⟩
 ·rw [if_neg hj, if_neg hj]; exact ⟨_, rfl⟩
theorem aca (hc : X.calm = true) : yn X (.builtin "min") (fun xs H Q => ∃ i j, xs = [.int i, .int j] /\ Q (.int (if j < i then j else i)) H) := by
 intro pins s σ H xs us Q I r h
 obtain ⟨i, j, rfl, q⟩ := h
 obtain ⟨u, w', rfl, ⟨t, rfl⟩, ⟨t', rfl⟩⟩ := vals2 r
 refine min_two_ints (I.ok.hd hc) fun h' tk k => ⟨_, H, I.kept k, ?_, q⟩
 by_cases hj : j < i
 ·rw [if_pos hj, if_pos hj]; exact ⟨_, rfl⟩
 ·rw [if_neg hj, if_neg hj]; exact ⟨_, rfl⟩
theorem aho : yn X (.type "int") (fun xs H Q => (∃ i, xs = [.int i] /\ Q (.int i) H) \/ ∃ k, xs = [.bl k] /\ Q (.int (if k then 1 else 0)) H) := by
 intro pins s σ H xs us Q I r h
 rcases h with ⟨i, rfl, q⟩ | ⟨k, rfl, q⟩
 ·obtain ⟨u, rfl, t, rfl⟩ := vals1 r
  exact call_int_int ⟨.int i, H, I, ⟨_, rfl⟩, q⟩
 ·obtain ⟨u, rfl, r1⟩ := vals1 r
  cases r1
  exact call_int_bool ⟨.int (if k then 1 else 0), H, I.tok _, ⟨_, rfl⟩, q⟩
end
structure ObjM (h : Heap) (x dx C : Addr) (mA : Str -> Option Value) : Prop where
 obj : h.get? x = some (PySem.W.instObj C dx)
 ns : h.Ns1 dx mA
 ne : dx ≠ x
section
variable {prog : Program} {w : World} {A : Around} {E : Value -> Shared -> Prop} {s : Shared} {K : ao0} {x dx C f : Addr} {mA : Str -> Option Value} {name : Str} {v : Value}
end
structure Cls (K : ao0) (C : Addr) : Prop where
 pg : PySem.W.plainGet K C Str.empty = true
 hd : PySem.W.hasDictIn K C = true
 po : PySem.W.plainOver K C = true
 sa : aqc K (.ref C) "__setattr__" = some (some (.builtin "object.__setattr__"))
structure Con (K : ao0) (C : Addr) (f : Str) (v : V) (u : Value) : Prop where
 at_ : aqc K (.ref C) f = some (some u)
 rel : RelV v u
 get : arq K u "__get__" = some none
 cp : PySem.W.copiedNames.contains f = false
structure Meth (K : ao0) (C : Addr) (m : Str) (f : Addr) : Prop where
 at_ : aqc K (.ref C) m = some (some (.ref f))
 fn : PySem.W.isFn K (.ref f) = true
 kp : apW K (.ref f) = true
section
variable {X : Cx} {pins : List (Addr × Obj)} {σ : St} {H : Hp} {s : Shared} {a C dx : Addr} {fs : List (Str × V)} {f : Str} {v : V} {A : Around} {E : Value -> Shared -> Prop}
end
section
variable {X : Cx} {pins : List (Addr × Obj)} {σ : St} {H : Hp} {s : Shared} {A : Around} {E : Value -> Shared -> Prop} {Q : Value -> Shared -> Prop} {c : Value} {b : Bool}
inductive TyOf (K : ao0) (H : Hp) : V -> Value -> Prop where
 | non : TyOf K H .non (.type "NoneType")
 | bl (x : Bool) : TyOf K H (.bl x) (.type "bool")
 | int (i : Int) : TyOf K H (.int i) (.type "int")
 | str (x : Str) : TyOf K H (.str x) (.type "str")
 | flt (x : UInt64) : TyOf K H (.flt x) (.type "float")
 | lst {a : Addr} {xs : List V} (e : H a = some (.lst xs)) : TyOf K H (.ref a) (.type "list")
 | frz {a : Addr} {o : Obj} {xs : List V} (e : H a = some (.frz o (.lst xs))) : TyOf K H (.ref a) (.type "list")
 | tup {a : Addr} {xs : List V} (e : H a = some (.tup xs)) : TyOf K H (.ref a) (.type "tuple")
 | dK {a : Addr} {kvs : List (Key × V)} (e : H a = some (.dK kvs)) : TyOf K H (.ref a) (.type "dict")
 | dT {a : Addr} {kvs : List (List Key × V)} (e : H a = some (.dT kvs)) : TyOf K H (.ref a) (.type "dict")
 | ins {a C dx : Addr} {fs : List (Str × V)} (e : H a = some (.ins C dx fs)) (cl : Cls K C) (ha : aqc K (.ref C) "__class__" = some (some (.builtin "object.__class__")))
   (hn : arq K (.builtin "object.__class__") "__get__" = some (some (.builtin "getset_descriptor.__get__"))) (htk : PySem.W.takesIn K (.builtin "object.__class__") = some true)
   (hm : asi K C (.type "object") = some true) : TyOf K H (.ref a) (.ref C)
end
structure Room (k : Nat) (A : Around) : Prop where
 hd : A.handled = none
 dp : A.depth + 3 * k + 5 < recursionLimit
 un : A.units + 16 * k + 200 < cLine
theorem Room.mono {j k : Nat} {A : Around} (r : Room k A) (h : j <= k) : Room j A := ⟨r.hd, by have := r.dp; omega, by have := r.un; omega⟩
theorem Room.deeper {k : Nat} {A : Around} (r : Room (k + 1) A) (env : Env) : Room k (A.deeper env) :=
 ⟨r.hd, by have := r.dp; show A.depth + 1 + 3 * k + 5 < _; omega, by have := r.un; show A.units + 3 + 16 * k + 200 < _; omega⟩
theorem Room.depth {k : Nat} {A : Around} (r : Room k A) : A.depth < recursionLimit := by have := r.dp; omega
theorem Room.units {k : Nat} {A : Around} (r : Room k A) : A.units + 64 < cLine := by have := r.un; omega
def jS : TA := fun _ H Q => Q [] H
def yd (ta : TE) (tr : TA) : TA := fun σ H Q => ta σ H fun x H1 => tr σ H1 fun xs H2 => Q (x :: xs) H2
section
variable {X : Cx} {e : Expr} {es : List Expr} {te : TE} {t : TA} {pos : Pos}
theorem zb : PA X [] jS := fun _ _ _ _ H Q I h => Calls.spliced_nil ⟨[], H, I, .nil, h⟩
theorem za (ha : PE X e te) (hr : PA X es t) (hs : starEach (e :: es) X.env = (false, eval e X.env) :: starEach es X.env := by rfl) : PA X (e :: es) (yd te t) := by
 intro pos pins s σ H Q I h
 rw [hs]
 show wpAny _ _ (spliced ((false, eval e X.env) :: backTo pos (starEach es X.env))) _ _ s
 refine Calls.spliced_cons (thn (ha pins s σ H _ I h) fun u s1 ⟨x, H1, I1, r1, q1⟩ => ?_)
 exact thn (hr pos pins s1 σ H1 _ I1 q1) fun us s2 ⟨xs, H2, I2, r2, q2⟩ => ⟨x :: xs, H2, I2, .cons r1 r2, q2⟩
def aoh (t : TA) : TE := fun σ H Q => t σ H fun xs H1 => xs.length <= sizeLine /\ ∀ p, H1 p = none -> Q (.ref p) (upd H1 p (.tup xs))
def afj (t : TA) : TE := fun σ H Q => t σ H fun xs H1 => xs.length <= sizeLine /\ ∀ p, H1 p = none -> Q (.ref p) (upd H1 p (.lst xs))
theorem zz {x1} (h : PA X es t) : PE X (.Tuple es x1 pos) (aoh t) := by
 intro pins s σ H Q I hq
 refine wpAny_Tuple_spliced (thn (h pos pins s σ H _ I hq) fun us s1 ⟨xs, H1, I1, r, z, q⟩ => ⟨by rw [<- r.length]; exact z, ?_⟩)
 have hf : H1 s1.heap.objs.size = none := I1.hok.fresh (ao5 _)
 refine ⟨.ref s1.heap.objs.size, upd H1 s1.heap.objs.size (.tup xs), I1.laid (t' := s1.toks) (fun b u e => apb _ e) (ao5 _) ?_, rfl, q _ hf⟩
 exact ⟨z, us, r, ⟨_, apA _ rfl, rfl, _, rfl⟩⟩
theorem zV (h : PA X es t) : PE X (.List es pos) (afj t) := by
 intro pins s σ H Q I hq
 refine wpAny_List_spliced (thn (h pos pins s σ H _ I hq) fun us s1 ⟨xs, H1, I1, r, z, q⟩ => ⟨by rw [<- r.length]; exact z, ?_⟩)
 have hf : H1 s1.heap.objs.size = none := I1.hok.fresh (ao5 _)
 refine ⟨.ref s1.heap.objs.size, upd H1 s1.heap.objs.size (.lst xs), I1.laid (t' := s1.toks) (fun b u e => apb _ e) (ao5 _) ?_, rfl, q _ hf⟩
 exact ⟨z, us, 0, r, apA _ rfl⟩
end
abbrev Sp := List V -> Hp -> VK -> XK -> Prop
abbrev CXT := List Env -> Hp -> Shared -> XK -> Value -> Shared -> Prop
structure Env0 (P : Program) (w : World) (K : ao0) (mg : Str -> Option Value) (base : Heap) (A : Around) (outer : List Env) (s : Shared) (H : Hp) : Prop where
 frames : A.frames = some outer
 mod : Mod K mg base
 bs : ∀ b o, base.get? b = some o -> s.heap.get? b = some o /\ H b = none
 bsz : base.objs.size <= s.heap.objs.size
 funs : s.heap.FunFrames base outer
 frf : ∀ b ∈ frs outer, H b = none
 hok : HOk P w H s.heap
 bare : AllBare s.gens
def CE (outer : List Env) (P : Program) (w : World) (H : Hp) (s : Shared) (Q : VK) (u : Value) (s' : Shared) : Prop :=
 ∃ v H', s'.os = s.os /\ AllBare s'.gens /\ Un (frs outer) [] H H' s.heap s'.heap /\ HOk P w H' s'.heap /\ RelV v u /\ Q v H'
def CR (CX : CXT) (outer : List Env) (P : Program) (w : World) (H : Hp) (s : Shared) (Q : VK) (E : XK) (r : Result) (s' : Shared) : Prop :=
 match r with
 | .ok (.ret u) => CE outer P w H s Q u s'
 | .ok _ => False
 | .error e => CX outer H s E e s'
structure FnOk (P : Program) (w : World) (K : ao0) (mg : Str -> Option Value) (base : Heap) (CX : CXT) (k : Nat) (f : Addr) (fd : FuncData) (ps : List Str) (sp : Sp) : Prop where
 len : ∀ vs H Q E, sp vs H Q E -> vs.length = ps.length
 run : ∀ (A : Around) (outer : List Env) (s : Shared) (H : Hp) (args : Args) (us : List Value) (vs : List V) (Q : VK) (E : XK), Room k A -> Env0 P w K mg base A outer s H -> BindsTo s fd args (ps.zip us) -> Vals vs us -> sp vs H Q E ->
  codeAny (model P w) A (.call (.ref f) args) (CR CX outer P w H s Q E) s
theorem FnOk.mono {P : Program} {w : World} {K : ao0} {mg : Str -> Option Value} {base : Heap} {CX : CXT} {j k : Nat} {f : Addr} {fd : FuncData} {ps : List Str} {sp : Sp} (F : FnOk P w K mg base CX j f fd ps sp) (h : j <= k) :
  FnOk P w K mg base CX k f fd ps sp := ⟨F.len, fun A outer s H args us vs Q E hr => F.run A outer s H args us vs Q E (hr.mono h)⟩
section
variable {X : Cx} {pins : List (Addr × Obj)} {σ : St} {H : Hp} {s s' : Shared}
theorem Inv.env0 (I : Inv X pins σ H s) : Env0 X.prog X.w X.K X.mg X.base X.A X.stack s H :=
 ⟨I.ok.frames, I.ok.mod, I.bs, apu I.ok.bsz I.sz, I.stack, I.stkFree, I.hok, I.bare⟩
theorem Inv.after {Q : VK} {u : Value} (I : Inv X pins σ H s) (h : CE X.stack X.prog X.w H s Q u s') : EP X pins σ Q u s' := by
 obtain ⟨v, H', os, bare, un, hok, r, q⟩ := h
 obtain ⟨hh, g, d, t, os'⟩ := s'
 obtain rfl : os' = s.os := os
 exact ⟨v, H', I.call (h' := hh) (g' := g) (d' := d) (t' := t) (ch := []) un hok bare (fun b z => absurd z (by simp)), r, q⟩
end
def vn (sp : Sp) (dvs : List V) (E : XK) (t : TA) : TE := fun σ H Q => t σ H fun vs H1 => sp (vs ++ dvs) H1 Q E
def Binds (K : ao0) (fd : FuncData) (ps : List Str) (ds : List Value) : Prop :=
 ∀ (s : Shared) (us : List Value), K.In s.heap -> (us ++ ds).length = ps.length -> BindsTo s fd ⟨us, []⟩ (ps.zip (us ++ ds))
theorem Binds.all {K : ao0} {fd : FuncData} {ps : List Str} (h : ∀ us : List Value, us.length = ps.length -> bindArgs fd ⟨us, []⟩ = pure (ps.zip us)) : Binds K fd ps [] := fun s us _ hl => by
 rw [apC] at hl ⊢
 exact .of_eq (h us hl)
def Passes (CX : CXT) (X : Cx) (E : XK) : Prop := ∀ (pins : List (Addr × Obj)) (σ : St) (H : Hp) (s : Shared) (e : Value) (s' : Shared), Inv X pins σ H s -> CX X.stack H s E e s' -> X.xe e s'
section
variable {X : Cx} {CX : CXT} {k : Nat} {f C : Addr} {fd : FuncData} {ps : List Str} {sp : Sp} {dvs : List V} {ds : List Value} {E : XK} {x m : Str} {p pos apos : Pos} {e o : Expr} {es : List Expr} {ta : TE} {t : TA}
theorem amK {pins : List (Addr × Obj)} {σ : St} {H : Hp} {s : Shared} {Q : VK} {us : List Value} {vs : List V} (F : FnOk X.prog X.w X.K X.mg X.base CX k f fd ps sp) (hr : Room k X.A) (hb : Binds X.K fd ps ds) (hd : Vals dvs ds) (hx : Passes CX X E)
  (I : Inv X pins σ H s) (r : Vals vs us) (h : sp (vs ++ dvs) H Q E) : wpAny (model X.prog X.w) X.A (call (.ref f) us) (EP X pins σ Q) X.xe s := by
 have r2 : Vals (vs ++ dvs) (us ++ ds) := r.append hd
 have hl : (us ++ ds).length = ps.length := by rw [<- r2.length]; exact F.len _ _ _ _ h
 refine wpAny_call (codeAny_mono (F.run X.A X.stack s H ⟨us, []⟩ (us ++ ds) (vs ++ dvs) Q E hr I.env0 (hb s us I.kIn hl) r2 h) fun r s' hq => ?_)
 cases r with
 | error e => exact hx pins σ H s e s' I hq
 | ok fl =>
  cases fl with
  | ret u => exact I.after hq
  | next => exact ap0 hq
  | brk => exact ap0 hq
  | cont => exact ap0 hq
theorem af9 (F : FnOk X.prog X.w X.K X.mg X.base CX k f fd ps sp) (hr : Room k X.A) (hg : Gl X x) (hm : X.mg x = some (.ref f)) (hk : apW X.K (.ref f) = true) (hb : Binds X.K fd ps ds) (hd : Vals dvs ds) (hx : Passes CX X E)
  (ha : PA X (e :: es) t) (hdb : (x == ("__debug__" : Str)) = false := by decide) (he : starEach (e :: es) X.env = (false, eval e X.env) :: starEach es X.env := by rfl) (hpl : (backTo pos (starEach es X.env)).any (·.1) = false := by rfl) :
  PE X (.Call (.Name x p) (e :: es) [] pos) (vn sp dvs E t) := by
 intro pins s σ H Q I h
 refine wpAny_Call_Name_kw (qS I hg hm ?_ hdb)
 refine ar0 (h₀ := X.base) I.ok.mod.kin hk (thn (ha pos pins s σ H _ I h) fun us s1 ⟨vs, H1, I1, r, q⟩ => ⟨I1.kIn, ?_⟩) he hpl
 exact amK F hr hb hd hx I1 r q
structure Mk (K : ao0) (C f : Addr) : Prop where
 makes : PySem.W.makesIn K C = true
 init : aqc K (.ref C) "__init__" = some (some (.ref f))
 fn : PySem.W.isFn K (.ref f) = true
 kp : apW K (.ref C) = true
end
section
variable {X : Cx} {CX : CXT} {k : Nat} {f C : Addr} {fd : FuncData} {ps ks : List Str} {sp : Sp} {E : XK} {x m : Str} {p pos apos kpos : Pos} {e o : Expr} {es : List Expr} {kws : List Keyword} {te ta : TE} {t tk : TA} {nm : Option Str}
structure KBinds (K : ao0) (fd : FuncData) (ps ks : List Str) (g : List Value -> List Value -> List Value) (gV : List V -> List V -> List V) : Prop where
 to : ∀ (s : Shared) (us ws : List Value), K.In s.heap -> (g us ws).length = ps.length -> BindsTo s fd ⟨us, ks.zip ws⟩ (ps.zip (g us ws))
 rel : ∀ {vs : List V} {us : List Value} {zs : List V} {ws : List Value}, Vals vs us -> Vals zs ws -> Vals (gV vs zs) (g us ws)
variable {g : List Value -> List Value -> List Value} {gV : List V -> List V -> List V}
end
structure FnScope (N P : List Str) (sc : Scope) : Prop where
 kind : sc.kind = .function
 co : sc.isCoroutine = false
 gen : sc.isGenerator = false
 nd : N.Nodup
 pre : N.take P.length = P
 par : ∀ x ∈ P, sc.names.lookup x = some .local \/ sc.names.lookup x = some .cell
 nofree : ∀ y ∈ sc.names, y.2 ≠ .free
theorem acb {kindOf : Str -> Option NameKind} {x : Str} : ∀ {binds : List (Str × Value)} {m : Str -> Option Value}, (∀ v, (x, v) ∉ binds) -> bindL kindOf binds m x = m x
 | [], _, _ => rfl
 | (n, v) :: r, m, h => by
  unfold bindL
  rw [acb fun w hw => h w (ao3 _ hw)]
  split
  ·have : x ≠ n := by rintro rfl; exact h v ao4
   simp [this]
  ·rfl
theorem acd {kindOf : Str -> Option NameKind} {x : Str} : ∀ {binds : List (Str × Value)} {m : Str -> Option Value}, (∀ v, (x, v) ∉ binds) -> bindC kindOf binds m x = m x
 | [], _, _ => rfl
 | (n, v) :: r, m, h => by
  unfold bindC
  rw [acd fun w hw => h w (ao3 _ hw)]
  split
  ·rfl
  ·have : x ≠ n := by rintro rfl; exact h v ao4
   simp [this]
theorem ace {kindOf : Str -> Option NameKind} {x : Str} {v : Value} : ∀ {P : List Str} {vs : List Value} {i : Nat} {m : Str -> Option Value}, P.Nodup -> P[i]? = some x -> vs[i]? = some v -> kindOf x = some .local ->
  bindL kindOf (P.zip vs) m x = some v
 | [], _, _, _, _, h, _, _ => by simp at h
 | _ :: _, [], _, _, _, _, h, _ => by simp at h
 | p :: P, w :: vs, 0, m, nd, h1, h2, hk => by
  simp at h1 h2; subst h1; subst h2
  show bindL kindOf ((p, w) :: P.zip vs) m p = _
  unfold bindL
  rw [acb fun v hv => (apX.mp nd).1 (arQ hv).1, if_pos hk]
  simp
 | p :: P, w :: vs, i + 1, m, nd, h1, h2, hk => by
  show bindL kindOf ((p, w) :: P.zip vs) m x = _
  unfold bindL
  exact ace (i := i) (apX.mp nd).2 (by simpa using h1) (by simpa using h2) hk
theorem acf {kindOf : Str -> Option NameKind} {x : Str} {v : Value} : ∀ {P : List Str} {vs : List Value} {i : Nat} {m : Str -> Option Value}, P.Nodup -> P[i]? = some x -> vs[i]? = some v -> kindOf x ≠ some .local ->
  bindC kindOf (P.zip vs) m x = some v
 | [], _, _, _, _, h, _, _ => by simp at h
 | _ :: _, [], _, _, _, _, h, _ => by simp at h
 | p :: P, w :: vs, 0, m, nd, h1, h2, hk => by
  simp at h1 h2; subst h1; subst h2
  show bindC kindOf ((p, w) :: P.zip vs) m p = _
  unfold bindC
  rw [acd fun v hv => (apX.mp nd).1 (arQ hv).1, if_neg hk]
  simp
 | p :: P, w :: vs, i + 1, m, nd, h1, h2, hk => by
  show bindC kindOf ((p, w) :: P.zip vs) m x = _
  unfold bindC
  exact acf (i := i) (apX.mp nd).2 (by simpa using h1) (by simpa using h2) hk
def start (N : List Str) (vs : List V) : St := vs.map some ++ aqT (N.length - vs.length) none
def zI (CX : CXT) (P : Program) (w : World) (K : ao0) (mg : Str -> Option Value) (base : Heap) (N : List Str) (qual : Str) (scope : Scope) (f : Addr) (cd : Value) (A : Around) (outer : List Env) (s : Shared) (H : Hp) (E : XK) : Cx where
 prog := P
 w := w
 K := K
 mg := mg
 base := base
 A := A.deeper (envOfC qual scope s.heap.objs.size f cd)
 N := N
 s₀ := s
 H₀ := H
 env := envOfC qual scope s.heap.objs.size f cd
 outer := outer
 stack := envOfC qual scope s.heap.objs.size f cd :: outer
 ex := []
 calm := true
 fn := fun _ => true
 pn := []
 xe := fun e s' => wpAny (model P w) (A.deeper (envOfC qual scope s.heap.objs.size f cd)) (leaving (envOfC qual scope s.heap.objs.size f cd) e) (fun _ s'' => CX outer H s E e s'') (fun e' s'' => CX outer H s E e' s'') s'
theorem ad0 {sc : Scope} {n : Nat} {x : Str} (h : sc.names.lookup x = some .cell) : ∃ c, (cellsFrom n sc.names []).lookup x = some c := by
 have q := aqu sc.names n [] (.inl h)
 exact aqm.mp q
theorem acg {CX : CXT} {P : Program} {w : World} {K : ao0} {mg : Str -> Option Value} {base : Heap} {N ps : List Str} {qual : Str} {scope : Scope} {f : Addr} {cd : Value} {A : Around} {outer : List Env} {s s1 : Shared} {H : Hp} {E : XK} {us : List Value} {vs : List V}
  (S : FnScope N ps scope) (hd : A.handled = none) (e0 : Env0 P w K mg base A outer s H) (hl : vs.length = ps.length) (r : Vals vs us)
  (x : InCallC s s.heap.objs.size (bindL (envOfC qual scope s.heap.objs.size f cd).kindOf (ps.zip us) fun _ => none) (cellsFrom (s.heap.objs.size + 1) scope.names []) (bindC (envOfC qual scope s.heap.objs.size f cd).kindOf (ps.zip us) fun _ => none) s1) :
  Inv (zI CX P w K mg base N qual scope f cd A outer s H E) [] (start N vs) H s1 := by
 have hpl : ps.length <= N.length := by have := congrArg List.length S.pre; rw [apP] at this; omega
 obtain ⟨h1, tk, rfl, hk⟩ := x.done
 have noA : ∀ b : Addr, b ∉ (zI CX P w K mg base N qual scope f cd A outer s H E).ex := fun b z => absurd (show b ∈ ([] : List Addr) from z) (by simp)
 refine ⟨⟨e0.mod, S.kind, rfl, rfl, ao5 _, fun y z c h1 h2 => ?_, fun y hy => ?_, fun y c _ h => ?_, fun _ => hd, asK e0.frames, .inr ⟨rfl, rfl⟩, fun b z => absurd z (noA b), e0.bs, e0.bsz, fun b _ _ => noA b, fun b z => absurd z (noA b), e0.funs, e0.frf⟩,
  rfl, e0.bare, Un.kept hk, ⟨_, x.toInCall.ns, fun i y v h1 h2 h3 => ?_⟩, fun y c h => ⟨_, x.cell y c h⟩, e0.hok.fresh (ao5 _), fun y c h => ?_, fun p hp => absurd (show p ∈ ([] : List (Addr × Obj)) from hp) (by simp), e0.hok.kept hk, ?_⟩
 ·exact name_of_addr x.apart (aqQ h1) (aqQ h2)
 ·have hy : scope.names.lookup y = some .cell \/ scope.names.lookup y = some .free := hy
  rcases hy with hy | hy
  ·exact ad0 hy
  ·exact absurd rfl (S.nofree _ (aqQ hy))
 ·exact ap1 (x.above y c (aqQ h))
 ·have hi : i < vs.length := by
   unfold start at h2
   by_cases hi : i < vs.length
   ·exact hi
   ·rw [apl (by simpa using hi)] at h2
    rw [aqU] at h2
    split at h2 <;> cases h2
  have ha : vs[i]? = some v := by
   unfold start at h2
   rw [ape (by simpa using hi), ao8] at h2
   cases e : vs[i]? with
   | none => rw [e] at h2; cases h2
   | some a => rw [e] at h2; cases h2; rfl
  obtain ⟨u, hu, rv⟩ := r.get ha
  have hp : ps[i]? = some y := by
   rw [<- S.pre, aqM (by omega)]; exact h1
  have ndP : ps.Nodup := by rw [<- S.pre]; exact S.nd.sublist (List.take_sublist _ _)
  refine ⟨u, rv, ?_⟩
  rcases S.par y (apc hp) with k | k
  ·exact .inl ⟨k, ace ndP hp hu k⟩
  ·obtain ⟨c, e⟩ := ad0 (n := s.heap.objs.size + 1) k
   refine .inr ⟨.inl k, c, e, ?_⟩
   have q := x.cell y c e
   rw [acf ndP hp hu (by show scope.names.lookup y ≠ _; rw [k]; decide)] at q
   exact q
 ·exact e0.hok.fresh (ap1 (x.above y c (aqQ h)))
 ·unfold start
  show _ = N.length
  rw [aph, aoZ, arG]
  omega
theorem al4 {CX : CXT} {P : Program} {w : World} {K : ao0} {mg : Str -> Option Value} {base : Heap} {k : Nat} {f : Addr} {name qual : Str} {params : Arguments} {body : List Stmt} {scope : Scope} {dV kV doc pm cdv ct oc : Value} {an od : Option Addr}
  {osl : Array (Option Value)} {N ps : List Str} {sp : Sp} (lk : K.lookup f = some ⟨oc, od, .func (aqn name qual params body scope dV kV doc pm an cdv ct), osl⟩) (hcd : ars K cdv qual = true) (S : FnScope N ps scope)
  (len : ∀ vs H Q E, sp vs H Q E -> vs.length = ps.length)
  (hbody : ∀ (A : Around) (outer : List Env) (s : Shared) (H : Hp) (vs : List V) (Q : VK) (E : XK), Room k (A.deeper (envOfC qual scope s.heap.objs.size f cdv)) -> sp vs H Q E ->
   ∃ t, PSs (zI CX P w K mg base N qual scope f cdv A outer s H E) body t /\ t { nx := fun _ H' => Q .non H', rt := Q } (start N vs) H) :
  FnOk P w K mg base CX (k + 1) f (aqn name qual params body scope dV kV doc pm an cdv ct) ps sp := by
 refine ⟨len, fun A outer s H args us vs Q E hr e0 hb r hsp => ?_⟩
 have hl := len _ _ _ _ hsp
 have KX : K.In s.heap := e0.mod.kin.keeps fun b o e => (e0.bs b o e).1
 have lim : s.heap.NoLimit := e0.mod.nolimit.keeps fun b o e => (e0.bs b o e).1
 have hkind : ∀ y ∈ ps.zip us, scope.names.lookup y.1 = some .local \/ (scope.names.lookup y.1 = some .cell /\ ((cellsFrom (s.heap.objs.size + 1) scope.names []).lookup y.1).isSome = true) := fun ⟨n, v⟩ hy => by
  rcases S.par n (arQ hy).1 with q | q
  ·exact .inl q
  ·exact .inr ⟨q, aqu _ _ _ (.inl q)⟩
 refine codeAny_call_function hr.depth (KX _ _ lk) rfl S.co S.gen rfl (PySem.W.codeRec_of KX hcd) (hb _ _ _ _ ?_)
 refine wpAny_newFunctionEnv_cells S.kind hkind fun env he s1 x => ?_
 subst he
 refine ⟨lim.keeps x.toInCall.keep, codeAny_func ?_⟩
 obtain ⟨t, ht, hq⟩ := hbody A outer s H vs Q E (hr.deeper _) hsp
 have I : Inv (zI CX P w K mg base N qual scope f cdv A outer s H E) [] (start N vs) H s1 := acg S hr.hd e0 hl r x
 refine wpAny_mono (ht [] s1 (start N vs) H _ I hq) (fun fl s' hs => ?_) fun e s' hs => hs
 have fin : ∀ {σ' : St} {H' : Hp} {v : V} {u : Value}, Inv (zI CX P w K mg base N qual scope f cdv A outer s H E) [] σ' H' s' -> RelV v u -> Q v H' -> CE outer P w H s Q u s' :=
  fun {σ' H' v u} J rv q => ⟨v, H', J.os, J.bare, J.base, J.hok, rv, q⟩
 cases fl with
 | ret u =>
  obtain ⟨v, σ', H', J, rv, q⟩ := hs
  exact fin J rv q
 | next =>
  obtain ⟨σ', H', J, q⟩ := hs
  exact fin (v := V.non) (u := Value.none) J rfl q
 | brk =>
  obtain ⟨_, _, _, q⟩ := hs
  exact ap0 q
 | cont =>
  obtain ⟨_, _, _, q⟩ := hs
  exact ap0 q
section
variable {X : Cx} {x : Str} {p pos : Pos} {e : Expr} {es : List Expr} {t : TA} {id T : String} {r : List V -> Hp -> VK -> Prop}
def tCB (r : List V -> Hp -> VK -> Prop) (t : TA) : TE := fun σ H Q => t σ H fun vs H1 => r vs H1 Q
theorem zx (hc : yn X (.builtin id) r) (hg : Gl X x) (hm : X.mg x = none) (hv : bootBuiltins x = some (.builtin id)) (ha : PA X (e :: es) t) (hn : x ≠ "__name__" := by decide) (hdb : (x == ("__debug__" : Str)) = false := by decide)
  (he : starEach (e :: es) X.env = (false, eval e X.env) :: starEach es X.env := by rfl) (hpl : (backTo pos (starEach es X.env)).any (·.1) = false := by rfl) : PE X (.Call (.Name x p) (e :: es) [] pos) (tCB r t) := by
 intro pins s σ H Q I h
 refine wpAny_Call_Name_kw (aai I hg hm hv ?_ hn hdb)
 exact PyProof.Rows.callWith_builtin1 (thn (ha pos pins s σ H _ I h) fun us s1 ⟨vs, H1, I1, r1, q1⟩ => hc pins s1 σ H1 vs us Q I1 r1 q1) he hpl
theorem qT (hc : yn X (.type T) r) (hg : Gl X x) (hm : X.mg x = none) (hv : bootBuiltins x = some (.type T)) (ha : PA X (e :: es) t) (hn : x ≠ "__name__" := by decide) (hdb : (x == ("__debug__" : Str)) = false := by decide)
  (he : starEach (e :: es) X.env = (false, eval e X.env) :: starEach es X.env := by rfl) (hpl : (backTo pos (starEach es X.env)).any (·.1) = false := by rfl) : PE X (.Call (.Name x p) (e :: es) [] pos) (tCB r t) := by
 intro pins s σ H Q I h
 refine wpAny_Call_Name_kw (aai I hg hm hv ?_ hn hdb)
 exact aq1 (thn (ha pos pins s σ H _ I h) fun us s1 ⟨vs, H1, I1, r1, q1⟩ => hc pins s1 σ H1 vs us Q I1 r1 q1) he hpl
theorem abh (hc : yn X (.type T) r) (hg : Gl X x) (hm : X.mg x = none) (hv : bootBuiltins x = some (.type T)) (hn : x ≠ "__name__" := by decide) (hdb : (x == ("__debug__" : Str)) = false := by decide) :
  PE X (.Call (.Name x p) [] [] pos) (tCB r jS) := by
 intro pins s σ H Q I h
 refine wpAny_Call_Name_kw (aai I hg hm hv ?_ hn hdb)
 exact PyProof.Rows.callWith_type0 (hc pins s σ H [] [] Q I .nil h)
end
end L2
namespace HT
open PySem PyProof.Rows
theorem rcLt_int (A : Around) (s : Shared) (a : Int) (t : Tok) (c : Int) (u : Tok) (prog : Program) (w : World) (E : Value -> Shared -> Prop) (Q : Value -> Shared -> Prop) (h : Q (.bool (decide (a < c))) s) :
  wpAny (model prog w) A (richCompare .Lt (.int a t) (.int c u)) Q E s :=
 (PyProof.Rows.lt_int h : wpAny (model prog w) A (compareOp .Lt (.int a t) (.int c u)) Q E s)
section
open PySem.SeqAt
open PySem.AutoSeq1 (wpAny_loadPart')
open PySem.MeetsSeq PySem.MeetsSeq2 PySem.MeetsSeq3
end
section
variable {prog : Program} {w : World} {A : Around} {E : Value -> Shared -> Prop} {s : Shared}
end
end HT
namespace L2
open PySem PySem.Spec PyProof.Rows
abbrev TO := St -> Hp -> (Option Int -> Hp -> Prop) -> Prop
theorem intsAre_of {ns : List Int} : ∀ {us : List Value}, Vals (ns.map V.int) us -> IntsAre us ns := by
 induction ns with
 | nil => intro us r; rw [arX] at r; cases r; exact .nil
 | cons n ns ih =>
  intro us r
  rw [apq] at r
  cases r with
  | cons r1 r2 =>
   obtain ⟨t, e⟩ := r1
   subst e
   exact .cons n t (ih r2)
section
variable {X : Cx} {e : Expr} {te : TE} {lo hi : Option Expr} {tl th : TO} {pos p2 : Pos}
end
def ixN (n : Nat) (i : Int) : Option Nat := if 0 <= i then (if i < n then some i.toNat else none) else if -(n : Int) <= i then some (i + n).toNat else none
def atI {α : Type} (xs : List α) (i : Int) : Option α := (ixN xs.length i).bind fun j => xs[j]?
theorem aga {n : Nat} {i : Int} {j : Nat} (h : ixN n i = some j) : seqIndex? i n = some j /\ j < n /\ -(n : Int) <= i /\ i < n := by
 unfold ixN at h
 by_cases h0 : 0 <= i
 ·rw [if_pos h0] at h
  by_cases h1 : i < n
  ·rw [if_pos h1] at h
   have e : i.toNat = j := Option.some.inj h
   exact ⟨by rw [seqIndex_of h0 h1, e], by omega, by omega, h1⟩
  ·rw [if_neg h1] at h; cases h
 ·rw [if_neg h0] at h
  by_cases h1 : -(n : Int) <= i
  ·rw [if_pos h1] at h
   have e : (i + n).toNat = j := Option.some.inj h
   exact ⟨by rw [seqIndex_neg (by omega) h1, e], by omega, h1, by omega⟩
  ·rw [if_neg h1] at h; cases h
theorem agb {α : Type} {xs : List α} {i : Int} {v : α} (h : atI xs i = some v) : ∃ j, seqIndex? i xs.length = some j /\ xs[j]? = some v /\ j < xs.length /\ -(xs.length : Int) <= i /\ i < xs.length := by
 unfold atI at h
 cases e : ixN xs.length i with
 | none => rw [e] at h; cases h
 | some j =>
  rw [e] at h
  obtain ⟨h1, h2, h3, h4⟩ := aga e
  exact ⟨j, h1, h, h2, h3, h4⟩
theorem yT {α : Type} {xs : List α} {j : Nat} {v : α} (h : xs[j]? = some v) : atI xs (j : Int) = some v := by
 have hj : j < xs.length := (ao1.mp h).1
 have e : ixN xs.length (j : Int) = some j := by
  unfold ixN
  rw [if_pos (by omega), if_pos (by omega)]; simp
 unfold atI; rw [e]; exact h
def agc (b : Expr) : Prop := ∀ o i, subscripted b false o i = operate [o, i] (getItem o i)
def IxR (X : Cx) (r : R2) : Prop :=
 ∀ (value slice : Expr) (pins : List (Addr × Obj)) (s : Shared) (σ : St) (H : Hp) (x y : V) (v u : Value) (Q : VK), Inv X pins σ H s -> RelV x v -> RelV y u -> r x y H Q ->
  subscripted slice false v u = operate [v, u] (getItem v u) -> wpAny (model X.prog X.w) X.A (subscriptTail value slice v u) (EP X pins σ Q) X.xe s
def MtR (X : Cx) (id : String) (r : V -> List V -> Hp -> VK -> Prop) : Prop :=
 ∀ (pins : List (Addr × Obj)) (s : Shared) (σ : St) (H : Hp) (x : V) (xs : List V) (v : Value) (us : List Value) (Q : VK), Inv X pins σ H s -> RelV x v -> Vals xs us -> r x xs H Q ->
  wpAny (model X.prog X.w) X.A (call (.builtin id) (v :: us)) (EP X pins σ Q) X.xe s
section
variable {X : Cx} {a b : Expr} {ta tb : TE} {pos : Pos}
theorem zS {r : R2} (hr : IxR X r) (ha : PE X a ta) (hb : PE X b tb) (hs : agc b) : PE X (.Subscript a b pos) (tOp r ta tb) := by
 intro pins s σ H Q I h
 exact Subscript_ (amF ha hb I h fun v u s2 x y H2 I2 rx ry q => hr a b pins s2 σ H2 x y v u Q I2 rx ry q (hs _ _))
def ad1 (K : ao0) : R2 := fun x y H Q => ∃ p xs i v, x = .ref p /\ y = .int i /\ SqL K H p xs /\ atI xs i = some v /\ Q v H
def amL (K : ao0) : R2 := fun x y H Q => ∃ p xs i v, x = .ref p /\ y = .int i /\ SqT K H p xs /\ atI xs i = some v /\ Q v H
theorem akA : IxR X (ad1 X.K) := by
 intro value slice pins s σ H x y v u Q I rx ry h hs
 obtain ⟨p, xs, i, z, rfl, rfl, hq, he, q⟩ := h
 cases rx
 obtain ⟨t, rfl⟩ := ry
 obtain ⟨its, r, pl, hz⟩ := I.list hq
 obtain ⟨j, h1, h2, h3, h4, h5⟩ := agb he
 obtain ⟨w, ew, rw'⟩ := r.get h2
 have hl := r.length
 have hn := abf
 have fin : EP X pins σ Q w s := ⟨z, H, I, rw', q⟩
 by_cases h0 : 0 <= i
 ·have hj : i.toNat = j := by
   rw [seqIndex_of h0 h5] at h1
   exact Option.some.inj h1
  exact item_listR pl.isList h0 (by omega) (by rw [hj]; simpa using ew) fin hs
 ·have hj : (i + (its.toArray.size : Int)).toNat = j := by
   rw [seqIndex_neg (by omega) h4] at h1
   rw [apk, <- hl]
   exact Option.some.inj h1
  exact subscriptTail_builtinR (x := w) pl.isList.typeIs slot_list_getitem.lookup
   (wpAny_getItem_list_neg (Q := fun r s' => r = w /\ EP X pins σ Q r s') pl.isList (by omega) (by rw [apk] <;> omega) (by omega) (by rw [hj]; simpa using ew) ⟨rfl, fin⟩) hs
theorem amM : IxR X (amL X.K) := by
 intro value slice pins s σ H x y v u Q I rx ry h hs
 obtain ⟨p, xs, i, z, rfl, rfl, hq, he, q⟩ := h
 cases rx
 obtain ⟨t, rfl⟩ := ry
 obtain ⟨its, r, pl, hz⟩ := I.tuple hq
 obtain ⟨j, h1, h2, h3, h4, h5⟩ := agb he
 obtain ⟨w, ew, rw'⟩ := r.get h2
 have hl := r.length
 have hn := abf
 have fin : EP X pins σ Q w s := ⟨z, H, I, rw', q⟩
 exact subscriptTail_builtinR (x := w) pl.typeIs slot_tuple_getitem.lookup
  (getItem_tuple (j := j) (Q := fun r s' => r = w /\ EP X pins σ Q r s') pl (by omega) (by omega) (by rw [apk, <- hl]; exact h1) (by simpa using ew) ⟨rfl, fin⟩) hs
theorem afk (its : List Value) (n j : Nat) (u : Value) : aq2 (·.setIfInBounds j u) { cls := .type "list", data := .seq its.toArray n } = { cls := .type "list", data := .seq (its.set j u).toArray n } := by
 simp [aq2]
theorem Inv.lst {pins : List (Addr × Obj)} {σ : St} {H : Hp} {s : Shared} {p : Addr} {xs : List V} (I : Inv X pins σ H s) (h : H p = some (.lst xs)) :
  ∃ (its : List Value) (n : Nat), Vals xs its /\ s.heap.get? p = some { cls := .type "list", data := .seq its.toArray n } /\ xs.length <= sizeLine := by
 obtain ⟨z, its, n, r, e⟩ := I.hok p _ h
 exact ⟨its, n, r, e, z⟩
theorem Inv.lstUpd {pins : List (Addr × Obj)} {σ : St} {H : Hp} {s : Shared} {p : Addr} {xs ys : List V} {its its' : List Value} {n n' : Nat} {f : Obj -> Obj} (I : Inv X pins σ H s) (h : H p = some (.lst xs))
  (ho : s.heap.get? p = some { cls := .type "list", data := .seq its.toArray n }) (hf : f { cls := .type "list", data := .seq its.toArray n } = { cls := .type "list", data := .seq its'.toArray n' }) (r : Vals ys its') (hz : ys.length <= sizeLine) (t : Nat) :
  Inv X pins σ (upd H p (.lst ys)) { s with heap := s.heap.update p f, toks := t } := by
 have e : (s.heap.update p f).get? p = some { cls := .type "list", data := .seq its'.toArray n' } := by
  rw [aqD f ho (by rw [hf] <;> rfl), hf]
 refine I.write (x := p) (e := p) (by rw [h]; trivial) (.inl rfl) (fun b u hb q => (aqd _ _ (aqa hb)).trans q) ⟨_, e⟩ ?_
 exact ⟨hz, its', n', r, e⟩
def abi : V -> V -> V -> Hp -> (Hp -> Prop) -> Prop := fun o i v H Q => ∃ p xs k j, o = .ref p /\ i = .int k /\ H p = some (.lst xs) /\ ixN xs.length k = some j /\ Q (upd H p (.lst (xs.set j v)))
theorem set_list : akv X abi := by
 intro pins s σ H o i v ov iv u Q I ro ri rv h
 obtain ⟨p, xs, k, j, rfl, rfl, hp, hj, q⟩ := h
 cases ro
 obtain ⟨t, rfl⟩ := ri
 obtain ⟨its, n, r, ho, hz⟩ := I.lst hp
 obtain ⟨h1, h2, h3, h4⟩ := aga hj
 have hl := r.length
 have hn := abf
 have I' : Inv X pins σ (upd H p (.lst (xs.set j v))) { s with heap := s.heap.update p (aq2 (·.setIfInBounds j u)) } :=
  I.lstUpd hp ho (afk its n j u) (r.set rv j) (by rw [aqs]; exact hz) s.toks
 by_cases h0 : 0 <= k
 ·have hk : k.toNat = j := by
   rw [seqIndex_of h0 h4] at h1
   exact Option.some.inj h1
  exact PySem.W.ki_setAt ho h0 (by omega) (by rw [apk, <- hl]; exact h4) (by rw [hk]; exact ⟨_, I', q⟩)
 ·have hk : (k + (its.toArray.size : Int)).toNat = j := by
   rw [seqIndex_neg (by omega) h3] at h1
   rw [apk, <- hl]
   exact Option.some.inj h1
  exact PySem.W.ki_setBack ho (by omega) (by rw [apk, <- hl]; exact h3) (by omega) (by rw [hk]; exact ⟨_, I', q⟩)
def aaD : V -> Bool
 | .non => true
 | .bl _ => true
 | .int _ => true
 | .str _ => true
 | _ => false
def eqV : V -> V -> Bool
 | .non, .non => true
 | .bl a, .bl b => a == b
 | .bl a, .int b => (if a then 1 else 0) == b
 | .int a, .bl b => a == (if b then 1 else 0)
 | .int a, .int b => a == b
 | .str a, .str b => a == b
 | _, _ => false
theorem amN {A : Around} {s : Shared} {y x : V} {u v : Value} (ry : RelV y u) (rx : RelV x v) (fy : aaD y = true) (fx : aaD x = true) : SeqAt.EqAt A s u v (eqV y x) := by
 cases y with
 | non =>
  cases ry
  cases x with
  | non => cases rx; exact SeqAt.EqAt.same _
  | bl b => cases rx; exact SeqAt.EqAt.none_bool b
  | int b => obtain ⟨t, rfl⟩ := rx; exact SeqAt.EqAt.none_int b t
  | str b => obtain ⟨t, rfl⟩ := rx; exact SeqAt.EqAt.none_str b t
  | _ => exact absurd (show false = true from fx) aoY
 | bl a =>
  cases ry
  cases x with
  | non => cases rx; exact SeqAt.EqAt.bool_none a
  | bl b => cases rx; exact SeqAt.EqAt.bool_bool a b
  | int b => obtain ⟨t, rfl⟩ := rx; exact SeqAt.EqAt.bool_int a b t
  | str b => obtain ⟨t, rfl⟩ := rx; exact SeqAt.EqAt.bool_str a b t
  | _ => exact absurd (show false = true from fx) aoY
 | int a =>
  obtain ⟨t', rfl⟩ := ry
  cases x with
  | non => cases rx; exact SeqAt.EqAt.int_none a t'
  | bl b => cases rx; exact SeqAt.EqAt.int_bool a t' b
  | int b => obtain ⟨t, rfl⟩ := rx; exact SeqAt.EqAt.int_int a t' b t
  | str b => obtain ⟨t, rfl⟩ := rx; exact SeqAt.EqAt.int_str a t' b t
  | _ => exact absurd (show false = true from fx) aoY
 | str a =>
  obtain ⟨t', rfl⟩ := ry
  cases x with
  | non => cases rx; exact SeqAt.EqAt.str_none a t'
  | bl b => cases rx; exact SeqAt.EqAt.str_bool a t' b
  | int b => obtain ⟨t, rfl⟩ := rx; exact SeqAt.EqAt.str_int a t' b t
  | str b => obtain ⟨t, rfl⟩ := rx; exact SeqAt.EqAt.str_str a t' b t
  | _ => exact absurd (show false = true from fx) aoY
 | _ => exact absurd (show false = true from fy) aoY
def eqU (x : V) (u : Value) : Bool := match u with
 | .none => eqV .non x
 | .bool b => eqV (.bl b) x
 | .int i _ => eqV (.int i) x
 | .str z _ => eqV (.str z) x
 | _ => false
theorem aiA {x y : V} {u : Value} (r : RelV y u) (f : aaD y = true) : eqU x u = eqV y x := by
 cases y with
 | non => cases r; rfl
 | bl b => cases r; rfl
 | int i => obtain ⟨t, rfl⟩ := r; rfl
 | str z => obtain ⟨t, rfl⟩ := r; rfl
 | _ => exact absurd (show false = true from f) aoY
theorem acQ {x : V} : ∀ {xs : List V} {us : List Value}, Vals xs us -> xs.all aaD = true -> us.any (eqU x) = xs.any fun y => eqV y x
 | _, _, .nil, _ => rfl
 | y :: xs, u :: us, .cons r t, f => by
  rw [asj, ao6] at f
  rw [asm, asm, aiA r f.1, acQ t f.2]
theorem abj {A : Around} {s : Shared} {x : V} {v : Value} (rx : RelV x v) (fx : aaD x = true) : ∀ {xs : List V} {us : List Value}, Vals xs us -> xs.all aaD = true -> ∀ u ∈ us, SeqAt.EqAt A s u v (eqU x u)
 | _, _, .nil, _ => fun u hu => by cases hu
 | y :: xs, u :: us, .cons r t, f => fun u' hu => by
  rw [asj, ao6] at f
  rcases ao7.mp hu with rfl | hu
  ·rw [aiA r f.1]; exact amN r rx f.1 fx
  ·exact abj rx fx t f.2 u' hu
def inV (x : V) (xs : List V) : Bool := xs.any fun y => eqV y x
def rIn (K : ao0) (neg : Bool) : R2 := fun x y H Q => ∃ p xs, y = .ref p /\ (SqL K H p xs \/ SqT K H p xs) /\ aaD x = true /\ xs.all aaD = true /\ Q (.bl (if neg then !inV x xs else inV x xs)) H
theorem acR : OpR X (compareOp .NotIn) (rIn X.K true) := by
 intro pins s σ H x y v u Q I rx ry h
 obtain ⟨p, xs, rfl, hq, fx, fs, q⟩ := h
 cases ry
 rcases hq with hq | hq
 ·obtain ⟨its, r, pl, hz⟩ := I.list hq
  refine SeqAt.notIn_listAt (eqU x) pl.isList (fun w hw => abj rx fx r fs w (by simpa using hw)) ⟨.bl _, H, I, rfl, ?_⟩
  rw [show its.toArray.any (eqU x) = its.any (eqU x) by simp, acQ r fs]
  exact q
 ·obtain ⟨its, r, pl, hz⟩ := I.tuple hq
  refine SeqAt.notIn_tupleAt (eqU x) pl (fun w hw => abj rx fx r fs w (by simpa using hw)) ⟨.bl _, H, I, rfl, ?_⟩
  rw [show its.toArray.any (eqU x) = its.any (eqU x) by simp, acQ r fs]
  exact q
theorem acS : yn X (.builtin "len") (fun xs H Q => ∃ p ys, xs = [.ref p] /\ (SqL X.K H p ys \/ SqT X.K H p ys) /\ Q (.int ys.length) H) := by
 intro pins s σ H xs us Q I r h
 obtain ⟨p, ys, rfl, hq, q⟩ := h
 obtain ⟨u, rfl, rx⟩ := vals1 r
 cases rx
 have hn := abf
 rcases hq with hq | hq
 ·obtain ⟨its, r', pl, hz⟩ := I.list hq
  have hlen := r'.length
  exact Calls.call_len_list pl.isList (by simp only [apk] <;> omega) ⟨.int ys.length, H, I.tok _, ⟨s.toks + 1, by rw [apk, hlen]⟩, q⟩
 ·obtain ⟨its, r', pl, hz⟩ := I.tuple hq
  have hlen := r'.length
  exact len_tuple pl (by simp only [apk] <;> omega) ⟨.int ys.length, H, I.tok _, ⟨s.toks + 1, by rw [apk, hlen]⟩, q⟩
theorem acT : yn X (.type "list") (fun xs H Q => ∃ p ys, xs = [.ref p] /\ (SqL X.K H p ys \/ SqT X.K H p ys) /\ ∀ l, H l = none -> Q (.ref l) (upd H l (.lst ys))) := by
 intro pins s σ H xs us Q I r h
 obtain ⟨p, ys, rfl, hq, q⟩ := h
 obtain ⟨u, rfl, rx⟩ := vals1 r
 cases rx
 have fin : ∀ (its : List Value), Vals ys its -> ys.length <= sizeLine -> ∀ (h' : Heap) (c' : Nat), (∀ b o', s.heap.get? b = some o' -> h'.get? b = some o') ->
   h'.get? s.heap.objs.size = some { cls := .type "list", dict := none, data := .seq its.toArray c', slots := #[] } -> EP X pins σ Q (.ref s.heap.objs.size) { s with heap := h' } := fun its r' hz h' c' kp e =>
  ⟨.ref s.heap.objs.size, _, I.laid (t' := s.toks) kp (ao5 _) (show ObjOk X.prog X.w _ h' _ (.lst ys) from ⟨hz, its, c', r', e⟩), rfl, q _ (I.hok.fresh (ao5 _))⟩
 rcases hq with hq | hq
 ·obtain ⟨its, r', pl, hz⟩ := I.list hq
  have hlen := r'.length
  obtain ⟨o, ho, hc, n, hd⟩ := pl.isList
  exact call_list_seq p (.inl rfl) ho hc hd (fun h' c' kp e => fin its r' hz h' c' kp e) (by simp only [apk] <;> omega)
 ·obtain ⟨its, r', pl, hz⟩ := I.tuple hq
  have hlen := r'.length
  obtain ⟨o, ho, hc, n, hd⟩ := pl
  exact call_list_seq p (.inr rfl) ho hc hd (fun h' c' kp e => fin its r' hz h' c' kp e) (by simp only [apk] <;> omega)
theorem abW : yn X (.type "tuple") (fun xs H Q => ∃ p ys, xs = [.ref p] /\ ((SqL X.K H p ys /\ ∀ l, H l = none -> Q (.ref l) (upd H l (.tup ys))) \/ (SqT X.K H p ys /\ Q (.ref p) H))) := by
 intro pins s σ H xs us Q I r h
 obtain ⟨p, ys, rfl, h⟩ := h
 obtain ⟨u, rfl, rx⟩ := vals1 r
 cases rx
 rcases h with ⟨hq, q⟩ | ⟨hq, q⟩
 ·obtain ⟨its, r', pl, hz⟩ := I.list hq
  have hlen := r'.length
  refine call_tuple_list pl.isList (fun h' kp => ?_) (by simp only [apk] <;> omega)
  have I1 : Inv X pins σ H { s with heap := h' } := I.kept (t' := s.toks) kp
  have I2 : Inv X pins σ (upd H h'.objs.size (.tup ys)) { s with heap := h'.push { cls := .type "tuple", data := .seq its.toArray } } :=
   I1.laid (t' := s.toks) (fun b o e => apb _ e) (ao5 _) (show ObjOk X.prog X.w _ _ _ (.tup ys) from ⟨hz, its, r', IsTup.new _ _⟩)
  exact ⟨.ref h'.objs.size, _, I2, rfl, q _ (I1.hok.fresh (ao5 _))⟩
 ·obtain ⟨its, r', pl, hz⟩ := I.tuple hq
  exact call_tuple_same pl ⟨.ref p, H, I, rfl, q⟩
def tyV (K : ao0) (T : String) (x : V) (H : Hp) : Prop := match x with
 | .str _ => T = "str"
 | .int _ => T = "int"
 | .ref p => (T = "list" /\ ∃ xs, SqL K H p xs) \/ (T = "tuple" /\ ∃ o, K.lookup p = some o /\ o.cls = .type "tuple" /\ o.dict = none) \/
   (T = "dict" /\ ((∃ kvs, H p = some (.dK kvs)) \/ ∃ kvs, H p = some (.dT kvs))) \/ (T = "set" /\ ∃ S n, H p = some (.set S n))
 | _ => False
theorem aiB {pins : List (Addr × Obj)} {σ : St} {H : Hp} {s : Shared} {T : String} {x : V} {v : Value} (I : Inv X pins σ H s) (r : RelV x v) (ty : tyV X.K T x H) :
  s.TypeIs v T /\ ∀ a, v = .ref a -> ∃ ob, s.heap.get? a = some ob /\ ob.dict = none := by
 cases x with
 | str z =>
  obtain ⟨t, rfl⟩ := r
  cases (show T = "str" from ty)
  exact ⟨typeIs_str s z t, fun _ e => nomatch e⟩
 | int i =>
  obtain ⟨t, rfl⟩ := r
  cases (show T = "int" from ty)
  exact ⟨typeIs_int s i t, fun _ e => nomatch e⟩
 | ref p =>
  cases r
  rcases ty with ⟨rfl, xs, hq⟩ | ⟨rfl, o, hk, hc, hd⟩ | ⟨rfl, hk⟩ | ⟨rfl, S, n, hk⟩
  ·obtain ⟨its, _, pl, _⟩ := I.list hq
   refine ⟨pl.isList.typeIs, fun a e => ?_⟩
   cases e
   obtain ⟨o, n, e, c, hd, _⟩ := pl
   exact ⟨o, e, hd⟩
  ·refine ⟨⟨o, I.kIn p o hk, hc⟩, fun a e => ?_⟩
   cases e
   exact ⟨o, I.kIn _ o hk, hd⟩
  ·have z : ∃ o, s.heap.get? p = some o /\ o.ExactDict := by
    rcases hk with ⟨kvs, hk⟩ | ⟨kvs, hk⟩
    ·obtain ⟨_, _, _, _, o, _, _, e, ex, _⟩ := I.hok p _ hk
     exact ⟨o, e, ex⟩
    ·obtain ⟨_, _, _, _, o, _, _, e, ex, _⟩ := I.hok p _ hk
     exact ⟨o, e, ex⟩
   obtain ⟨o, e, ex⟩ := z
   refine ⟨⟨o, e, ex.1⟩, fun a e2 => ?_⟩
   cases e2
   exact ⟨o, e, ex.2.1⟩
  ·obtain ⟨o, _, _, _, e, ex, _⟩ := I.hok p _ hk
   refine ⟨⟨o, e, ex.1⟩, fun a e2 => ?_⟩
   cases e2
   exact ⟨o, e, ex.2.1⟩
 | _ => exact ap0 ty
def aoi (K : ao0) (T : String) (r : V -> List V -> Hp -> VK -> Prop) (to : TE) : TE := fun σ H Q => to σ H fun x H1 => tyV K T x H1 /\ r x [] H1 Q
def tBM (K : ao0) (T : String) (r : V -> List V -> Hp -> VK -> Prop) (to : TE) (t : TA) : TE := fun σ H Q => to σ H fun x H1 => tyV K T x H1 /\ t σ H1 fun xs H2 => r x xs H2 Q
variable {o e : Expr} {es : List Expr} {to : TE} {t : TA} {name : Str} {apos cpos : Pos} {T id : String} {r : V -> List V -> Hp -> VK -> Prop}
theorem amO (pa : PlainAttrs T) (slot : Slot T name id) (hty : typeOf (.builtin id) = pure (.type "method_descriptor")) (hm : MtR X id r) (ho : PE X o to)
  (hbase : attributeBase o name X.env (eval o X.env) = eval o X.env := by rfl) (hline : (apos.endLine == cpos.line) = true := by rfl) : PE X (.Call (.Attribute o name apos) [] [] cpos) (aoi X.K T r to) := by
 intro pins s σ H Q I h
 refine wpAny_Call_method0_late hbase hline (thn (ho pins s σ H _ I h) fun v s1 ⟨x, H1, I1, r1, ty, q1⟩ => ?_)
 obtain ⟨h1, h2⟩ := aiB I1 r1 ty
 exact ⟨T, id, pa, slot, hty, h1, h2, art rfl (PySem.evalArgs_none (hm pins s1 σ H1 x [] v [] Q I1 r1 .nil q1))⟩
theorem agd (pa : PlainAttrs T) (slot : Slot T name id) (hty : typeOf (.builtin id) = pure (.type "method_descriptor")) (hm : MtR X id r) (ho : PE X o to) (ha : PA X (e :: es) t)
  (hbase : attributeBase o name X.env (eval o X.env) = eval o X.env := by rfl)
  (hfew : ((backTo cpos (starEach (e :: es) X.env)).all (fun x => !x.1) && (backToKw cpos (keywordEach [] X.env)).all (fun x => x.1.isSome)
   && decide ((e :: es).length + ([] : List Keyword).length + (if ([] : List Keyword).isEmpty then 0 else 1) < 30)) = true := by rfl)
  (hline : (apos.endLine == cpos.line) = true := by rfl) (hs : starEach (e :: es) X.env = (false, eval e X.env) :: starEach es X.env := by rfl) (hplain : (backTo cpos (starEach es X.env)).any (·.1) = false := by rfl) :
  PE X (.Call (.Attribute o name apos) (e :: es) [] cpos) (tBM X.K T r to t) := by
 intro pins s σ H Q I h
 refine wpAny_Call_method_late hbase hfew hline rfl (thn (ho pins s σ H _ I h) fun v s1 ⟨x, H1, I1, r1, ty, q1⟩ => ?_)
 obtain ⟨h1, h2⟩ := aiB I1 r1 ty
 refine ⟨T, id, pa, slot, hty, h1, h2, ?_⟩
 have hA := ha cpos pins s1 σ H1 _ I1 q1
 rw [hs] at hA ⊢
 refine art (by show (false || (backTo cpos (starEach es X.env)).any (·.1)) = false; rw [hplain] <;> rfl) (arL ?_)
 exact thn hA fun us s2 ⟨vs, H2, I2, r2, q2⟩ => hm pins s2 σ H2 x vs v us Q I2 r1 r2 q2
/- xs.append(e), list.index on a module's tuple .. are MtR facts of 06m -/
end
def MtM (X : Cx) (id : String) (r : V -> List V -> Hp -> VK -> Prop) : Prop :=
 ∀ (pins : List (Addr × Obj)) (s : Shared) (σ : St) (H : Hp) (x : V) (xs : List V) (v : Value) (us : List Value) (Q : VK), Inv X pins σ H s -> RelV x v -> Vals xs us -> r x xs H Q ->
  wpAny (model X.prog X.w) X.A (call (.builtin id) (v :: us)) (EP X pins σ Q) X.xe s
theorem Vals.one : ∀ {x : V} {us : List Value}, Vals [x] us -> ∃ u, us = [u] /\ RelV x u
 | _, _, .cons r .nil => ⟨_, rfl, r⟩
theorem Vals.zero : ∀ {us : List Value}, Vals [] us -> us = []
 | _, .nil => rfl
theorem Vals.dropLast {xs : List V} {us : List Value} (h : Vals xs us) : Vals xs.dropLast us.dropLast := by
 induction h with
 | nil => exact .nil
 | cons r t ih =>
  cases t with
  | nil => exact .nil
  | cons q t' => exact .cons r ih
theorem afl {α : Type} (l : List α) : l.eraseIdx (l.length - 1) = l.dropLast := by
 induction l with
 | nil => rfl
 | cons a r ih =>
  cases r with
  | nil => rfl
  | cons b r =>
   have e : (a :: b :: r).length - 1 = ((b :: r).length - 1) + 1 := by
    have h1 : (a :: b :: r).length = r.length + 2 := rfl
    have h2 : (b :: r).length = r.length + 1 := rfl
    omega
   rw [e, List.eraseIdx_cons_succ, ih]
   all_goals rfl
section
variable {X : Cx} {pins : List (Addr × Obj)} {σ : St} {H : Hp} {s : Shared} {l b : Addr} {xs ys zs : List V}
theorem Inv.lset {its its' : List Value} {n : Nat} {f : Array Value -> Array Value} {t' : Nat} (I : Inv X pins σ H s) (hH : H l = some (.lst xs))
  (e : s.heap.get? l = some { cls := .type "list", data := .seq its.toArray n }) (hf : f its.toArray = its'.toArray) (hv : Vals ys its') (hz : ys.length <= sizeLine) :
  Inv X pins σ (upd H l (.lst ys)) { s with heap := s.heap.update l (aq2 f), toks := t' } := by
 have q := PySem.IsL.update e f
 rw [hf] at q
 refine I.write (x := l) (e := l) (by rw [hH]; exact trivial) (.inl rfl) (fun b' u hb hu => (aqd s.heap (aq2 f) (aqa hb)).trans hu) ⟨_, q⟩ ?_
 exact ⟨hz, its', _, hv, q⟩
theorem Inv.lnew {its : List Value} {t' : Nat} (I : Inv X pins σ H s) (hv : Vals ys its) (hz : ys.length <= sizeLine) :
  Inv X pins σ (upd H s.heap.objs.size (.lst ys)) { s with heap := s.heap.push { cls := .type "list", data := .seq its.toArray }, toks := t' } :=
 I.laid (fun _ _ q => apb _ q) (ao5 _) ⟨hz, its, 0, hv, apA _ rfl⟩
theorem Inv.fresh (I : Inv X pins σ H s) : H s.heap.objs.size = none := I.hok.fresh (ao5 _)
theorem Inv.lstM (I : Inv X pins σ H s) (hH : H l = some (.lst xs)) : xs.length <= sizeLine /\ ∃ (its : List Value) (n : Nat), Vals xs its /\ xs.length = its.length /\ s.heap.get? l = some { cls := .type "list", data := .seq its.toArray n } := by
 obtain ⟨z, its, n, r, e⟩ := I.hok l _ hH
 exact ⟨z, its, n, r, r.length, e⟩
end
section
variable {X : Cx}
def age : V -> List V -> Hp -> VK -> Prop := fun x vs H Q => ∃ l xs y, x = .ref l /\ vs = [y] /\ H l = some (.lst xs) /\ xs.length < sizeLine /\ Q .non (upd H l (.lst (xs ++ [y])))
theorem qU : MtM X "list.append" age := by
 intro pins s σ H x vs v us Q I rx rv h
 obtain ⟨l, xs, y, rfl, rfl, hH, hz, q⟩ := h
 cases rx
 obtain ⟨u, rfl, ru⟩ := rv.one
 obtain ⟨z, its, n, r, hl, e⟩ := I.lstM hH
 refine call_meets F.slot_list_append ⟨_, e, rfl⟩ asV (asL _ _) (PySem.list_append l its.toArray n u (by rw [apk]; omega)) ⟨e, ?_⟩
 refine ⟨.non, _, I.lset (its' := its ++ [u]) hH e (by simp) (r.append (.cons ru .nil)) ?_, rfl, q⟩
 rw [aph, apO]
 omega
def aoj : V -> List V -> Hp -> VK -> Prop := fun x vs H Q => ∃ l xs y, x = .ref l /\ vs = [] /\ H l = some (.lst xs) /\ xs[xs.length - 1]? = some y /\ Q y (upd H l (.lst xs.dropLast))
theorem amP : MtM X "list.pop" aoj := by
 intro pins s σ H x vs v us Q I rx rv h
 obtain ⟨l, xs, y, rfl, rfl, hH, hy, q⟩ := h
 cases rx
 have hus := rv.zero
 subst hus
 obtain ⟨z, its, n, r, hl, e⟩ := I.lstM hH
 obtain ⟨u, hu, ru⟩ := r.get hy
 have hy' : its.toArray[its.toArray.size - 1]? = some u := by
  show its.toArray[its.length - 1]? = some u
  rw [<- aqE, <- hl]
  exact hu
 refine call_meets F.slot_list_pop ⟨_, e, rfl⟩ F.entry_list_pop (F.args_list_pop_1 _) (MeetsSeq.list_pop_last l its.toArray n u hy' (by rw [apk]; omega)) ⟨e, ?_⟩
 refine ⟨y, _, I.lset (its' := its.dropLast) hH e ?_ r.dropLast ?_, ru, q⟩
 ·show its.toArray.eraseIdxIfInBounds (its.toArray.size - 1) = its.dropLast.toArray
  rw [apk, List.eraseIdxIfInBounds_toArray, afl]
 ·rw [List.length_dropLast]
  omega
end
end L2
namespace Att
open PySem PySem.W PySem.Calls PyProof.Rows
theorem aaR {P : Params} {h : Heap} : ∀ (ns : List Int) (vs : List Value), WellAll P h vs (ns.map WData.int) -> IntsAre vs ns := by
 intro ns
 induction ns with
 | nil =>
  intro vs w
  rw [arX] at w
  cases w
  exact .nil
 | cons n ns ih =>
  intro vs w
  rw [apq] at w
  cases w with
  | cons a b =>
   cases a
   exact .cons _ _ (ih _ b)
theorem ahp {l : OpenLaw} {n : Nat} (hn : l.most = some n) {P : Params} {h : Heap} {args : List WData} {vals : List Value}
  (hpre : l.row.toRowW.claim.pre args = true) (hwl : WellAll P h vals args) :
  ∃ a vs ns, vals = [Value.ref a] /\ args = [WData.list (ns.map WData.int)] /\ h.get? a = some { cls := .type "list", data := .seq vs.toArray } /\ IntsAre vs ns /\ ns.length <= n := by
 have hsh : WShape.hasAll [] args [.list .int] = true := (pre_splitW hpre).1
 have hc : l.pre.holds [] { args := args } = true := (pre_splitW hpre).2
 obtain ⟨d, r, rfl, h1, h2⟩ := hasAllW_cons hsh
 obtain rfl := hasAllW_nil h2
 obtain ⟨xs, rfl, h3⟩ := hasW_list h1
 obtain ⟨ns, rfl⟩ := items_int h3
 have hlen : ns.length <= n := by
  unfold OpenLaw.pre at hc
  have h4 : (WTm.not (.lt (.lit (.int (n : Int))) (.len (.arg 0)))).holds [] { args := [.list (ns.map .int)] } = true := by
   have h4 := (holds_andW hc).1
   rw [hn] at h4
   exact h4
  have h5 := condW_of h4 (w_not (w_lt w_lit (w_len_list (w_arg rfl))))
  rw [aoZ] at h5
  refine Nat.le_of_not_lt fun q => ?_
  have q' : (n : Int) < ((ns.length : Nat) : Int) := by omega
  first
   | (rw [decide_eq_true q'] at h5; exact absurd h5 (by decide))
   | (simp at h5; omega)
 cases hwl with
 | cons w1 w2 =>
  cases w2
  cases w1 with
  | list ho hall => exact ⟨_, _, ns, rfl, rfl, ho, aaR ns _ hall, hlen⟩
theorem ahq (l : OpenLaw) (args : List WData) : l.row.toRowW.claim.post args (.bool true) args = true :=
 postW_of (r := l.row.toRowW) (X := (true == true))
  (show WShape.has [] (.bool true) .bool = true by first | rfl | decide | simp [WShape.has, WShape.arms, WShape.armsAll])
  (show (WTm.eq .res (.lit (.bool true))).value [] { args := args, res := some (.bool true), after := args } = some (.bool (true == true)) from w_eq_bool (w_res rfl) w_lit) rfl
theorem attach_call {l : OpenLaw} {n : Nat} {q : Program} {loose : List Str} {XP : (Str -> Option Value) -> Heap -> Prop} {YP : World -> Heap -> Prop} {d : DefRec}
  (hn : l.most = some n) (hdf : d.params.defaults = [])
  (call : ∀ (w : World) (s₀ s₁ : Shared) (mg mb : Str -> Option Value) (fa : Addr) (o : Obj) (pm cd doc : Value) (a : Addr) (vs : List Value) (ns : List Int),
   Ground q loose [] XP w s₀ mg mb s₁.heap -> YP w s₁.heap ->
   s₁.heap.get? fa = some o -> o.data = .func (docDef d.name d.params d.body d.scope pm cd doc) -> s₁.heap.CodeRec cd d.name -> mg d.name = some (.ref fa) ->
   s₁.heap.get? a = some { cls := .type "list", data := .seq vs.toArray } -> IntsAre vs ns -> ns.length <= n -> s₁.gens = #[] ->
   codeAny (model l.prog w) callerA (.call (.ref fa) ⟨[.ref a], []⟩) (fun r s' => r = .ok (.ret (.bool true)) /\ OldK s₁.heap s'.heap /\ s'.os = s₁.os /\ AllBare s'.gens) s₁) :
  WalkO q loose XP YP l.row.toRowW d [] (fun f vs => PySem.call f vs) := by
 intro w s₀ s₁ mg mb G Y fa o pm cd doc dV kV ho hd hcd hD hmg hg args vals as hpre hlay hrd hwl hlo
 obtain rfl : dV = .none := Dflts.none hD hdf
 obtain rfl : kV = .none := Dflts.noKw hD
 obtain ⟨a, vs, ns, rfl, rfl, hobj, hints, hlen⟩ := ahp hn hpre hwl
 refine enter_call (codeAny_mono (call w s₀ s₁ mg mb fa o pm cd doc a vs ns G Y ho (fd_plain hd) hcd hmg hobj hints hlen hg) fun r s' hq => ?_)
 obtain ⟨rfl, h2, h3, h4⟩ := hq
 exact ⟨.inl ⟨.bool true, .bool true, [], rfl, fun _ => rfl, .bool true, ahq l _, fun _ => ⟨List.Pairwise.nil, fun _ hm => (nomatch hm)⟩⟩, h2, h3, h4⟩
section
variable {prog : Program} {w : World} {A : Around} {E : Value -> Shared -> Prop} {s : Shared} {K : Frag}
end
end Att
namespace L2
open PySem PySem.Spec PyProof.Rows
theorem ach : ∀ {vs : List Value} {ns : List Int}, IntsAre vs ns -> Vals (ns.map V.int) vs
 | _, _, .nil => .nil
 | _, _, .cons n t h => .cons ⟨t, rfl⟩ (ach h)
def amQ (H : Hp) : Prop := ∀ b, H b = none \/ ∃ o xs, H b = some (.frz o (.lst xs))
theorem aiC {P : Program} {w : World} {K : ao0} {mg mb : Str -> Option Value} {CX : CXT} {k : Nat} {fa a : Addr} {fd : FuncData} {x : Str} {sp : Sp} {s₁ : Shared} {vs : List Value} {ns : List Int}
  (KX : K.In s₁.heap) (hns : s₁.heap.Ns mainGlobals mg) (hb : s₁.heap.Ns builtinsNs mb) (hbb : ∀ x : Str, x ≠ "__name__" -> mb x = bootBuiltins x) (hlim : s₁.heap.NoLimit) (hg : s₁.gens = #[])
  (ha : s₁.heap.get? a = some { cls := .type "list", data := .seq vs.toArray }) (hi : IntsAre vs ns) (hl : ns.length <= sizeLine) (hr : Room k callerA)
  (F : ∀ base : Heap, K.In base -> base.Ns mainGlobals mg -> FnOk P w K mg base CX k fa fd [x] sp) (hbind : ∀ (s : Shared) (u : Value), BindsTo s fd ⟨[u], []⟩ [(x, u)])
  (hsp : ∀ H : Hp, amQ H -> SqL K H a (ns.map V.int) -> sp [.ref a] H (fun v _ => v = .bl true) fun _ _ _ => False)
  (hCX : ∀ H e s', CX [] H s₁ (fun _ _ _ => False) e s' -> False) :
  codeAny (model P w) callerA (.call (.ref fa) ⟨[.ref a], []⟩) (fun r s' => r = .ok (.ret (.bool true)) /\ OldK s₁.heap s'.heap /\ s'.os = s₁.os /\ AllBare s'.gens) s₁ := by
 have rv := ach hi
 have lenV := hi.length
 -- from an abstract heap in which nothing but the script may be tracked
 have core : ∀ H : Hp, amQ H -> SqL K H a (ns.map V.int) -> HOk P w H s₁.heap -> (∀ b, H b ≠ none -> b = a) -> (H a ≠ none -> K.lookup a = none) ->
   codeAny (model P w) callerA (.call (.ref fa) ⟨[.ref a], []⟩) (fun r s' => r = .ok (.ret (.bool true)) /\ OldK s₁.heap s'.heap /\ s'.os = s₁.os /\ AllBare s'.gens) s₁ := by
  intro H hO hS hok hA hK
  have base_of : ∀ {b : Addr} {o : Obj}, s₁.heap.get? b = some o -> H b = none -> (acM s₁.heap H).get? b = some o := fun e n => ait e n
  have noA : ∀ {b : Addr} {o : Obj} {es : Array DictEntry} {ep : Nat}, s₁.heap.get? b = some o -> o.data = .dict es ep -> H b = none := fun {b o es ep} e d => by
   cases q : H b with
   | none => rfl
   | some u =>
    have e' : b = a := hA b (by rw [q]; simp)
    subst e'
    rw [ha] at e; cases e
    have d' : Data.seq vs.toArray _ = Data.dict es ep := d
    cases d'
  have nsK : ∀ {b : Addr} {m : Str -> Option Value}, s₁.heap.Ns b m -> (acM s₁.heap H).Ns b m := fun {b m} ⟨o, es, ep, e, d, r⟩ => ⟨o, es, ep, base_of e (noA e d), d, r⟩
  have hKb : K.In (acM s₁.heap H) := fun b o e => base_of (KX b o e) (by
   cases q : H b with
   | none => rfl
   | some u =>
    have e' : b = a := hA b (by rw [q]; simp)
    subst e'
    rw [hK (by rw [q]; simp)] at e; cases e)
  have hM : Mod K mg (acM s₁.heap H) := ⟨hKb, nsK hns, ⟨mb, nsK hb, hbb⟩, let ⟨mc, h1, h2⟩ := hlim; ⟨mc, nsK h1, h2⟩⟩
  have e0 : Env0 P w K mg (acM s₁.heap H) callerA [] s₁ H := ⟨rfl, hM, fun b o e => aks e, aqW (ahj _ _), trivial, fun b hb => absurd (show b ∈ ([] : List Addr) from hb) (by simp), hok, .of_eq hg⟩
  refine codeAny_mono ((F _ hKb (nsK hns)).run callerA [] s₁ H ⟨[.ref a], []⟩ [.ref a] [.ref a] _ _ hr e0 (hbind s₁ (.ref a)) (.cons rfl .nil) (hsp H hO hS)) fun r s' h => ?_
  cases r with
  | error e => exact (hCX H e s' h).elim
  | ok fl =>
   cases fl with
   | next => exact ap0 h
   | brk => exact ap0 h
   | cont => exact ap0 h
   | ret u =>
    obtain ⟨v, H', os, bare, un, hok', r', q⟩ := h
    have q' : v = .bl true := q
    subst q'
    obtain rfl : u = Value.bool true := r'
    refine ⟨rfl, OldK.of_keep fun b o e => ?_, os, bare⟩
    cases q : H b with
    | none => exact un.keep b o e q (by intro z; exact absurd (show b ∈ ([] : List Addr) from z) (by simp)) (by simp)
    | some u =>
     rcases hO b with z | ⟨ob, xs, z⟩
     ·rw [q] at z; cases z
     ·have z2 := un.frzs b ob _ z
      obtain ⟨e1, _⟩ := hok b _ z
      obtain ⟨e2, _⟩ := hok' b _ z2
      rw [e] at e1; cases e1
      exact e2
 cases hk : K.lookup a with
 | some o =>
  -- the script is one of the module's own objects
  have e := KX a o hk
  rw [ha] at e
  cases e
  refine core (fun _ => none) (fun _ => .inl rfl) (.inr ⟨_, vs.toArray, _, hk, rfl, rfl, rfl, by rw [apk, lenV]; exact hl, by simpa using rv⟩) (fun b u z => by have z' : (none : Option HO) = some u := z; cases z') (fun b z => absurd rfl z) fun z => absurd rfl z
 | none =>
  refine core (fun b => if b = a then some (.frz { cls := .type "list", data := .seq vs.toArray } (.lst (ns.map V.int))) else none) (fun b => ?_) (.inl (.inr ⟨{ cls := .type "list", data := .seq vs.toArray }, if_pos rfl⟩)) (fun b u z => ?_) (fun b z => ?_) fun _ => hk
  ·by_cases hb : b = a
   ·exact .inr ⟨_, _, if_pos hb⟩
   ·exact .inl (if_neg hb)
  ·by_cases hb : b = a
   ·have z' := (if_pos hb).symm.trans z
    cases z'
    subst hb
    exact ⟨ha, by rw [aoZ]; exact hl, vs, _, rv, ha⟩
   ·have z' := (if_neg hb).symm.trans z
    cases z'
  ·by_cases hb : b = a
   ·exact hb
   ·exact absurd (if_neg hb) z
abbrev KOf {K : ao0} {h : Heap} (_ : K.In h) : ao0 := K
theorem walk_of {l : PySem.W.OpenLaw} {n k : Nat} {q : Program} {loose : List Str} {XP : (Str -> Option Value) -> Heap -> Prop} {YP : World -> Heap -> Prop} {d : DefRec} {K : Params -> ao0} {CX : World -> CXT} {sp : World -> Sp} {x : Str}
  (hn : l.most = some n) (hn2 : n <= sizeLine) (hdf : d.params.defaults = []) (hr : Room k callerA)
  (hY : ∀ (w : World) (h : Heap), YP w h -> (K w.params).In h)
  (F : ∀ (w : World) (mg : Str -> Option Value) (fa : Addr) (h : Heap), (K w.params).In h -> h.Ns mainGlobals mg -> mg d.name = some (.ref fa) ->
   ∃ fd : FuncData, (∀ (s : Shared) (u : Value), BindsTo s fd ⟨[u], []⟩ [(x, u)]) /\
    ∀ base : Heap, (K w.params).In base -> base.Ns mainGlobals mg -> FnOk l.prog w (K w.params) mg base (CX w) k fa fd [x] (sp w))
  (hsp : ∀ (w : World) (H : Hp) (a : Addr) (ns : List Int), ns.length <= n -> amQ H -> SqL (K w.params) H a (ns.map V.int) -> sp w [.ref a] H (fun v _ => v = .bl true) fun _ _ _ => False)
  (hCX : ∀ (w : World) (H : Hp) (s : Shared) (e : Value) (s' : Shared), CX w [] H s (fun _ _ _ => False) e s' -> False) :
  PySem.W.WalkO q loose XP YP l.row.toRowW d [] (fun f vs => PySem.call f vs) := by
 refine Att.attach_call hn hdf fun w s₀ s₁ mg mb fa o pm cd doc a vs ns G Y ho hd hcd hmg hobj hints hlen hg => ?_
 have KX := hY w _ Y
 obtain ⟨fd, hb, hF⟩ := F w mg fa _ KX G.T.g hmg
 exact aiC KX G.T.g G.T.b G.T.builtins G.T.nolimit hg hobj hints (apu hlen hn2) hr hF hb (fun H hO hS => hsp w H a ns hlen hO hS) fun H e s' => hCX w H s₁ e s'
end L2
/- THE LAST THEOREM (shape; LID, My.* are yours):
   My.Adr: a structure of the addresses that your layer names (classes, functions); My.Txt K t: a structure (Prop) of the equations over K;
   My.txt_mk : {K} {implicit addresses ..} (e1 : nsIn K mainGlobals "law" = some (some (.ref f))) (e2 : K.lookup f = some ⟨oc, od, .func (fnOf "law" "law" params body scope dV kV doc pm an cdv ct), sl⟩) (e3 : codeIn K cdv "law" = true) .. : ∃ t, My.Txt K t
set_option maxRecDepth 100000 in
set_option maxHeartbeats 0 in
theorem PySem.Challenge.cw_LID_holds : PySem.Challenge.rw_LID.Holds := by
 w_on; o_law; k_head; (case hw => w_witness2)
 k_fill
 refine L2.walk_of (l := PySem.Challenge.rw_LID) (n := 63) (k := 40) (x := "script") (CX := fun w => ..) (sp := fun _ => My.sp_law) rfl (by decide) rfl ⟨rfl, by decide, by decide⟩ (fun w h Y => PySem.W.kIn_of Y) ?F ?S ?C
 case F =>
  intro w mg fa h KX G hmg
  have T : ∃ t, My.Txt (L2.KOf KX) t := by
   dsimp only [L2.KOf]                          -- K must stand as «<heap const> w.params» for k_is
   refine' My.txt_mk ?e1 ?e2 ?e3 ..
   (case e1 => PySem.W.k_is)                    -- in the order: a name -> its address -> its object -> its parts
   (case e2 => PySem.W.k_is)
   ..
  obtain ⟨t, T⟩ := T
  have e0 := hmg.symm.trans (apJ KX G T.law)
  cases e0                                       -- fa is the law's own address
  exact ⟨_, fun s u => .of_eq rfl, fun base kb nb => My.law_fn T kb nb⟩     -- if «.of_eq rfl» comes too early: refine' ⟨_, ?b, fun base kb nb => My.law_fn T kb nb⟩; exact fun s u => .of_eq rfl
 case S => exact fun w H a ns hl hO hS => ..
 case C => exact ..
(the tactic k_is has no namespace: write k_is) -/
namespace L2
open PySem PySem.Spec PyProof.Rows
def qi (s : Stmt) : Arguments := match s with
 | .FunctionDef _ a _ _ _ _ _ _ _ _ => a
 | _ => { posonlyargs := [], args := [], vararg := none, kwonlyargs := [], kw_defaults := [], kwarg := none, defaults := [] }
def yr (s : Stmt) : List Stmt := match s with
 | .FunctionDef _ _ b _ _ _ _ _ _ _ => b
 | _ => []
def zf (s : Stmt) : Scope := match s with
 | .FunctionDef _ _ _ _ _ _ sc _ _ _ => sc
 | _ => { kind := .function, names := [], isGenerator := false, isCoroutine := false }
abbrev CX0 : CXT := fun _ _ _ _ _ _ => False
abbrev E0 : XK := fun _ _ _ => False
theorem aok {X : Cx} : Passes CX0 X E0 := fun _ _ _ _ _ _ _ h => h.elim
structure Fun (K : ao0) (x qual : Str) (st : Stmt) (f : Addr) (fd : FuncData) : Prop where
 ex : ∃ (oc : Value) (od : Option Addr) (kV doc pm : Value) (an : Option Addr) (cdv ct : Value) (osl : Array (Option Value)),
  fd = aqn x qual (qi st) (yr st) (zf st) .none kV doc pm an cdv ct /\ K.lookup f = some ⟨oc, od, .func fd, osl⟩ /\ ars K cdv qual = true
 kp : apW K (.ref f) = true
section
variable {P : Program} {w : World} {K : ao0} {mg : Str -> Option Value} {base : Heap}
theorem Fun.ok {x qual : Str} {st : Stmt} {f : Addr} {fd : FuncData} {N ps : List Str} {k : Nat} {sp : Sp} (F : Fun K x qual st f fd) (S : FnScope N ps (zf st)) (len : ∀ vs H Q E, sp vs H Q E -> vs.length = ps.length)
  (hbody : ∀ (cdv : Value) (A : Around) (outer : List Env) (s : Shared) (H : Hp) (vs : List V) (Q : VK) (E : XK), Room k (A.deeper (envOfC qual (zf st) s.heap.objs.size f cdv)) -> sp vs H Q E ->
   ∃ t, PSs (zI CX0 P w K mg base N qual (zf st) f cdv A outer s H E).nox (yr st) t /\ t { nx := fun _ H' => Q .non H', rt := Q } (start N vs) H) : FnOk P w K mg base CX0 (k + 1) f fd ps sp := by
 obtain ⟨oc, od, kV, doc, pm, an, cdv, ct, osl, rfl, lk, hcd⟩ := F.ex
 refine al4 lk hcd S len fun A outer s H vs Q E hr hsp => ?_
 obtain ⟨t, h, q⟩ := hbody cdv A outer s H vs Q E hr hsp
 exact ⟨t, h.nox, q⟩
theorem Fun.binds {x qual : Str} {st : Stmt} {f : Addr} {fd : FuncData} {ps : List Str} (F : Fun K x qual st f fd)
  (h : ∀ (kV doc pm : Value) (an : Option Addr) (cdv ct : Value) (us : List Value), us.length = ps.length -> bindArgs (aqn x qual (qi st) (yr st) (zf st) .none kV doc pm an cdv ct) ⟨us, []⟩ = pure (ps.zip us)) : Binds K fd ps [] := by
 obtain ⟨oc, od, kV, doc, pm, an, cdv, ct, osl, rfl, lk, hcd⟩ := F.ex
 exact .all (h kV doc pm an cdv ct)
theorem afm {x qual : Str} {st : Stmt} {f : Addr} {oc : Value} {od an : Option Addr} {osl : Array (Option Value)} {kV doc pm cdv ct : Value} (l : K.lookup f = some ⟨oc, od, .func (aqn x qual (qi st) (yr st) (zf st) .none kV doc pm an cdv ct), osl⟩)
  (c : ars K cdv qual = true) (k : apW K (.ref f) = true) : Fun K x qual st f (aqn x qual (qi st) (yr st) (zf st) .none kV doc pm an cdv ct) := ⟨⟨oc, od, kV, doc, pm, an, cdv, ct, osl, rfl, l, c⟩, k⟩
end
theorem z4 {n : Nat} (h : n <= 1000) : n < sizeLine := Nat.lt_of_le_of_lt h (by decide)
section
variable {X : Cx}
theorem pv (i : Nat) {x : Str} {pos : Pos} (hN : X.N[i]? = some x := by rfl) (hv : Vis X.env.scope x := by first | exact Or.inl rfl | exact Or.inr (Or.inl rfl) | exact Or.inr (Or.inr rfl)) (hd : (x == ("__debug__" : Str)) = false := by decide)
  (hcd : (x == ("__classdict__" : Str)) = false := by decide) : PE X (.Name x pos) (yf i) := amx hN hv hd hcd
end
def Same (H H' : Hp) : Prop := ∀ b o, H b = some o -> H' b = some o
theorem Same.refl (H : Hp) : Same H H := fun _ _ h => h
theorem Same.trans {H H1 H2 : Hp} (a : Same H H1) (b : Same H1 H2) : Same H H2 := fun c o h => b c o (a c o h)
theorem Same.free {H H' : Hp} (e : Same H H') {l : Addr} (h : H' l = Option.none) : H l = Option.none := by
 cases q : H l with
 | none => rfl
 | some o =>
  rw [e l o q] at h
  cases h
theorem Same.seq {K : ao0} {H H' : Hp} {a : Addr} {xs : List V} (e : Same H H') (h : SqL K H a xs) : SqL K H' a xs := by
 rcases h with (h | ⟨o, h⟩) | h
 ·exact .inl (.inl (e _ _ h))
 ·exact .inl (.inr ⟨o, e _ _ h⟩)
 ·exact .inr h
def ye (env : Env) : List (Str × NameKind) -> List (Str × Addr) -> List (Str × Addr)
 | [], acc => acc
 | (x, k) :: r, acc => if k == .free then ye env r ((x, (env.cells.lookup x).getD 0) :: acc) else ye env r acc
theorem afn {sc : Scope} {env : Env} (h : ∀ x, (x, NameKind.free) ∈ sc.names -> ∃ c, env.cells.lookup x = some c) : closureFor sc env = pure (ye env sc.names []) := by
 have key : ∀ (names : List (Str × NameKind)) (acc : List (Str × Addr)), (∀ x, (x, NameKind.free) ∈ names -> ∃ c, env.cells.lookup x = some c) ->
   (forIn names acc fun (x : Str × NameKind) (cs : List (Str × Addr)) => if (x.2 == NameKind.free) = true then (do let c <- cellOf env x.1; pure (ForInStep.yield ((x.1, c) :: cs))) else pure (ForInStep.yield cs)) = (pure (ye env names acc) : Sem (List (Str × Addr))) := by
  intro names
  induction names with
  | nil => intro acc _; rfl
  | cons p r ih =>
   intro acc hh
   obtain ⟨x, k⟩ := p
   rw [aqZ]
   unfold ye
   by_cases hk : (k == NameKind.free) = true
   ·have hk' : k = .free := by simpa using hk
    subst hk'
    obtain ⟨c, hc⟩ := hh x ao4
    simp only [beq_self_eq_true, if_true]
    rw [<- ih _ fun y hy => hh y (ao3 _ hy)]
    have : cellOf env x = pure c := by unfold cellOf; rw [hc]
    rw [this, hc]
    rfl
   ·simp only [hk, apI, if_false]
    rw [<- ih _ fun y hy => hh y (ao3 _ hy)]
    rfl
 simp only [closureFor]
 have q := key sc.names [] h
 refine Eq.trans ?_ (Eq.trans (congrArg (fun z => z >>= fun r => pure r) q) ?_)
 ·rfl
 ·rfl
theorem qj {env : Env} : ∀ {names : List (Str × NameKind)} {acc : List (Str × Addr)} {p : Str × Addr}, p ∈ ye env names acc -> p ∈ acc \/ ((p.1, NameKind.free) ∈ names /\ p.2 = (env.cells.lookup p.1).getD 0)
 | [], acc, p, h => .inl h
 | (x, k) :: r, acc, p, h => by
  unfold ye at h
  split at h
  ·rename_i hk
   have hk' : k = .free := by simpa using hk
   subst hk'
   rcases qj h with q | ⟨q, e⟩
   ·rcases ao7.mp q with q | q
    ·subst q; exact .inr ⟨ao4, rfl⟩
    ·exact .inl q
   ·exact .inr ⟨ao3 _ q, e⟩
  ·rcases qj h with q | ⟨q, e⟩
   ·exact .inl q
   ·exact .inr ⟨ao3 _ q, e⟩
theorem qD {α : Type} : ∀ {l : List (Str × α)} {x : Str} {v : α}, (x, v) ∈ l -> ∃ u, l.lookup x = some u
 | (y, u) :: r, x, v, h => by
  rw [apS]
  cases hb : x == y with
  | true => exact ⟨u, rfl⟩
  | false =>
   rcases ao7.mp h with e | h
   ·have : x = y := congrArg Prod.fst e
    subst this
    simp at hb
   ·exact qD h
theorem vE {env : Env} : ∀ {names : List (Str × NameKind)} {acc : List (Str × Addr)} {x : Str}, (x, NameKind.free) ∈ names -> (x, (env.cells.lookup x).getD 0) ∈ ye env names acc
 | (y, k) :: r, acc, x, h => by
  have mono : ∀ (names : List (Str × NameKind)) (acc : List (Str × Addr)) (p : Str × Addr), p ∈ acc -> p ∈ ye env names acc := by
   intro names
   induction names with
   | nil => intro acc p hp; exact hp
   | cons q r ih =>
    intro acc p hp
    obtain ⟨a, b⟩ := q
    unfold ye
    split
    ·exact ih _ _ (ao3 _ hp)
    ·exact ih _ _ hp
  unfold ye
  rcases ao7.mp h with e | h
  ·cases e
   simp only [beq_self_eq_true, if_true]
   exact mono _ _ _ ao4
  ·split
   ·exact vE h
   ·exact vE h
theorem vo {env : Env} {names : List (Str × NameKind)} {x : Str} {c : Addr} (h : ∀ x, (x, NameKind.free) ∈ names -> ∃ c, env.cells.lookup x = some c) (e : (ye env names []).lookup x = some c) : env.cells.lookup x = some c /\ (x, NameKind.free) ∈ names := by
 rcases qj (mem_of_lookup e) with q | ⟨q, e'⟩
 ·cases q
 ·obtain ⟨c', hc⟩ := h _ q
  dsimp only at hc e'
  rw [hc] at e'
  exact ⟨by rw [hc]; exact congrArg some e'.symm, q⟩
theorem aaE {env : Env} {names : List (Str × NameKind)} {x : Str} {c : Addr} (h : ∀ x, (x, NameKind.free) ∈ names -> ∃ c, env.cells.lookup x = some c) (hx : (x, NameKind.free) ∈ names) (e : env.cells.lookup x = some c) : (ye env names []).lookup x = some c := by
 obtain ⟨u, hu⟩ := qD (vE (env := env) (acc := []) hx)
 have := (vo h hu).1
 rw [this] at e
 rw [hu, e]
theorem yR : ∀ {names : List (Str × NameKind)} {n : Nat} {acc : List (Str × Addr)} {x : Str} {c : Addr}, (cellsFrom n names acc).lookup x = some c -> (n <= c /\ c < n + names.length /\ (x, NameKind.cell) ∈ names) \/ (acc.lookup x = some c /\ (x, NameKind.cell) ∉ names)
 | [], n, acc, x, c, h => .inr ⟨h, by simp⟩
 | (y, k) :: r, n, acc, x, c, h => by
  unfold cellsFrom at h
  split at h
  ·rename_i hk
   have hk' : k = .cell := by simpa using hk
   subst hk'
   rcases yR h with ⟨q1, q2, q3⟩ | ⟨q1, q2⟩
   ·exact .inl ⟨aru q1, apr q2 (by rw [apn]; omega), ao3 _ q3⟩
   ·rw [apS] at q1
    cases hb : x == y with
    | true =>
     rw [hb] at q1
     cases q1
     have : x = y := by simpa using hb
     subst this
     exact .inl ⟨ao5 _, by rw [apn]; exact Nat.lt_add_of_pos_right (arY _), ao4⟩
    | false =>
     rw [hb] at q1
     refine .inr ⟨q1, fun z => ?_⟩
     rcases ao7.mp z with e | z
     ·have : x = y := congrArg Prod.fst e
      subst this
      simp at hb
     ·exact q2 z
  ·rename_i hk
   rcases yR h with ⟨q1, q2, q3⟩ | ⟨q1, q2⟩
   ·exact .inl ⟨q1, apr q2 (by rw [apn]; omega), ao3 _ q3⟩
   ·refine .inr ⟨q1, fun z => ?_⟩
    rcases ao7.mp z with e | z
    ·have : k = .cell := (congrArg Prod.snd e).symm
     subst this
     simp at hk
    ·exact q2 z
theorem y3 : ∀ (names : List (Str × NameKind)) (n : Nat) (acc : List (Str × Addr)), (acc.Pairwise fun x y => x.2 ≠ y.2) -> (∀ p ∈ acc, p.2 < n) -> (cellsFrom n names acc).Pairwise fun x y => x.2 ≠ y.2
 | [], n, acc, h, _ => h
 | (y, k) :: r, n, acc, h, hl => by
  unfold cellsFrom
  split
  ·refine y3 r (n + 1) _ (aqz.mpr ⟨fun p hp => ?_, h⟩) fun p hp => ?_
   ·exact arp (hl p hp)
   ·rcases ao7.mp hp with e | hp
    ·subst e; exact asv _
    ·exact aqp (hl p hp)
  ·exact y3 r n acc h hl
theorem abX {names : List (Str × NameKind)} {n : Nat} {acc : List (Str × Addr)} {x : Str} (h : names.lookup x = some .cell) : ∃ c, (cellsFrom n names acc).lookup x = some c :=
 aqm.mp (aqu names n acc (.inl h))
theorem vp {names : List (Str × NameKind)} {n : Nat} {acc : List (Str × Addr)} {x : Str} (h : (acc.lookup x).isSome = true) : ∃ c, (cellsFrom n names acc).lookup x = some c :=
 aqm.mp (aqu names n acc (.inr h))
theorem jT : ∀ (names : List (Str × NameKind)) (h : Heap) (acc : List (Str × Addr)) (x : Str) (c : Addr), (cellsFrom h.objs.size names acc).lookup x = some c -> h.objs.size <= c -> (∀ p ∈ acc, p.2 < h.objs.size) -> (pushCells h names).IsCell c none
 | [], h, acc, x, c, e, hc, hl => absurd (hl _ (mem_of_lookup e)) (as1.mpr hc)
 | (y, k) :: r, h, acc, x, c, e, hc, hl => by
  unfold cellsFrom at e
  unfold pushCells
  split at e
  ·rename_i hk
   rw [if_pos hk]
   by_cases hcc : c = h.objs.size
   ·subst hcc
    exact ⟨_, pushCells_keeps _ _ _ _ (apA _ rfl), rfl⟩
   ·have es : (h.push { cls := .type "cell", data := .cell none }).objs.size = h.objs.size + 1 := ar1 ..
    refine jT r _ ((y, h.objs.size) :: acc) x c (by rw [es]; exact e) (by rw [es]; exact Nat.lt_of_le_of_ne hc (aqa hcc)) fun p hp => ?_
    rw [es]
    rcases ao7.mp hp with e | hp
    ·subst e; exact asv _
    ·exact aqp (hl p hp)
  ·rename_i hk
   rw [if_neg hk]
   exact jT r h acc x c e hc hl
def zj (X : Cx) (sc : Scope) (N : List Str) (s₀ : Shared) (H₀ : Hp) (ex : List Addr) (pn : List (Addr × Obj)) : Cx :=
 { X with N := N, s₀ := s₀, H₀ := H₀, env := compEnvC sc (cellsFrom (s₀.heap.objs.size + 1) sc.names (ye X.env sc.names [])) s₀.heap.objs.size X.env,
          outer := X.stack, ex := ex, fn := fun x => decide (sc.names.lookup x = some .cell), pn := pn, xe := fun _ _ => False }
structure CompScope (NO : List Str) (scO : Scope) (N : List Str) (sc : Scope) (own : Nat) (fr : List Nat) : Prop where
 kind : sc.kind = .function
 nd : N.Nodup
 snd : (sc.names.map (·.1)).Nodup
 free : ∀ p ∈ sc.names, p.2 = .free -> scO.names.lookup p.1 = some .cell \/ scO.names.lookup p.1 = some .free
 frn : ∀ p ∈ (N.drop own).zip fr, NO[p.2]? = some p.1 /\ sc.names.lookup p.1 = some .free
 len : N.length = own + fr.length
def y4 (own : Nat) (fr : List Nat) (σ : St) : St := aqT own none ++ fr.map fun j => (σ[j]?).getD none
theorem yh {α : Type} : ∀ {l : List (Str × α)} {x : Str} {k : α}, (l.map (·.1)).Nodup -> (x, k) ∈ l -> l.lookup x = some k
 | (y, u) :: r, x, k, nd, h => by
  rw [apq] at nd
  obtain ⟨h1, h2⟩ := apX.mp nd
  rw [apS]
  rcases ao7.mp h with e | h'
  ·cases e; simp
  ·have : x ≠ y := by
    intro e
    subst e
    exact h1 (apm.mpr ⟨(x, k), h', rfl⟩)
   rw [beq_eq_false_iff_ne.mpr this]
   exact yh h2 h'
theorem jt {env : Env} : ∀ {names : List (Str × NameKind)} {x : Str} {k : NameKind}, names.lookup x = some k ->
  (names.map fun (n, k) => if (k == NameKind.free && env.scope.kind == .function && env.kindOf n == some .cell) then (n, NameKind.cell) else (n, k)).lookup x = some (if (k == NameKind.free && env.scope.kind == .function && env.kindOf x == some .cell) then .cell else k)
 | (n, k') :: r, x, k, h => by
  have ih := @jt env r x k
  show List.lookup x ((if (k' == NameKind.free && env.scope.kind == .function && env.kindOf n == some .cell) = true then (n, NameKind.cell) else (n, k')) :: _) = _
  cases hx : x == n with
  | true =>
   have : x = n := by simpa using hx
   subst this
   simp only [apS, hx] at h
   cases h
   split <;> simp [apS]
  | false =>
   simp only [apS, hx] at h
   split
   ·simp only [apS, hx]; exact ih h
   ·simp only [apS, hx]; exact ih h
theorem ja {env : Env} : ∀ {names : List (Str × NameKind)} {x : Str}, names.lookup x = none ->
  (names.map fun (n, k) => if (k == NameKind.free && env.scope.kind == .function && env.kindOf n == some .cell) then (n, NameKind.cell) else (n, k)).lookup x = none
 | [], _, _ => rfl
 | (n, k') :: r, x, h => by
  have ih := @ja env r x
  show List.lookup x ((if (k' == NameKind.free && env.scope.kind == .function && env.kindOf n == some .cell) = true then (n, NameKind.cell) else (n, k')) :: _) = _
  cases hx : x == n with
  | true => simp only [apS, hx] at h; cases h
  | false =>
   simp only [apS, hx] at h
   split
   ·simp only [apS, hx]; exact ih h
   ·simp only [apS, hx]; exact ih h
section
variable {X : Cx} {pins : List (Addr × Obj)} {σ : St} {H : Hp} {s : Shared} {NO N : List Str} {scO sc : Scope} {own : Nat} {fr : List Nat} {fp : List Addr}
theorem aiD {tk : Nat} (S : CompScope NO scO N sc own fr) (hN : X.N = NO) (hsc : X.env.scope = scO) (I : Inv X pins σ H s) (hf : ∀ b ∈ fp, vT X pins H b) (ho : ∀ b ∈ fp, ∃ o, s.heap.get? b = some o /\ ∀ v, o.data ≠ .cell v) :
  Inv (zj X sc N s H fp (X.pn ++ pins)) [] (y4 own fr σ) H { s with heap := pushCells (s.heap.push { cls := .type "dict", data := .dict #[] }) sc.names, toks := tk } := by
 have hfree : ∀ x, (x, NameKind.free) ∈ sc.names -> ∃ c, X.env.cells.lookup x = some c := fun x hx => I.ok.has x (by
  show X.env.scope.names.lookup x = _ \/ X.env.scope.names.lookup x = _
  rw [hsc]
  exact S.free _ hx rfl)
 have hclt : ∀ p ∈ ye X.env sc.names [], p.2 < s.heap.objs.size := fun p hp => by
  rcases qj hp with q | ⟨q, e⟩
  ·cases q
  ·obtain ⟨c, hc⟩ := hfree _ q
   rw [e, hc]
   obtain ⟨v, o, ho, _⟩ := I.cell _ c hc
   exact apf ho
 have hsz : (s.heap.push { cls := .type "dict", data := .dict #[] }).objs.size = s.heap.objs.size + 1 := ar1 ..
 have hk : ∀ b o, s.heap.get? b = some o -> (pushCells (s.heap.push { cls := .type "dict", data := .dict #[] }) sc.names).get? b = some o := fun b o e => pushCells_keeps _ _ _ _ (apb _ e)
 have hcase : ∀ {x : Str} {c : Addr}, (cellsFrom (s.heap.objs.size + 1) sc.names (ye X.env sc.names [])).lookup x = some c -> (s.heap.objs.size + 1 <= c /\ (x, NameKind.cell) ∈ sc.names) \/ (X.env.cells.lookup x = some c /\ (x, NameKind.free) ∈ sc.names) := fun {x c} e => by
  rcases yR e with ⟨q1, _, q3⟩ | ⟨q1, _⟩
  ·exact .inl ⟨q1, q3⟩
  ·exact .inr (vo hfree q1)
 have clap : (ye X.env sc.names []).Pairwise fun x y => x.2 ≠ y.2 := by
  have key : ∀ (names : List (Str × NameKind)) (acc : List (Str × Addr)), (∀ p ∈ acc, X.env.cells.lookup p.1 = some p.2) -> (∀ x, (x, NameKind.free) ∈ names -> ∃ c, X.env.cells.lookup x = some c) -> (acc.Pairwise fun x y => x.2 ≠ y.2) -> (∀ p ∈ acc, (p.1, NameKind.free) ∉ names) -> (names.map (·.1)).Nodup ->
    (ye X.env names acc).Pairwise fun x y => x.2 ≠ y.2 := by
   intro names
   induction names with
   | nil => intro acc _ _ h _ _; exact h
   | cons p r ih =>
    intro acc h1 h2 h3 h4 h5
    obtain ⟨y, k⟩ := p
    rw [apq] at h5
    obtain ⟨n1, n2⟩ := apX.mp h5
    unfold ye
    split
    ·rename_i hk
     have hk' : k = .free := by simpa using hk
     subst hk'
     obtain ⟨c, hc⟩ := h2 y ao4
     rw [hc]
     refine ih _ (fun p hp => ?_) (fun x hx => h2 x (ao3 _ hx)) (aqz.mpr ⟨fun p hp => ?_, h3⟩) (fun p hp => ?_) n2
     ·rcases ao7.mp hp with e | hp
      ·subst e; exact hc
      ·exact h1 p hp
     ·intro e
      have e' : p.2 = c := e.symm
      have := I.ok.inj _ _ _ hc (e' ▸ h1 p hp)
      exact h4 p hp (this ▸ ao4)
     ·rcases ao7.mp hp with e | hp
      ·subst e
       intro z
       exact n1 (apm.mpr ⟨_, z, rfl⟩)
      ·intro z; exact h4 p hp (ao3 _ z)
    ·exact ih acc h1 (fun x hx => h2 x (ao3 _ hx)) h3 (fun p hp z => h4 p hp (ao3 _ z)) n2
  exact key sc.names [] (fun p hp => by cases hp) hfree List.Pairwise.nil (fun p hp => by cases hp) S.snd
 have apart := y3 sc.names (s.heap.objs.size + 1) _ clap fun p hp => aqp (hclt p hp)
 have hkd : ∀ x, (zj X sc N s H fp (X.pn ++ pins)).env.kindOf x = some .cell \/ (zj X sc N s H fp (X.pn ++ pins)).env.kindOf x = some .free -> (x, NameKind.cell) ∈ sc.names \/ (x, NameKind.free) ∈ sc.names := fun x hx => by
  cases q : sc.names.lookup x with
  | none =>
   have e : (zj X sc N s H fp (X.pn ++ pins)).env.kindOf x = none := ja q
   rw [e] at hx
   rcases hx with z | z <;> cases z
  | some k =>
   have e : (zj X sc N s H fp (X.pn ++ pins)).env.kindOf x = some _ := jt (env := X.env) q
   rw [e] at hx
   have hm := mem_of_lookup q
   cases k <;> first | exact .inl hm | exact .inr hm | (rcases hx with z | z <;> cases z)
 have cellAt : ∀ x c, (cellsFrom (s.heap.objs.size + 1) sc.names (ye X.env sc.names [])).lookup x = some c -> ∃ v, (pushCells (s.heap.push { cls := .type "dict", data := .dict #[] }) sc.names).IsCell c v := fun x c e => by
  rcases hcase e with ⟨q, _⟩ | ⟨q, _⟩
  ·exact ⟨none, jT _ _ _ x c (by rw [hsz]; exact e) (by rw [hsz]; exact q) fun p hp => by rw [hsz]; exact aqp (hclt p hp)⟩
  ·obtain ⟨v, o, ho, hd⟩ := I.cell x c q
   exact ⟨v, o, hk _ _ ho, hd⟩
 have lt_of_cell : ∀ x c, X.env.cells.lookup x = some c -> c < s.heap.objs.size := fun x c e => by
  obtain ⟨v, o, ho, hd⟩ := I.cell x c e
  exact apf ho
 have lt_of_fp : ∀ b ∈ fp, b < s.heap.objs.size := fun b hb => by
  obtain ⟨o, e, _⟩ := ho b hb
  exact apf e
 have okX : (zj X sc N s H fp (X.pn ++ pins)).Ok := by
  refine ⟨I.mod, S.kind, I.ok.glob, I.ok.blt, ao5 _, fun x y c h1 h2 => name_of_addr apart (mem_of_lookup h1) (mem_of_lookup h2), fun x hx => ?_, fun x c hx hc => ?_, I.ok.hd, I.ok.frames, .inl rfl, fun b hb => ⟨apB (lt_of_fp b hb), fun x c e => ?_⟩, I.bs, apu I.ok.bsz I.sz, fun b o e hb => ?_, fun b hb z => ?_, I.stack, I.stkFree⟩
  ·rcases hkd x hx with q | q
   ·exact abX (yh S.snd q)
   ·obtain ⟨c, hc⟩ := hfree x q
    exact vp (by rw [aaE hfree q hc]; rfl)
  ·have hx' : sc.names.lookup x = some .cell := of_decide_eq_true hx
   rcases hcase hc with ⟨q, _⟩ | ⟨_, q⟩
   ·exact aru q
   ·rw [yh S.snd q] at hx'; cases hx'
  ·rcases hcase e with ⟨q, _⟩ | ⟨q, _⟩
   ·exact arp (apr (lt_of_fp b hb) (aru q))
   ·exact (hf b hb).2.2.2.2.1 x c q
  ·rcases (hf b hb).2.2.2.1 with z | z
   ·exact I.ok.noex b o e z
   ·exact absurd (apf e) (as1.mpr (apu I.ok.bsz z))
  ·rcases ao7.mp (I.stkSub b z) with q | q
   ·exact (hf b hb).2.1 q
   ·exact (hf b hb).2.2.1 q
 refine ⟨okX, rfl, I.bare, Un.kept hk, ⟨fun _ => none, (Heap.Ns.new s.heap (.type "dict")).keeps (pushCells_keeps _ _), fun i x v h1 h2 h3 => ?_⟩, cellAt, I.hok.fresh (ao5 _), fun x c e => ?_, fun p hp => ?_, I.hok.kept hk, ?_⟩
 ·obtain ⟨m, _, hl⟩ := id I.loc
  have h2' : (y4 own fr σ)[i]? = some (some v) := h2
  have hio : own <= i := by
   unfold y4 at h2'
   refine Nat.le_of_not_lt fun hi => ?_
   rw [ape (by simpa using hi), aqU] at h2'
   split at h2' <;> cases h2'
  obtain ⟨k, rfl⟩ := Nat.exists_eq_add_of_le hio
  have h1' : N[own + k]? = some x := h1
  unfold y4 at h2'
  rw [apl (by simp)] at h2'
  simp only [arG, Nat.add_sub_cancel_left, ao8] at h2'
  cases hj : fr[k]? with
  | none => rw [hj] at h2'; cases h2'
  | some j =>
   rw [hj] at h2'
   have h2'' : (σ[j]?).getD none = some v := Option.some.inj h2'
   have hp : (x, j) ∈ (N.drop own).zip fr := by
    refine apc (i := k) ?_
    rw [List.getElem?_zip_eq_some]
    exact ⟨by rw [List.getElem?_drop]; exact h1', hj⟩
   obtain ⟨f1, f2⟩ := S.frn _ hp
   have hσ : σ[j]? = some (some v) := by
    cases q : σ[j]? with
    | none => rw [q] at h2''; cases h2''
    | some w => rw [q] at h2''; exact congrArg some h2''
   have hxf : (x, NameKind.free) ∈ sc.names := mem_of_lookup f2
   have hko := S.free _ hxf rfl
   have hvis : Vis X.env.scope x := by rw [hsc]; exact .inr hko
   obtain ⟨u, ru, q⟩ := hl j x v (by rw [hN]; exact f1) hσ hvis
   refine ⟨u, ru, .inr ⟨?_, ?_⟩⟩
   ·have e : (zj X sc N s H fp (X.pn ++ pins)).env.kindOf x = some _ := jt (env := X.env) f2
    rw [e]
    split
    ·exact .inl rfl
    ·exact .inr rfl
   ·rcases q with ⟨k1, _⟩ | ⟨_, c, hc, z⟩
    ·have k1' : X.env.scope.names.lookup x = some .local := k1
     rw [hsc] at k1'
     rcases hko with z | z <;> rw [z] at k1' <;> cases k1'
    ·obtain ⟨o, ho, hd⟩ := z
     refine ⟨c, ?_, o, hk _ _ ho, hd⟩
     have hcl := aaE hfree hxf hc
     obtain ⟨c', hc'⟩ := vp (names := sc.names) (n := s.heap.objs.size + 1) (acc := ye X.env sc.names []) (x := x) (by rw [hcl]; rfl)
     rcases hcase hc' with ⟨_, z⟩ | ⟨z, _⟩
     ·have := yh S.snd z
      rw [f2] at this; cases this
     ·rw [hc] at z; cases z; exact hc'
 ·rcases hcase e with ⟨q, _⟩ | ⟨q, _⟩
  ·exact I.hok.fresh (aru q)
  ·exact I.freeC x c q
 ·have hp' : p ∈ X.pn ++ pins := by simpa [zj] using hp
  obtain ⟨e, n, ne, nf, d⟩ := I.pin p hp'
  refine ⟨hk _ _ e, n, apB (apf e), fun z => ?_, d⟩
  rcases ao7.mp (I.stkSub _ z) with q | q
  ·exact ne q
  ·exact nf q
 ·show (y4 own fr σ).length = N.length
  unfold y4
  rw [S.len]
  simp
end
abbrev TB := St -> Hp -> (St -> Hp -> Prop) -> Prop
def PB (X : Cx) (act : Sem Unit) (t : TB) : Prop :=
 ∀ (pins : List (Addr × Obj)) (s : Shared) (σ : St) (H : Hp) (Q : St -> Hp -> Prop), Inv X pins σ H s -> t σ H Q -> wpAny (model X.prog X.w) X.A act (fun _ s' => ∃ σ' H', Inv X pins σ' H' s' /\ Q σ' H') X.xe s
def PTs (X : Cx) (ifs : List Expr) (t : TT) : Prop :=
 ∀ (pins : List (Addr × Obj)) (s : Shared) (σ : St) (H : Hp) (Q : Bool -> Hp -> Prop), Inv X pins σ H s -> t σ H Q ->
  wpAny (model X.prog X.w) X.A (forIn ifs true fun c r => if r = true then do let ok <- isTrue c X.env (eval c X.env); pure (ForInStep.yield ok) else pure (ForInStep.yield r)) (TP X pins σ Q) X.xe s
def akB : TT := fun _ H Q => Q true H
theorem yJ {X : Cx} : PTs X [] akB := fun pins s σ H Q I h => wpAny_tests_nil ⟨H, I, h⟩
theorem jE {X : Cx} {c : Expr} {t : TT} (hc : PT X c t) : PTs X [c] t := fun pins s σ H Q I h => wpAny_tests_one (hc pins s σ H Q I h)
def ad2 (J : It) (g : TG) (tt : TT) (tb : TB) : TB := fun σ H Q => ∃ W : Nat -> Nat -> St -> Hp -> Prop, (∃ m, W 0 m σ H) /\ ∀ i m σ H, W i m σ H ->
 (J.stop i H /\ Q σ H) \/ (J.go i H /\ ∀ x H', J.yld i H x H' -> g x σ H' fun σ2 H2 => tt σ2 H2 fun b H3 => if b = true then tb σ2 H3 fun σ' H' => ∃ m', m' < m /\ W (i + 1) m' σ' H' else ∃ m', m' < m /\ W (i + 1) m' σ2 H3)
section
variable {X : Cx} {pins : List (Addr × Obj)} {s : Shared} {σ : St} {H : Hp} {tg : Expr} {e : Expr} {d : Nat} {acc : Value} {ifs : List Expr} {g : TG} {tt : TT} {tb : TB} {act : Sem Unit} {pos : Pos}
theorem ad3 (hx : ∀ e s, X.xe e s -> False) (hc : X.calm = true) (hg : PG X tg g) (ht : PTs X ifs tt) (hb : PB X act tb)
  (heq : ∀ it, compTurn e d it acc X.env = (do
   standAt pos
   match <- pyNext it with
   | none => pure (.done .next)
   | some v =>
    letOwnedTupleGo tg it v
    assign tg X.env v
    let mut ok := true
    for c in ifs do
     if ok then ok <- isTrue c X.env (eval c X.env)
    if ok then
     act
    again (.compLoop e d it acc X.env)))
  (hqt : ∀ it, (Code.compLoop e d it acc X.env).quiet = true)
  (hden : ∀ it, (model X.prog X.w).den (.compLoop e d it acc X.env) = (compTurn e d it acc X.env).onRaise (fun x => do noteFrame x X.env; theTreesLotGoes x))
  (hund : ∀ it, X.A.under (.compLoop e d it acc X.env) = X.A)
  {it : Addr} {fp : List Addr} {tn : Nat -> Heap -> Prop} {J : It} {Q : St -> Hp -> Prop} {R : Result -> Shared -> Prop} (I : Inv X pins σ H s) (T : Turn X.prog X.w X.K tg J fp it tn) (st : tn 0 s.heap) (f : ∀ b ∈ fp, vT X pins H b)
  (h : ad2 J g tt tb σ H Q) (hR : ∀ σ' H' s', Inv X pins σ' H' s' -> (∀ b ∈ fp, H' b = none) -> Q σ' H' -> R (.ok .next) s') : codeAny (model X.prog X.w) X.A (.compLoop e d (.ref it) acc X.env) R s := by
 obtain ⟨W, ⟨m0, w0⟩, turn⟩ := h
 have stat : ∀ {H' : Hp}, (∀ b ∈ fp, H' b = none) -> ∀ b ∈ fp, vT X pins H' b := fun hn b hb => ⟨hn b hb, (f b hb).2⟩
 refine codeAny_loop (hqt _) (fun n s' => ∃ i σ' H', Inv X pins σ' H' s' /\ tn i s'.heap /\ (∀ b ∈ fp, H' b = none) /\ W i n σ' H') ?_ m0 ⟨0, σ, H, I, st, fun b hb => (f b hb).1, w0⟩
 rintro n s3 ⟨i, σ3, H3, I3, st3, fr3, w3⟩
 rw [hden, hund]
 refine wpAny_noted ?_
 rw [heq]
 have nox : ∀ e' s', X.xe e' s' -> notedBy (model X.prog X.w) X.A X.env (fun e s' => R (.error e) s') e' s' := fun e' s' z => (hx e' s' z).elim
 refine wpAny_bind (wpAny_standAt (wpAny_bind ?_))
 rcases turn i n σ3 H3 w3 with ⟨stop, qn⟩ | ⟨go, step⟩
 ·refine wpAny_mono (T.done X rfl rfl rfl hc i pins s3 σ3 H3 X.xe I3 (stat fr3) st3 stop) (fun r s4 hr4 => ?_) nox
  obtain ⟨hr, I4⟩ := hr4
  subst hr
  exact wpAny_pure (hR σ3 H3 s4 I4 fr3 qn)
 ·refine wpAny_mono (T.item X rfl rfl rfl hc i pins s3 σ3 H3 X.xe I3 (stat fr3) st3 go) (fun r s4 hr4 => ?_) nox
  obtain ⟨u, hr, h4⟩ := hr4
  subst hr
  refine wpAny_bind (wpAny_mono h4 (fun _ s5 h5 => ?_) nox)
  obtain ⟨x, H5, I5, r5, y5, st5, fr5⟩ := h5
  have I5' := I5.pinned (stat fr5) (T.obj _ _ st5)
  refine wpAny_bind (wpAny_mono (hg _ s5 σ3 H5 x u _ I5' r5 (step x H5 y5)) (fun _ s6 h6 => ?_) nox)
  obtain ⟨σ6, H6, I6, q6⟩ := h6
  refine wpAny_bind (wpAny_mono (ht _ s6 σ6 H6 _ I6 q6) (fun ok s7 h7 => ?_) nox)
  obtain ⟨H7, I7, q7⟩ := h7
  have again : ∀ {σ7 : St} {H7 : Hp} {s7 : Shared}, Inv X (pins ++ abc fp s5.heap) σ7 H7 s7 -> (∃ m', m' < n /\ W (i + 1) m' σ7 H7) -> ∃ m, m < n /\ ∃ i σ' H', Inv X pins σ' H' s7 /\ tn i s7.heap /\ (∀ b ∈ fp, H' b = none) /\ W i m σ' H' := fun {σ7 H7 s7} I7 n7 => by
   obtain ⟨m', hm, w7⟩ := n7
   refine ⟨m', hm, i + 1, σ7, H7, I7.unpinned, T.keep _ _ _ st5 fun b hb o e => (I7.pin (b, o) (api _ (api _ (qg hb e)))).1, fun b hb => ?_, w7⟩
   obtain ⟨o, e, d⟩ := T.obj _ _ st5 b hb
   exact (I7.pin (b, o) (api _ (api _ (qg hb e)))).2.1
  cases ok with
  | false =>
   rw [if_neg aoY] at q7
   exact wpAny_pure ⟨rfl, again I7 q7⟩
  | true =>
   rw [if_pos rfl] at q7
   refine wpAny_bind (wpAny_mono (hb _ s7 σ6 H7 _ I7 q7) (fun _ s8 h8 => ?_) nox)
   obtain ⟨σ8, H8, I8, q8⟩ := h8
   exact wpAny_pure ⟨rfl, again I8 q8⟩
theorem acU {D : Addr} {elt : Expr} {te : TE} (he : PE X elt te) : PB X (do let _ <- call (.builtin "list.append") [.ref D, <- eval elt X.env]) (fun σ H Q => te σ H fun y H1 => ∃ xs, H1 D = some (.lst xs) /\ xs.length < sizeLine /\ Q σ (upd H1 D (.lst (xs ++ [y])))) := by
 intro pins s σ H Q I h
 refine wpAny_bind (thn (he pins s σ H _ I h) fun v s1 h1 => ?_)
 obtain ⟨y, H1, I1, r1, xs, hD, hz, q⟩ := h1
 obtain ⟨z, its, n, r, hl, e⟩ := I1.lstM hD
 refine wpAny_bind ?_
 refine call_meets F.slot_list_append ⟨_, e, rfl⟩ asV (asL _ _) (PySem.list_append D its.toArray n v (by rw [apk]; omega)) ⟨e, ?_⟩
 refine wpAny_pure ⟨σ, _, I1.lset (its' := its ++ [v]) hD e (by simp) (r.append (.cons r1 .nil)) ?_, q⟩
 rw [aph, apO]
 omega
theorem ad4 {M : Model} {A : Around} {E : Value -> Shared -> Prop} {sc : Scope} {gl : Addr} {cl : List (Str × Addr)} {qual : Str} {env : Env} {Q : Env -> Shared -> Prop} {s : Shared}
  (h : Q { scope := sc, locals := s.heap.objs.size, globals := gl, cells := cellsFrom (s.heap.objs.size + 1) sc.names cl, qual := qual, func := none, code := env.code, frame := env.frame, builtins := env.builtins } { s with heap := pushCells (s.heap.push { cls := .type "dict", data := .dict #[] }) sc.names }) :
  wpAny M A (newFunctionEnv sc gl cl [] qual none .none (some env)) Q E s := by
 simp only [newFunctionEnv, Option.isSome_some, if_true]
 refine wpAny_bind (wpAny_alloc ?_)
 refine wpAny_bind (wpAny_layCells _ (fun name kind cells => by cases hkc : kind == NameKind.cell <;> simp [hkc]) _ _ _ _ ?_)
 rw [show ({ s with heap := s.heap.push { cls := .type "dict", data := .dict #[] } } : Shared).heap.objs.size = s.heap.objs.size + 1 from ar1 ..]
 refine wpAny_bind ?_
 rw [aq3]
 exact wpAny_pure (wpAny_pure h)
theorem comp_back {sc : Scope} {N : List Str} {fp : List Addr} {σ' : St} {H' : Hp} {s' : Shared} {h' : Heap} (I : Inv X pins σ H s) (hf : ∀ b ∈ fp, vT X pins H b) (J : Inv (zj X sc N s H fp (X.pn ++ pins)) [] σ' H' s') (hs : aqJ s.heap.objs.size s'.heap h') :
  Inv X pins σ H' { s' with heap := h' } := by
 have u : Un (frs X.stack) fp H H' s.heap s'.heap := J.base
 have ne : ∀ b o, s.heap.get? b = some o -> b ≠ s.heap.objs.size := fun b o e => apB (apf e)
 have hfree : H' s.heap.objs.size = none := J.free
 refine I.call' (s' := { s' with heap := h' }) (ch := fp) J.os ⟨fun b o e n h1 h2 => (hs.2 b (ne b o e)).trans (u.keep b o e n h1 h2), fun b o e n h1 h2 => ?_, u.free, fun b o e h2 => ?_, u.tups, u.frzs, u.tbls⟩ (fun a o e => ?_) J.bare fun b hb => ?_
 ·obtain ⟨sl, q⟩ := u.slot b o e n h1 h2
  exact ⟨sl, (hs.2 b (ne b o e)).trans q⟩
 ·obtain ⟨o', q⟩ := u.there b o e h2
  exact ⟨o', (hs.2 b (ne b o e)).trans q⟩
 ·refine (J.hok a o e).stay (fun c v hc q => (hs.2 c ?_).trans q) (fun _ q => q) fun _ _ q => q
  intro z
  subst z
  rcases hc with hc | hc
  ·rw [<- hc] at e
   rw [hfree] at e; cases e
  ·rw [hfree] at hc; cases hc
 ·exact ⟨(hf b hb).2.2.2.1, (hf b hb).2.1, (hf b hb).2.2.2.2⟩
end
def vq (D : Addr) (te : TE) : TB := fun σ H Q => te σ H fun y H1 => ∃ xs, H1 D = some (.lst xs) /\ xs.length < sizeLine /\ Q σ (upd H1 D (.lst (xs ++ [y])))
def jW (wi : TI) (own : Nat) (fr : List Nat) (g : TG) (tt : TT) (tb : Addr -> TB) : TE := fun σ H Q => wi σ H fun J H1 => ∀ D, H1 D = none ->
 ad2 J g tt (tb D) (y4 own fr σ) (upd H1 D (.lst [])) fun _ H2 => Q (.ref D) H2
section
variable {X : Cx} {pins : List (Addr × Obj)} {s : Shared} {σ : St} {H : Hp} {tg elt iter : Expr} {ifs : List Expr} {rest : List Comprehension} {sc scO : Scope} {NO N : List Str} {own : Nat} {fr : List Nat} {wi : TI} {g : TG} {tt : TT} {tb : Addr -> TB} {pos : Pos}
theorem ad5 {RR : Value -> Addr -> Result -> Shared -> Prop} {it : Addr} {fp : List Addr} {tn : Nat -> Heap -> Prop} {J : It} {Q : VK} (S : CompScope NO scO N sc own fr) (hN : X.N = NO) (hsc : X.env.scope = scO) (hc : X.calm = true)
  (hg : ∀ s₀ H₀ ex pn, PG (zj X sc N s₀ H₀ ex pn) tg g) (ht : ∀ s₀ H₀ ex pn, PTs (zj X sc N s₀ H₀ ex pn) ifs tt)
  (hb : ∀ D s₀ H₀ ex pn, ∃ act, PB (zj X sc N s₀ H₀ ex pn) act (tb D) /\ ∀ it, compTurn (.ListComp elt (⟨tg, iter, ifs, 0⟩ :: rest) sc pos) 0 it (.ref D) (zj X sc N s₀ H₀ ex pn).env = (do
   standAt iter.pos
   match <- pyNext it with
   | none => pure (.done .next)
   | some v =>
    letOwnedTupleGo tg it v
    assign tg (zj X sc N s₀ H₀ ex pn).env v
    let mut ok := true
    for c in ifs do
     if ok then ok <- isTrue c (zj X sc N s₀ H₀ ex pn).env (eval c (zj X sc N s₀ H₀ ex pn).env)
    if ok then
     act
    again (.compLoop (.ListComp elt (⟨tg, iter, ifs, 0⟩ :: rest) sc pos) 0 it (.ref D) (zj X sc N s₀ H₀ ex pn).env)))
  (I : Inv X pins σ H s) (T : Turn X.prog X.w X.K tg J fp it tn) (st : tn 0 s.heap) (f : ∀ b ∈ fp, vT X pins H b)
  (h : ∀ D, H D = none -> ad2 J g tt (tb D) (y4 own fr σ) (upd H D (.lst [])) fun _ H2 => Q (.ref D) H2)
  (hRR : ∀ (D C : Addr) (s' : Shared) (H' : Hp), (∃ m, s'.heap.Ns C m) -> C ≠ X.env.locals -> (∀ x c, X.env.cells.lookup x = some c -> c ≠ C) -> H' C = none -> X.s₀.heap.objs.size <= C -> (∀ p ∈ X.pn ++ pins, p.1 ≠ C) -> Inv X pins σ H' s' -> Q (.ref D) H' -> RR (.ref D) C (.ok .next) s') :
  wpAny (model X.prog X.w) X.A (newList []) (fun acc s₃ => wpAny (model X.prog X.w) X.A (newFunctionEnv sc X.env.globals (ye X.env sc.names []) [] X.env.qual none .none (some X.env)) (fun cenv s₄ =>
   codeAny (model X.prog X.w) X.A (.compStart (.ListComp elt (⟨tg, iter, ifs, 0⟩ :: rest) sc pos) 0 (.ref it) acc { cenv with scope := relabel sc X.env }) (RR acc cenv.locals) s₄) X.xe s₃) X.xe s := by
 refine wpAny_newObj_type (ad4 ?_)
 have fpsz : ∀ b ∈ fp, b < s.heap.objs.size := fun b hb => by
  obtain ⟨o, e, _⟩ := T.obj _ _ st b hb
  exact apf e
 have I3 := I.lnew (its := []) (ys := []) (t' := s.toks) .nil (apD _)
 have f3 : ∀ b ∈ fp, vT X pins (upd H s.heap.objs.size (.lst [])) b := fun b hb => ⟨by rw [zw (apB (fpsz b hb))]; exact (f b hb).1, (f b hb).2⟩
 have st3 : tn 0 (s.heap.push { cls := .type "list", data := .seq ([] : List Value).toArray }) := T.keep _ _ _ st fun b _ o e => apb _ e
 have I4 := aiD (tk := s.toks) S hN hsc I3 f3 (T.obj _ _ st3)
 obtain ⟨act, pb, heq⟩ := hb s.heap.objs.size _ _ _ _
 have st4 := T.keep _ _ (pushCells ((s.heap.push { cls := .type "list", data := .seq ([] : List Value).toArray }).push { cls := .type "dict", data := .dict #[] }) sc.names) st3 fun b _ o e => pushCells_keeps _ _ _ _ (apb _ e)
 have cells_lt : ∀ x c, X.env.cells.lookup x = some c -> c < s.heap.objs.size := fun x c e => by
  obtain ⟨v, o, ho, hd⟩ := I.cell x c e
  exact apf ho
 have esz : (s.heap.push { cls := .type "list", data := .seq ([] : List Value).toArray }).objs.size = s.heap.objs.size + 1 := ar1 ..
 have loop := ad3 (X := zj X sc N { s with heap := s.heap.push { cls := .type "list", data := .seq ([] : List Value).toArray } } (upd H s.heap.objs.size (.lst [])) fp (X.pn ++ pins)) (R := RR (.ref s.heap.objs.size) (s.heap.push { cls := .type "list", data := .seq ([] : List Value).toArray }).objs.size) (fun _ _ z => z) hc (hg _ _ _ _) (ht _ _ _ _) pb heq (fun _ => rfl) (fun _ => rfl) (fun _ => rfl) I4 T st4
  (fun b hb => ⟨(f3 b hb).1, I4.ok.exf b hb |>.1, I4.ok.exfs b hb, .inl hb, I4.ok.exf b hb |>.2, fun p hp => by
   have hp' : p ∈ X.pn ++ pins := by simpa [zj] using hp
   exact (f b hb).2.2.2.2.2 p hp'⟩) (h _ I.fresh)
  (fun σ' H' s' J' fr' q' => hRR _ _ s' H' (let ⟨m, hm, _⟩ := J'.loc; ⟨m, hm⟩) (by rw [esz]; exact arp (aqp I.lt)) (fun x c e => by rw [esz]; exact apB (aqp (cells_lt x c e))) J'.free (by rw [esz]; exact Nat.le_succ_of_le I.sz) (fun p hp => by rw [esz]; exact apB (aqp (apf (I.pin p hp).1))) (comp_back (h' := s'.heap) I3 f3 J' (Heap.SameBut.refl ..)) q')
 exact codeAny_compStart_list loop (T.self X.A 0 _ _ _ st4 loop)
theorem Inv.touch {C : Addr} {h' : Heap} (I : Inv X pins σ H s) (hs : aqJ C s.heap h') (hn : H C = none) (h0 : C ≠ X.env.locals) (h1 : ∀ x c, X.env.cells.lookup x = some c -> c ≠ C) (h2 : X.s₀.heap.objs.size <= C) (h3 : ∀ p ∈ X.pn ++ pins, p.1 ≠ C) :
  Inv X pins σ H { s with heap := h' } :=
 I.turned (t' := s.toks) (fun b o hb e => (hs.2 b hb).trans e) hn h0 (.inr h2) h1 h3
theorem abY {prog : Program} {w : World} {A : Around} {R : Result -> Shared -> Prop} {s : Shared} {elt' : Expr} {g0 : Comprehension} {tg' it' : Expr} {ifs' : List Expr} {sc' : Scope} {pos' : Pos} {itv acc : Value} {env : Env}
  (here : codeAny (model prog w) A (.compLoop (.ListComp elt' [g0, ⟨tg', it', ifs', 0⟩] sc' pos') 1 itv acc env) R s)
  (once : wpAny (model prog w) A (pyIter itv) (fun j s1 => codeAny (model prog w) A (.compLoop (.ListComp elt' [g0, ⟨tg', it', ifs', 0⟩] sc' pos') 1 j acc env) R s1) (notedBy (model prog w) A env fun x s1 => R (.error x) s1) s) :
  codeAny (model prog w) A (.compStart (.ListComp elt' [g0, ⟨tg', it', ifs', 0⟩] sc' pos') 1 itv acc env) R s := by
 apply codeAny_of_tree
 show wpAny _ _ ((compStart (.ListComp elt' [g0, ⟨tg', it', ifs', 0⟩] sc' pos') 1 itv acc env).onRaise (fun z => do noteFrame z env; standAt theWindowsPlace)) _ _ s
 apply wpAny_notedAt
 unfold compStart
 show wpAny _ _ (ask >>= _) _ _ s
 apply wpAny_bind
 apply wpAny_askSetting
 apply wpAny_ite
 split
 ·first
   | exact wpAny_bind (wpAny_pure (wpAny_pure (And.intro rfl here)))
   | exact wpAny_pure (And.intro rfl here)
 ·apply wpAny_bind
  apply wpAny_rule
  show wpAny _ _ (standAt it'.pos >>= _) _ _ s
  exact wpAny_bind (wpAny_standAt (wpAny_bind (wpAny_mono once (fun j s1 q => wpAny_pure (And.intro rfl q)) fun _ _ z => z)))
section
variable {elt2 : Expr} {te : TE} {tg2 iter2 : Expr} {ifs2 : List Expr} {wi2 : TI} {g2 : TG} {tt2 : TT} {tb2 : TB} {y : Str} {i : Nat} {py spos : Pos}
def tIn (wi2 : TI) (g2 : TG) (tt2 : TT) (tb2 : TB) : TB := fun σ H Q => wi2 σ H fun J H1 => ad2 J g2 tt2 tb2 σ H1 Q
theorem al5 {D : Addr} (hx : ∀ e s, X.xe e s -> False) (hc : X.calm = true) (hi : PI X tg2 iter2 wi2) (hg : PG X tg2 g2) (ht : PTs X ifs2 tt2) (he : PE X elt te)
  (hs : ∀ x, foldedSetIterable iter2 X.env x = pure x) :
  PB X (do
   let x <- eval iter2 X.env
   standAt iter2.pos
   let x <- foldedSetIterable iter2 X.env x
   let _ <- runOwn (.compStart (.ListComp elt [⟨tg, iter, ifs, 0⟩, ⟨tg2, iter2, ifs2, 0⟩] sc pos) 1 (<- holding [x] (pyIter x)) (.ref D) X.env) X.env) (tIn wi2 g2 tt2 (vq D te)) := by
 intro pins s σ H Q I h
 refine wpAny_bind (thn (hi pins s σ H _ I h) fun v s1 h1 => ?_)
 refine wpAny_bind (wpAny_standAt ?_)
 refine wpAny_bind (wpAny_of_eq (hs v) ?_)
 refine wpAny_bind (wpAny_holding (thn h1 fun itv s2 h2 => ?_))
 obtain ⟨it, fp, tn, J, H2, e, I2, T, st2, f2, q⟩ := h2
 subst e
 refine wpAny_bind (wpAny_runOwn ?_)
 have loop := ad3 (e := .ListComp elt [⟨tg, iter, ifs, 0⟩, ⟨tg2, iter2, ifs2, 0⟩] sc pos) (d := 1) (pos := iter2.pos)
  (R := fun r s' => match r with | .ok f => wpAny (model X.prog X.w) X.A (pure ()) (fun _ s' => ∃ σ' H', Inv X pins σ' H' s' /\ Q σ' H') X.xe s' | .error e => cameBackBy (model X.prog X.w) X.A X.env X.xe e s')
  hx hc hg ht (acU (D := D) he) (fun _ => rfl) (fun _ => rfl) (fun _ => rfl) (fun _ => rfl) I2 T st2 f2 q (fun σ' H' s' J' _ q' => wpAny_pure ⟨σ', H', J', q'⟩)
 exact abY loop (T.self X.A 0 _ _ _ st2 loop)
theorem agf (S : CompScope NO scO N sc own fr) (hsc : X.env.scope = scO) (ok : X.Ok) : closureFor sc X.env = pure (ye X.env sc.names []) :=
 afn fun x hx => ok.has x (by
  show X.env.scope.names.lookup x = _ \/ X.env.scope.names.lookup x = _
  rw [hsc]
  exact S.free _ hx rfl)
theorem agg (S : CompScope NO scO N sc own fr) (hc : X.calm = true) (hi : PI X tg iter wi) (hg : ∀ s₀ H₀ ex pn, PG (zj X sc N s₀ H₀ ex pn) tg g) (ht : ∀ s₀ H₀ ex pn, PTs (zj X sc N s₀ H₀ ex pn) ifs tt)
  (hb : ∀ D s₀ H₀ ex pn, ∃ act, PB (zj X sc N s₀ H₀ ex pn) act (tb D) /\ ∀ it, compTurn (.ListComp elt (⟨tg, iter, ifs, 0⟩ :: rest) sc pos) 0 it (.ref D) (zj X sc N s₀ H₀ ex pn).env = (do
   standAt iter.pos
   match <- pyNext it with
   | none => pure (.done .next)
   | some v =>
    letOwnedTupleGo tg it v
    assign tg (zj X sc N s₀ H₀ ex pn).env v
    let mut ok := true
    for c in ifs do
     if ok then ok <- isTrue c (zj X sc N s₀ H₀ ex pn).env (eval c (zj X sc N s₀ H₀ ex pn).env)
    if ok then
     act
    again (.compLoop (.ListComp elt (⟨tg, iter, ifs, 0⟩ :: rest) sc pos) 0 it (.ref D) (zj X sc N s₀ H₀ ex pn).env)))
  (hN : X.N = NO) (hsc : X.env.scope = scO) (hs : ∀ x, foldedSetIterable iter X.env x = pure x) :
  PE X (.ListComp elt (⟨tg, iter, ifs, 0⟩ :: rest) sc pos) (jW wi own fr g tt tb) := by
 intro pins s σ H Q I h
 rw [eval_ListComp]
 refine wpAny_comprehension_free (use := none) rfl hs (agf S hsc I.ok) S.kind (fun p hp hl => yh S.snd (k := .local) (by rw [<- hl]; exact hp)) (thn (hi pins s σ H _ I h) fun v s1 h1 => thn h1 fun itv s2 h2 => ?_)
 obtain ⟨it, fp, tn, J, H2, e, I2, T, st2, f2, q⟩ := h2
 subst e
 refine ad5 (RR := fun acc C => compPost (model X.prog X.w) X.A X.xe none (EP X pins σ Q) acc C) S hN hsc hc hg ht hb I2 T st2 f2 q ?_
 rintro D C s' H' ⟨m, hm⟩ c0 c1 c2 c3 c4 J' q'
 exact ⟨m, hm, fun h' hs' => ⟨.ref D, H', J'.touch hs' c2 c0 c1 c3 c4, rfl, q'⟩⟩
theorem abk (S : CompScope NO scO N sc own fr) (hc : X.calm = true) (hNd : X.N.Nodup) (hiN : X.N[i]? = some y) (hy : Loc X.env.scope y) (hi : PI X tg iter wi) (hg : ∀ s₀ H₀ ex pn, PG (zj X sc N s₀ H₀ ex pn) tg g) (ht : ∀ s₀ H₀ ex pn, PTs (zj X sc N s₀ H₀ ex pn) ifs tt)
  (hb : ∀ D s₀ H₀ ex pn, ∃ act, PB (zj X sc N s₀ H₀ ex pn) act (tb D) /\ ∀ it, compTurn (.ListComp elt (⟨tg, iter, ifs, 0⟩ :: rest) sc pos) 0 it (.ref D) (zj X sc N s₀ H₀ ex pn).env = (do
   standAt iter.pos
   match <- pyNext it with
   | none => pure (.done .next)
   | some v =>
    letOwnedTupleGo tg it v
    assign tg (zj X sc N s₀ H₀ ex pn).env v
    let mut ok := true
    for c in ifs do
     if ok then ok <- isTrue c (zj X sc N s₀ H₀ ex pn).env (eval c (zj X sc N s₀ H₀ ex pn).env)
    if ok then
     act
    again (.compLoop (.ListComp elt (⟨tg, iter, ifs, 0⟩ :: rest) sc pos) 0 it (.ref D) (zj X sc N s₀ H₀ ex pn).env)))
  (hN : X.N = NO) (hsc : X.env.scope = scO) (hs : ∀ x, foldedSetIterable iter X.env x = pure x) (hf : X.fn y = true \/ X.env.scope.names.lookup y = some .local)
  (hsw : swapsWith (.ListComp elt (⟨tg, iter, ifs, 0⟩ :: rest) sc pos) (some (.Name y py)) spos.line X.env = pure true) :
  PS X (.Assign [.Name y py] (.ListComp elt (⟨tg, iter, ifs, 0⟩ :: rest) sc pos) spos) (jV (jW wi own fr g tt tb) (y6 i)) := by
 intro pins s σ H D I h
 rw [exec_Assign_Name_used _ _ _ _ hsw]
 refine wpAny_bind (wpAny_standAt (wpAny_bind ?_))
 show wpAny _ X.A (do let _ <- comprehension (.ListComp elt (⟨tg, iter, ifs, 0⟩ :: rest) sc pos) sc X.env _ (newList []) false (eval iter X.env) (some (assign (.Name y py) X.env))) _ _ s
 refine wpAny_bind (wpAny_mono (wpAny_comprehension_free (use := some (assign (.Name y py) X.env)) (Q := fun _ s' => SP X pins D .next s') rfl hs (agf S hsc I.ok) S.kind (fun p hp hl => yh S.snd (k := .local) (by rw [<- hl]; exact hp))
  (thn (hi pins s σ H _ I h) fun v s1 h1 => thn h1 fun itv s2 h2 => ?_)) (fun _ s' hq => wpAny_pure (wpAny_pure hq)) fun _ _ e => e)
 obtain ⟨it, fp, tn, J, H2, e, I2, T, st2, f2, q⟩ := h2
 subst e
 refine ad5 (Q := fun x H1 => y6 i x σ H1 D.nx) (RR := fun acc C => compPost (model X.prog X.w) X.A X.xe (some (assign (.Name y py) X.env)) (fun _ s' => SP X pins D .next s') acc C) S hN hsc hc hg ht hb I2 T st2 f2 q ?_
 rintro A' C s' H' ⟨m, hm⟩ c0 c1 c2 c3 c4 J' q'
 show wpAny _ X.A (assign (.Name y py) X.env (.ref A')) _ _ _
 refine wpAny_assign_Name (ab8 (v := .ref A') J' hNd hiN hy rfl (fun s2' I2' hsb => ?_) hf)
 obtain ⟨a, hs2, ha⟩ := hsb
 have hCa : C ≠ a := by
  rcases ha with ha | ha
  ·rw [ha]; exact c0
  ·exact aqa (c1 _ _ ha)
 exact ⟨m, hm.sameBut hs2 hCa, fun h' hs' => ⟨_, H', I2'.touch hs' c2 c0 c1 c3 c4, q'⟩⟩
end
end
section
variable {X : Cx} {tg elt iter tg2 iter2 : Expr} {ifs ifs2 : List Expr} {sc scO : Scope} {NO N : List Str} {own : Nat} {fr : List Nat} {wi wi2 : TI} {g g2 : TG} {tt tt2 : TT} {te : TE} {pos py spos : Pos} {y : Str} {i : Nat}
theorem yv (S : CompScope NO scO N sc own fr) (hc : X.calm = true) (hi : PI X tg iter wi) (hg : ∀ s₀ H₀ ex pn, PG (zj X sc N s₀ H₀ ex pn) tg g) (ht : ∀ s₀ H₀ ex pn, PTs (zj X sc N s₀ H₀ ex pn) ifs tt) (he : ∀ s₀ H₀ ex pn, PE (zj X sc N s₀ H₀ ex pn) elt te)
  (hN : X.N = NO) (hsc : X.env.scope = scO) (hs : ∀ x, foldedSetIterable iter X.env x = pure x) : PE X (.ListComp elt [⟨tg, iter, ifs, 0⟩] sc pos) (jW wi own fr g tt fun D => vq D te) :=
 agg S hc hi hg ht (fun D s₀ H₀ ex pn => ⟨_, acU (D := D) (he s₀ H₀ ex pn), fun _ => rfl⟩) hN hsc hs
theorem jF (S : CompScope NO scO N sc own fr) (hc : X.calm = true) (hNd : X.N.Nodup) (hiN : X.N[i]? = some y) (hy : Loc X.env.scope y) (hi : PI X tg iter wi) (hg : ∀ s₀ H₀ ex pn, PG (zj X sc N s₀ H₀ ex pn) tg g) (ht : ∀ s₀ H₀ ex pn, PTs (zj X sc N s₀ H₀ ex pn) ifs tt) (he : ∀ s₀ H₀ ex pn, PE (zj X sc N s₀ H₀ ex pn) elt te)
  (hN : X.N = NO) (hsc : X.env.scope = scO) (hs : ∀ x, foldedSetIterable iter X.env x = pure x) (hf : X.fn y = true \/ X.env.scope.names.lookup y = some .local)
  (hsw : swapsWith (.ListComp elt [⟨tg, iter, ifs, 0⟩] sc pos) (some (.Name y py)) spos.line X.env = pure true) :
  PS X (.Assign [.Name y py] (.ListComp elt [⟨tg, iter, ifs, 0⟩] sc pos) spos) (jV (jW wi own fr g tt fun D => vq D te) (y6 i)) :=
 abk S hc hNd hiN hy hi hg ht (fun D s₀ H₀ ex pn => ⟨_, acU (D := D) (he s₀ H₀ ex pn), fun _ => rfl⟩) hN hsc hs hf hsw
end
theorem ad6 {elt tg iter tg2 iter2 : Expr} {ifs ifs2 : List Expr} {sc : Scope} {pos : Pos} {it acc : Value} {env : Env} :
  compTurn (.ListComp elt [⟨tg, iter, ifs, 0⟩, ⟨tg2, iter2, ifs2, 0⟩] sc pos) 0 it acc env = (do
   standAt iter.pos
   match <- pyNext it with
   | none => pure (.done .next)
   | some v =>
    letOwnedTupleGo tg it v
    assign tg env v
    let mut ok := true
    for c in ifs do
     if ok then ok <- isTrue c env (eval c env)
    if ok then
     (do
      let x <- eval iter2 env
      standAt iter2.pos
      let x <- foldedSetIterable iter2 env x
      let _ <- runOwn (.compStart (.ListComp elt [⟨tg, iter, ifs, 0⟩, ⟨tg2, iter2, ifs2, 0⟩] sc pos) 1 (<- holding [x] (pyIter x)) acc env) env)
    again (.compLoop (.ListComp elt [⟨tg, iter, ifs, 0⟩, ⟨tg2, iter2, ifs2, 0⟩] sc pos) 0 it acc env)) := by
 unfold compTurn
 simp only [bind_assoc, pure_bind]
 rfl
section
variable {X : Cx} {tg elt iter tg2 iter2 : Expr} {ifs ifs2 : List Expr} {sc scO : Scope} {NO N : List Str} {own : Nat} {fr : List Nat} {wi wi2 : TI} {g g2 : TG} {tt tt2 : TT} {te : TE} {pos py spos : Pos} {y : Str} {i : Nat}
theorem aiE (S : CompScope NO scO N sc own fr) (hc : X.calm = true) (hi : PI X tg iter wi) (hg : ∀ s₀ H₀ ex pn, PG (zj X sc N s₀ H₀ ex pn) tg g) (ht : ∀ s₀ H₀ ex pn, PTs (zj X sc N s₀ H₀ ex pn) ifs tt)
  (hi2 : ∀ s₀ H₀ ex pn, PI (zj X sc N s₀ H₀ ex pn) tg2 iter2 wi2) (hg2 : ∀ s₀ H₀ ex pn, PG (zj X sc N s₀ H₀ ex pn) tg2 g2) (ht2 : ∀ s₀ H₀ ex pn, PTs (zj X sc N s₀ H₀ ex pn) ifs2 tt2)
  (he : ∀ s₀ H₀ ex pn, PE (zj X sc N s₀ H₀ ex pn) elt te) (hN : X.N = NO) (hsc : X.env.scope = scO) (hs : ∀ x, foldedSetIterable iter X.env x = pure x) (hs2 : ∀ s₀ H₀ ex pn x, foldedSetIterable iter2 (zj X sc N s₀ H₀ ex pn).env x = pure x) :
  PE X (.ListComp elt [⟨tg, iter, ifs, 0⟩, ⟨tg2, iter2, ifs2, 0⟩] sc pos) (jW wi own fr g tt fun D => tIn wi2 g2 tt2 (vq D te)) :=
 agg S hc hi hg ht (fun D s₀ H₀ ex pn => ⟨_, al5 (D := D) (fun _ _ z => z) hc (hi2 s₀ H₀ ex pn) (hg2 s₀ H₀ ex pn) (ht2 s₀ H₀ ex pn) (he s₀ H₀ ex pn) (hs2 s₀ H₀ ex pn), fun it => ad6⟩) hN hsc hs
theorem ad7 (S : CompScope NO scO N sc own fr) (hc : X.calm = true) (hNd : X.N.Nodup) (hiN : X.N[i]? = some y) (hy : Loc X.env.scope y) (hi : PI X tg iter wi) (hg : ∀ s₀ H₀ ex pn, PG (zj X sc N s₀ H₀ ex pn) tg g) (ht : ∀ s₀ H₀ ex pn, PTs (zj X sc N s₀ H₀ ex pn) ifs tt)
  (hi2 : ∀ s₀ H₀ ex pn, PI (zj X sc N s₀ H₀ ex pn) tg2 iter2 wi2) (hg2 : ∀ s₀ H₀ ex pn, PG (zj X sc N s₀ H₀ ex pn) tg2 g2) (ht2 : ∀ s₀ H₀ ex pn, PTs (zj X sc N s₀ H₀ ex pn) ifs2 tt2)
  (he : ∀ s₀ H₀ ex pn, PE (zj X sc N s₀ H₀ ex pn) elt te) (hN : X.N = NO) (hsc : X.env.scope = scO) (hs : ∀ x, foldedSetIterable iter X.env x = pure x) (hs2 : ∀ s₀ H₀ ex pn x, foldedSetIterable iter2 (zj X sc N s₀ H₀ ex pn).env x = pure x)
  (hf : X.fn y = true \/ X.env.scope.names.lookup y = some .local)
  (hsw : swapsWith (.ListComp elt [⟨tg, iter, ifs, 0⟩, ⟨tg2, iter2, ifs2, 0⟩] sc pos) (some (.Name y py)) spos.line X.env = pure true) :
  PS X (.Assign [.Name y py] (.ListComp elt [⟨tg, iter, ifs, 0⟩, ⟨tg2, iter2, ifs2, 0⟩] sc pos) spos) (jV (jW wi own fr g tt fun D => tIn wi2 g2 tt2 (vq D te)) (y6 i)) :=
 abk S hc hNd hiN hy hi hg ht (fun D s₀ H₀ ex pn => ⟨_, al5 (D := D) (fun _ _ z => z) hc (hi2 s₀ H₀ ex pn) (hg2 s₀ H₀ ex pn) (ht2 s₀ H₀ ex pn) (he s₀ H₀ ex pn) (hs2 s₀ H₀ ex pn), fun it => ad6⟩) hN hsc hs hf hsw
end
section
variable {X : Cx} {pins : List (Addr × Obj)} {σ : St} {H : Hp} {s : Shared} {h' : Heap} {fp : List Addr}
theorem Inv.turnedAll {t' : Nat} (I : Inv X pins σ H s) (hf : ∀ b ∈ fp, vT X pins H b) (k : ∀ b o, b ∉ fp -> s.heap.get? b = some o -> h'.get? b = some o) : Inv X pins σ H { s with heap := h', toks := t' } := by
 refine I.step (g' := s.gens) (d' := s.drawn) (ch := fp) (fun b hb => ⟨(hf b hb).2.2.2.1, (hf b hb).2.1, (hf b hb).2.2.2.2⟩) (fun b o _ _ hc e _ => k b o hc e) (fun b o _ _ hc e _ => ⟨o.slots, k b o hc e⟩) (fun _ _ _ _ n => n)
  (fun b o hc e => ⟨o, k b o hc e⟩) (fun _ _ e => e) (fun _ _ _ e => e) (fun b ps e => ⟨#[], by rw [e]; simp⟩) (fun m hm => ?_) (fun b u e => ?_) I.bare
 ·obtain ⟨o, es, ep, ho, r⟩ := hm
  exact ⟨o, es, ep, k _ o (fun z => (hf _ z).2.1 rfl) ho, r⟩
 ·refine (I.hok b u e).stay (fun c v hc q => k c v (fun z => ?_) q) (fun _ q => q) fun _ _ q => q
  have hn := (hf c z).1
  rcases hc with hc | hc
  ·subst hc; rw [e] at hn; cases hn
  ·rw [hc] at hn; cases hn
theorem Inv.turnedNew {t' : Nat} {t : Addr} {o : HO} (I : Inv X pins σ H s) (hf : ∀ b ∈ fp, vT X pins H b) (k : ∀ b o, b ∉ fp -> s.heap.get? b = some o -> h'.get? b = some o) (ht : s.heap.objs.size <= t) (new : ObjOk X.prog X.w (upd H t o) h' t o) :
  Inv X pins σ (upd H t o) { s with heap := h', toks := t' } := by
 have hn : H t = none := I.hok.fresh ht
 have ne : ∀ b ob, s.heap.get? b = some ob -> b ≠ t := fun b ob e => apB (apr (apf e) ht)
 refine I.step (g' := s.gens) (d' := s.drawn) (ch := fp) (fun b hb => ⟨(hf b hb).2.2.2.1, (hf b hb).2.1, (hf b hb).2.2.2.2⟩) (fun b o _ _ hc e _ => k b o hc e) (fun b o _ _ hc e _ => ⟨o.slots, k b o hc e⟩) (fun b ob _ e n => by rw [zw (ne b ob e)]; exact n)
  (fun b o hc e => ⟨o, k b o hc e⟩) (fun b xs e => by rw [zw (zG e hn)]; exact e) (fun b ob u e => by rw [zw (zG e hn)]; exact e) (fun b ps e => ⟨#[], by rw [zw (zG e hn), e]; simp⟩) (fun m hm => ?_) (fun b u e => ?_) I.bare
 ·obtain ⟨o, es, ep, ho, r⟩ := hm
  exact ⟨o, es, ep, k _ o (fun z => (hf _ z).2.1 rfl) ho, r⟩
 ·by_cases hb : b = t
  ·subst hb; rw [zy] at e; cases e; exact new
  ·rw [zw hb] at e
   refine (I.hok b u e).stay (fun c v hc q => k c v (fun z => ?_) q) (fun c q => by rw [zw (zG q hn)]; exact q) fun c xs q => by rw [zw (zG q hn)]; exact q
   have hn' := (hf c z).1
   rcases hc with hc | hc
   ·subst hc; rw [e] at hn'; cases hn'
   ·rw [hc] at hn'; cases hn'
end
def Ite (K : ao0) (a : Addr) : It :=
 ⟨fun i H => ∃ xs x, SqL K H a xs /\ xs[i]? = some x, fun i H x H' => ∃ t y, x = .ref t /\ H t = none /\ H' = upd H t (.tup [.int i, y]) /\ ∀ xs, SqL K H a xs -> xs[i]? = some y, fun i H => ∃ xs, SqL K H a xs /\ xs.length <= i⟩
theorem ahr {P : Program} {w : World} {K : ao0} {es : List Expr} {k : Nat} {pos : Pos} (a e it : Addr) (hne : e ≠ it) : Turn P w K (.Tuple es k pos) (Ite K a) [e, it] e (fun i h => (∃ old, IsEnum h e it i old) /\ h.IsListIter it a i) where
 mem := by simp
 obj := fun i h st b hb => by
  obtain ⟨⟨old, se⟩, o, eo, c, d⟩ := st
  rcases ao7.mp hb with z | z
  ·subst z
   exact ⟨_, se, fun v z => by
    have z' : Data.fields _ = Data.cell v := z
    cases z'⟩
  ·have z : b = it := by simpa using z
   subst z
   exact ⟨o, eo, fun v z => by rw [d] at z; cases z⟩
 keep := fun i h h' st kk => ⟨let ⟨old, se⟩ := st.1; ⟨old, kk e (by simp) _ se⟩, st.2.at fun o eo => kk it (by simp) o eo⟩
 item := by
  intro X hP hw hK hc i pins s σ H E I hf st hg
  subst hP hw hK
  obtain ⟨xs, x, hq, hx⟩ := hg
  obtain ⟨its, rv, p, hz⟩ := I.list hq
  obtain ⟨u, hu, ru⟩ := rv.get hx
  obtain ⟨⟨old, se⟩, si⟩ := st
  refine wpAny_pyNext_enum_item se si p.isList (x := u) (by simpa using hu) hne fun h' so si' tp sz kp => ?_
  refine ⟨_, rfl, ?_⟩
  refine wpAny_letOwnedTupleGo_enum (s := { s with heap := h', toks := s.toks + 1 }) so fun h2 se2 sb => ?_
  have hlt : e < s.heap.objs.size := apf se
  obtain ⟨oi, eoi, _, _⟩ := id si
  have hlt2 : it < s.heap.objs.size := apf eoi
  have kk : ∀ b o, b ∉ [e, it] -> s.heap.get? b = some o -> h2.get? b = some o := fun b o hb eb => by
   have h1 : b ≠ e := fun z => hb (by simp [z])
   have h2' : b ≠ it := fun z => hb (by simp [z])
   exact (sb.2 b h1).trans (kp b o h1 h2' eb)
  have I2 : Inv X pins σ (upd H s.heap.objs.size (.tup [.int i, x])) { s with heap := h2, toks := s.toks + 1 } := I.turnedNew hf kk (ao5 _)
   ⟨by show 2 <= sizeLine; decide, [.int i s.toks, u], .cons ⟨_, rfl⟩ (.cons ru .nil), ⟨_, (sb.2 _ (arp hlt)).trans tp, rfl, _, rfl⟩⟩
  refine ⟨.ref s.heap.objs.size, _, I2, rfl, ⟨_, x, rfl, I.fresh, rfl, fun ys hy => by rw [I.list_inj hy hq]; exact hx⟩, ⟨⟨_, se2⟩, ?_⟩, fun b hb => ?_⟩
  ·exact si'.at fun o eo => (sb.2 it (aqa hne)).trans eo
  ·rw [zw]
   ·exact (hf b hb).1
   ·rcases ao7.mp hb with z | z
    ·subst z; exact apB hlt
    ·have z : b = it := by simpa using z
     subst z; exact apB hlt2
 done := by
  intro X hP hw hK hc i pins s σ H E I hf st hg
  subst hP hw hK
  obtain ⟨xs, hq, hx⟩ := hg
  obtain ⟨its, rv, p, hz⟩ := I.list hq
  obtain ⟨⟨old, se⟩, si⟩ := st
  have hl := rv.length
  exact wpAny_pyNext_enum_end (I.ok.hd hc) se si p.isList (by simp; omega) fun h' eb => ⟨rfl, I.turnedAll (t' := s.toks) hf fun b o hb e' => eb b o (fun z => hb (by simp [z])) e'⟩
 self := fun _ _ _ _ _ st h => let ⟨_, se⟩ := st.1; wpAny_pyIter_enum se h
section
variable {X : Cx} {es : List Expr} {k : Nat} {tpos : Pos}
def agh (K : ao0) (ta : TA) : TI := fun σ H R => ta σ H fun vs H1 => ∃ a, vs = [.ref a] /\ (∃ xs, SqL K H1 a xs) /\ R (Ite K a) H1
theorem akC {a : Expr} {ta : TA} {p pos : Pos} (hg : Gl X "enumerate") (hm : X.mg "enumerate" = none) (ha : PA X [a] ta) (hs : starEach [a] X.env = [(false, eval a X.env)] := by rfl) : PI X (.Tuple es k tpos) (.Call (.Name "enumerate" p) [a] [] pos) (agh X.K ta) := by
 intro pins s σ H R I h
 refine Call_ (aai I hg hm boot_enumerate (aq1 (thn (ha pos pins s σ H _ I h) fun us s1 ⟨vs, H1, I1, r1, q1⟩ => ?_) hs rfl))
 obtain ⟨l, e, ⟨xs, hq⟩, q⟩ := q1
 subst e
 cases r1 with
 | cons r rr =>
  cases rr
  cases r
  obtain ⟨its, rv, p, hz⟩ := I1.list hq
  refine call_enumerate_list p.isList fun h' he hi hsz kp => ?_
  refine wpAny_pyIter_enum he ?_
  have hne : s1.heap.objs.size + 1 ≠ s1.heap.objs.size := Nat.succ_ne_self _
  refine ⟨s1.heap.objs.size + 1, [s1.heap.objs.size + 1, s1.heap.objs.size], _, _, H1, rfl, I1.kept (t' := s1.toks) kp, ahr l _ _ hne, ⟨⟨_, he⟩, hi⟩, fun b hb => ?_, q⟩
  rcases ao7.mp hb with z | z
  ·subst z; exact I1.fpOk (as6 _) (I1.hok.fresh (as6 _))
  ·have z : b = s1.heap.objs.size := by simpa using z
   subst z; exact I1.fpOk (ao5 _) (I1.hok.fresh (ao5 _))
end
theorem aiF {K : ao0} {a : Addr} {xs : List V} {g : TG} {tb : TS} {D : Ends} {σ : St} {H : Hp} (Pv : Nat -> St -> Hp -> Prop) (h0 : Pv 0 σ H) (hl : ∀ i σ H, i <= xs.length -> Pv i σ H -> SqL K H a xs)
  (hs : ∀ i x σ H t, xs[i]? = some x -> Pv i σ H -> H t = none -> g (.ref t) σ (upd H t (.tup [.int i, x])) fun σ2 H2 => tb { D with nx := Pv (i + 1), ct := Pv (i + 1), bk := D.nx } σ2 H2) (hd : ∀ σ H, Pv xs.length σ H -> D.nx σ H) :
  ∃ W : Nat -> Nat -> St -> Hp -> Prop, (∃ m, W 0 m σ H) /\ ∀ i m σ H, W i m σ H ->
   ((Ite K a).stop i H /\ D.nx σ H) \/ ((Ite K a).go i H /\ ∃ N : St -> Hp -> Prop, (∀ σ' H', N σ' H' -> ∃ m', m' < m /\ W (i + 1) m' σ' H') /\ ∀ x H', (Ite K a).yld i H x H' -> g x σ H' fun σ2 H2 => tb { D with nx := N, ct := N, bk := D.nx } σ2 H2) := by
 refine ⟨fun i m σ H => Pv i σ H /\ i <= xs.length /\ m + i = xs.length, ⟨xs.length, h0, apD _, rfl⟩, fun i m σ H ⟨p, hi, hm⟩ => ?_⟩
 have q := hl i σ H hi p
 by_cases hlt : i < xs.length
 ·refine .inr ⟨⟨xs, xs[i], q, aoX hlt⟩, Pv (i + 1), fun σ' H' n => ⟨m - 1, by omega, n, hlt, by omega⟩, fun x H' hy => ?_⟩
  obtain ⟨t, y, rfl, ht, rfl, hy⟩ := hy
  exact hs i y σ H t (hy xs q) p ht
 ·have e : i = xs.length := by omega
  subst e
  exact .inl ⟨⟨xs, q, ao5 _⟩, hd σ H p⟩
mutual
def Rep (K : ao0) (H : Hp) : PyData -> V -> Prop
 | .none, v => v = .non
 | .bool b, v => v = .bl b
 | .int i, v => v = .int i
 | .str x, v => v = .str x
 | .list ds, v => ∃ a xs, v = .ref a /\ SqL K H a xs /\ Reps K H ds xs
 | .tuple ds, v => ∃ a xs, v = .ref a /\ SqT K H a xs /\ Reps K H ds xs
 | .dict _, _ => False
def Reps (K : ao0) (H : Hp) : List PyData -> List V -> Prop
 | [], xs => xs = []
 | d :: ds, xs => ∃ x r, xs = x :: r /\ Rep K H d x /\ Reps K H ds r
end
theorem Same.seqT {K : ao0} {H H' : Hp} {a : Addr} {xs : List V} (e : Same H H') (h : SqT K H a xs) : SqT K H' a xs := by
 rcases h with (h | ⟨o, h⟩) | h
 ·exact .inl (.inl (e _ _ h))
 ·exact .inl (.inr ⟨o, e _ _ h⟩)
 ·exact .inr h
mutual
theorem Rep.mono {K : ao0} {H H' : Hp} (e : Same H H') : ∀ (d : PyData) (v : V), Rep K H d v -> Rep K H' d v
 | .none, _, h => by rw [Rep] at h ⊢; exact h
 | .bool _, _, h => by rw [Rep] at h ⊢; exact h
 | .int _, _, h => by rw [Rep] at h ⊢; exact h
 | .str _, _, h => by rw [Rep] at h ⊢; exact h
 | .list ds, v, h => by
  rw [Rep] at h ⊢
  obtain ⟨a, xs, h1, h2, h3⟩ := h
  exact ⟨a, xs, h1, e.seq h2, Reps.mono e ds xs h3⟩
 | .tuple ds, v, h => by
  rw [Rep] at h ⊢
  obtain ⟨a, xs, h1, h2, h3⟩ := h
  exact ⟨a, xs, h1, e.seqT h2, Reps.mono e ds xs h3⟩
 | .dict _, _, h => by rw [Rep] at h; exact h.elim
theorem Reps.mono {K : ao0} {H H' : Hp} (e : Same H H') : ∀ (ds : List PyData) (xs : List V), Reps K H ds xs -> Reps K H' ds xs
 | [], _, h => by rw [Reps] at h ⊢; exact h
 | d :: ds, xs, h => by
  rw [Reps] at h ⊢
  obtain ⟨x, r, h1, h2, h3⟩ := h
  exact ⟨x, r, h1, Rep.mono e d x h2, Reps.mono e ds r h3⟩
end
theorem rep_int {K : ao0} {H : Hp} {i : Int} {v : V} : Rep K H (.int i) v ↔ v = .int i := by rw [Rep]
theorem rep_bool {K : ao0} {H : Hp} {b : Bool} {v : V} : Rep K H (.bool b) v ↔ v = .bl b := by rw [Rep]
theorem rep_none {K : ao0} {H : Hp} {v : V} : Rep K H .none v ↔ v = .non := by rw [Rep]
theorem rep_str {K : ao0} {H : Hp} {x : Str} {v : V} : Rep K H (.str x) v ↔ v = .str x := by rw [Rep]
theorem rep_list {K : ao0} {H : Hp} {ds : List PyData} {v : V} : Rep K H (.list ds) v ↔ ∃ a xs, v = .ref a /\ SqL K H a xs /\ Reps K H ds xs := by rw [Rep]
theorem rep_tuple {K : ao0} {H : Hp} {ds : List PyData} {v : V} : Rep K H (.tuple ds) v ↔ ∃ a xs, v = .ref a /\ SqT K H a xs /\ Reps K H ds xs := by rw [Rep]
theorem reps_nil {K : ao0} {H : Hp} {xs : List V} : Reps K H [] xs ↔ xs = [] := by rw [Reps]
theorem reps_cons {K : ao0} {H : Hp} {d : PyData} {ds : List PyData} {xs : List V} : Reps K H (d :: ds) xs ↔ ∃ x r, xs = x :: r /\ Rep K H d x /\ Reps K H ds r := by rw [Reps]
theorem Reps.nil' {K : ao0} {H : Hp} : Reps K H [] [] := reps_nil.mpr rfl
theorem Reps.cons' {K : ao0} {H : Hp} {d : PyData} {ds : List PyData} {x : V} {r : List V} (h : Rep K H d x) (t : Reps K H ds r) : Reps K H (d :: ds) (x :: r) := reps_cons.mpr ⟨x, r, rfl, h, t⟩
theorem Reps.length {K : ao0} {H : Hp} : ∀ {ds : List PyData} {xs : List V}, Reps K H ds xs -> xs.length = ds.length
 | [], xs, h => by rw [reps_nil.mp h]; rfl
 | d :: ds, xs, h => by
  obtain ⟨x, r, rfl, _, h3⟩ := reps_cons.mp h
  rw [apn, apn, Reps.length h3]
theorem Reps.get {K : ao0} {H : Hp} : ∀ {ds : List PyData} {xs : List V} {i : Nat} {d : PyData}, Reps K H ds xs -> ds[i]? = some d -> ∃ x, xs[i]? = some x /\ Rep K H d x
 | [], _, _, _, _, e => by simp at e
 | d :: ds, xs, 0, d', h, e => by
  obtain ⟨x, r, rfl, h2, _⟩ := reps_cons.mp h
  simp at e; subst e
  exact ⟨x, rfl, h2⟩
 | d :: ds, xs, i + 1, d', h, e => by
  obtain ⟨x, r, rfl, _, h3⟩ := reps_cons.mp h
  obtain ⟨y, h1, h2⟩ := Reps.get (i := i) h3 (by simpa using e)
  exact ⟨y, by simpa using h1, h2⟩
theorem Reps.snoc {K : ao0} {H : Hp} {d : PyData} {x : V} (h : Rep K H d x) : ∀ {ds : List PyData} {xs : List V}, Reps K H ds xs -> Reps K H (ds ++ [d]) (xs ++ [x])
 | [], xs, t => by rw [reps_nil.mp t]; exact .cons' h .nil'
 | d' :: ds, xs, t => by
  obtain ⟨y, r, rfl, h2, h3⟩ := reps_cons.mp t
  exact .cons' h2 (Reps.snoc h h3)
theorem Reps.append {K : ao0} {H : Hp} : ∀ {ds es : List PyData} {xs ys : List V}, Reps K H ds xs -> Reps K H es ys -> Reps K H (ds ++ es) (xs ++ ys)
 | [], es, xs, ys, t, u => by rw [reps_nil.mp t]; exact u
 | d' :: ds, es, xs, ys, t, u => by
  obtain ⟨y, r, rfl, h2, h3⟩ := reps_cons.mp t
  exact .cons' h2 (Reps.append h3 u)
theorem Reps.ints {K : ao0} {H : Hp} : ∀ {ns : List Int} {xs : List V}, Reps K H (ns.map .int) xs -> xs = ns.map V.int
 | [], xs, h => reps_nil.mp h
 | n :: ns, xs, h => by
  obtain ⟨x, r, rfl, h2, h3⟩ := reps_cons.mp h
  rw [rep_int.mp h2, Reps.ints h3]; rfl
theorem Reps.ints' {K : ao0} {H : Hp} : ∀ (ns : List Int), Reps K H (ns.map .int) (ns.map V.int)
 | [] => .nil'
 | n :: ns => .cons' (rep_int.mpr rfl) (Reps.ints' ns)
section
variable {X : Cx} {pins : List (Addr × Obj)} {σ : St} {H : Hp} {s : Shared}
mutual
theorem yM (I : Inv X pins σ H s) : ∀ (d : PyData) (v : V) (u : Value), Rep X.K H d v -> RelV v u -> ∃ as, Reads s.heap u d as
 | .none, v, u, h, r => by rw [rep_none.mp h] at r; cases r; exact ⟨_, .none⟩
 | .bool b, v, u, h, r => by rw [rep_bool.mp h] at r; cases r; exact ⟨_, .bool b⟩
 | .int i, v, u, h, r => by rw [rep_int.mp h] at r; obtain ⟨t, rfl⟩ := r; exact ⟨_, .int i t⟩
 | .str x, v, u, h, r => by rw [rep_str.mp h] at r; obtain ⟨t, rfl⟩ := r; exact ⟨_, .str x t⟩
 | .list ds, v, u, h, r => by
  obtain ⟨a, xs, rfl, h2, h3⟩ := rep_list.mp h
  cases r
  obtain ⟨its, rv, p, _⟩ := I.list h2
  obtain ⟨o, ho, hc, n, hd⟩ := p.isList
  obtain ⟨as, ra⟩ := yY I ds xs its h3 rv
  exact ⟨_, .list ho hc hd (by simpa using ra)⟩
 | .tuple ds, v, u, h, r => by
  obtain ⟨a, xs, rfl, h2, h3⟩ := rep_tuple.mp h
  cases r
  obtain ⟨its, rv, p, _⟩ := I.tuple h2
  obtain ⟨o, ho, hc, n, hd⟩ := p
  obtain ⟨as, ra⟩ := yY I ds xs its h3 rv
  exact ⟨_, .tuple ho hc hd (by simpa using ra)⟩
 | .dict _, _, _, h, _ => by rw [Rep] at h; exact h.elim
theorem yY (I : Inv X pins σ H s) : ∀ (ds : List PyData) (xs : List V) (us : List Value), Reps X.K H ds xs -> Vals xs us -> ∃ as, ReadsAll s.heap us ds as
 | [], xs, us, h, r => by rw [reps_nil.mp h] at r; cases r; exact ⟨_, .nil⟩
 | d :: ds, xs, us, h, r => by
  obtain ⟨x, q, rfl, h2, h3⟩ := reps_cons.mp h
  cases r with
  | cons r1 r2 =>
   obtain ⟨as, ra⟩ := yM I d x _ h2 r1
   obtain ⟨bs, rb⟩ := yY I ds q _ h3 r2
   exact ⟨_, .cons ra rb⟩
end
def ahs (K : ao0) (neg : Bool) : R2 := fun x y H Q => ∃ d d', Rep K H d x /\ Rep K H d' y /\ d.canLay0 = true /\ d'.canLay0 = true /\ min d.depth d'.depth <= 60 /\ Q (.bl (if neg then !apw d d' else apw d d')) H
theorem amR (hu : X.A.units + 64 < cLine) : OpR X (compareOp .Eq) (ahs X.K false) := by
 intro pins s σ H x y v u Q I rx ry h
 obtain ⟨d, d', h1, h2, c1, c2, hm, q⟩ := h
 obtain ⟨as, ra⟩ := yM I d x v h1 rx
 obtain ⟨bs, rb⟩ := yM I d' y u h2 ry
 exact SeqAt.compareEq_reads ra rb c1 c2 (by omega) ⟨.bl (apw d d'), H, I, rfl, q⟩
theorem amS (hu : X.A.units + 64 < cLine) : OpR X (compareOp .NotEq) (ahs X.K true) := by
 intro pins s σ H x y v u Q I rx ry h
 obtain ⟨d, d', h1, h2, c1, c2, hm, q⟩ := h
 obtain ⟨as, ra⟩ := yM I d x v h1 rx
 obtain ⟨bs, rb⟩ := yM I d' y u h2 ry
 exact SeqAt.compareNe_reads ra rb c1 c2 (by omega) ⟨.bl (!apw d d'), H, I, rfl, q⟩
theorem aht (hc : X.calm = true) : yn X (.builtin "min") (fun xs H Q => ∃ a ns, xs = [.ref a] /\ SqL X.K H a (ns.map V.int) /\ ns ≠ [] /\ ∀ M, M ∈ ns -> (∀ b ∈ ns, M <= b) -> Q (.int M) H) := by
 intro pins s σ H xs us Q I r h
 obtain ⟨a, ns, rfl, hq, hne, q⟩ := h
 obtain ⟨u, rfl, r1⟩ := vals1 r
 cases r1
 obtain ⟨its, rv, p, _⟩ := I.list hq
 obtain ⟨m, F⟩ := I.fr
 have hi := intsAre_of rv
 obtain ⟨ys, e⟩ := hi.allInts.items
 have hns : ns = ys.toList.map (·.1) := by rw [<- hi.numsOf, <- nums_intItems, <- e]
 have hsz : 0 < ys.size := by
  have h3 : 0 < ns.length := arW.mpr hne
  rw [hns, aoZ, apg] at h3; exact h3
 have hl := p.isList
 rw [e] at hl
 refine min_intList (I.ok.hd hc) hl hsz fun v h' tk hv hk => ?_
 obtain ⟨t, rfl⟩ := intItems_at hv
 obtain ⟨_, h2⟩ := argBest_lt (numAt ys) (ys.size - 1)
 refine ⟨.int _, H, I.kept (t' := tk) hk, ⟨t, rfl⟩, q _ ?_ fun b hb => ?_⟩
 ·rw [hns, numAt_eq]; exact getD_mem (by rw [aoZ, apg]; omega)
 ·rw [hns] at hb
  obtain ⟨j, hj, rfl⟩ := mem_getD hb
  rw [aoZ, apg] at hj
  rw [<- numAt_eq]; exact h2 j (by omega)
theorem ahu (hc : X.calm = true) : yn X (.builtin "max") (fun xs H Q => ∃ a ns, xs = [.ref a] /\ SqL X.K H a (ns.map V.int) /\ ns ≠ [] /\ ∀ M, M ∈ ns -> (∀ b ∈ ns, b <= M) -> Q (.int M) H) := by
 intro pins s σ H xs us Q I r h
 obtain ⟨a, ns, rfl, hq, hne, q⟩ := h
 obtain ⟨u, rfl, r1⟩ := vals1 r
 cases r1
 obtain ⟨its, rv, p, _⟩ := I.list hq
 have hi := intsAre_of rv
 obtain ⟨ys, e⟩ := hi.allInts.items
 have hns : ns = ys.toList.map (·.1) := by rw [<- hi.numsOf, <- nums_intItems, <- e]
 have hsz : 0 < ys.size := by
  have h3 : 0 < ns.length := arW.mpr hne
  rw [hns, aoZ, apg] at h3; exact h3
 have hl := p.isList
 rw [e] at hl
 refine max_intList (I.ok.hd hc) hl hsz fun v h' tk hv hk => ?_
 obtain ⟨t, rfl⟩ := intItems_at hv
 obtain ⟨_, h2⟩ := argBest_gt (numAt ys) (ys.size - 1)
 refine ⟨.int _, H, I.kept (t' := tk) hk, ⟨t, rfl⟩, q _ ?_ fun b hb => ?_⟩
 ·rw [hns, numAt_eq]; exact getD_mem (by rw [aoZ, apg]; omega)
 ·rw [hns] at hb
  obtain ⟨j, hj, rfl⟩ := mem_getD hb
  rw [aoZ, apg] at hj
  rw [<- numAt_eq]; exact h2 j (by omega)
end
inductive DV where
 | dat (d : PyData)
 | feed
 | own (k : Nat)
 | exc (C : Value)
 | mon (φ : Hp -> V -> Prop)
abbrev zr := List (Option DV)
structure Fx where
 f : Option Addr
 M : List Addr
def hide (H : Hp) (f : Fx) : Hp := fun b => if f.f = some b \/ b ∈ f.M then none else H b
structure FOk (f : Fx) (H : Hp) : Prop where
 fd : ∀ p, f.f = some p -> ∃ a b : Int, H p = some (.lst [.int a, .int b]) /\ 0 <= a /\ 0 <= b /\ b < 2147483647
 mm : ∀ b ∈ f.M, ∃ o, H b = some o
 nm : ∀ p, f.f = some p -> p ∉ f.M
def RepV (K : ao0) (f : Fx) (H : Hp) : DV -> V -> Prop
 | .dat d, v => Rep K (hide H f) d v
 | .feed, v => ∃ p, f.f = some p /\ v = .ref p
 | .own k, v => ∃ p, f.M.reverse[k]? = some p /\ v = .ref p
 | .exc C, v => ∃ a, v = .ref a /\ hide H f a = some (.ext fun h => ∃ o, h.get? a = some o /\ o.cls = C)
 | .mon φ, v => ∀ H', Same (hide H f) H' -> φ H' v
structure Goes (f : Fx) (H H' : Hp) : Prop where
 sm : Same (hide H f) (hide H' f)
 ok : FOk f H'
 kp : ∀ b ∈ f.M, H' b = H b
structure EnvOk (K : ao0) (f : Fx) (ρ : zr) (σ : St) (H : Hp) : Prop where
 len : ρ.length = σ.length
 get : ∀ (i : Nat) x, ρ[i]? = some (some x) -> ∃ v, σ[i]? = some (some v) /\ RepV K f H x v
 fd : FOk f H
theorem yK (H : Hp) : hide H ⟨none, []⟩ = H := by funext b; unfold hide; rw [if_neg (by rintro (h | h) <;> cases h)]
theorem zl (H : Hp) (f : Fx) : Same (hide H f) H := fun b o h => by
 unfold hide at h
 split at h
 ·cases h
 ·exact h
theorem zP {H : Hp} {f : Fx} {b : Addr} {o : HO} (h : hide H f b = some o) : ¬ (f.f = some b \/ b ∈ f.M) /\ H b = some o := by
 unfold hide at h
 split at h
 ·cases h
 ·rename_i n; exact ⟨n, h⟩
theorem zB {H : Hp} {f : Fx} {b : Addr} {o : HO} (n : ¬ (f.f = some b \/ b ∈ f.M)) (h : H b = some o) : hide H f b = some o := by unfold hide; rw [if_neg n]; exact h
theorem Goes.refl {f : Fx} {H : Hp} (h : FOk f H) : Goes f H H := ⟨Same.refl _, h, fun _ _ => rfl⟩
theorem Goes.trans {f : Fx} {H H1 H2 : Hp} (a : Goes f H H1) (b : Goes f H1 H2) : Goes f H H2 := ⟨a.1.trans b.1, b.2, fun x hx => (b.kp x hx).trans (a.kp x hx)⟩
theorem Goes.of_same {f : Fx} {H H' : Hp} (s : Same H H') (h : FOk f H) : Goes f H H' :=
 ⟨fun b o e => zB (zP e).1 (s b o (zP e).2), ⟨fun p e => let ⟨a, b, h1, h2⟩ := h.fd p e; ⟨a, b, s _ _ h1, h2⟩, fun b hb => let ⟨o, e⟩ := h.mm b hb; ⟨o, s _ _ e⟩, h.nm⟩, fun b hb => let ⟨o, e⟩ := h.mm b hb; (s _ _ e).trans e.symm⟩
theorem zX {H : Hp} {p : Addr} (h : H p = none) (o : HO) : Same H (upd H p o) := fun b u q => by rw [zw (zG q h)]; exact q
theorem RepV.mono {K : ao0} {f : Fx} {H H' : Hp} (g : Goes f H H') : ∀ {x : DV} {v : V}, RepV K f H x v -> RepV K f H' x v
 | .dat d, v, h => Rep.mono g.1 d v h
 | .feed, v, h => h
 | .own _, v, h => h
 | .exc _, v, h => let ⟨a, e, q⟩ := h; ⟨a, e, g.1 _ _ q⟩
 | .mon _, v, h => fun H' s => h H' (g.1.trans s)
theorem EnvOk.mono {K : ao0} {f : Fx} {ρ : zr} {σ : St} {H H' : Hp} (e : EnvOk K f ρ σ H) (g : Goes f H H') : EnvOk K f ρ σ H' :=
 ⟨e.len, fun i x h => let ⟨v, h1, h2⟩ := e.get i x h; ⟨v, h1, h2.mono g⟩, g.2⟩
theorem EnvOk.set {K : ao0} {f : Fx} {ρ : zr} {σ : St} {H : Hp} {x : DV} {v : V} (e : EnvOk K f ρ σ H) (i : Nat) (r : RepV K f H x v) : EnvOk K f (ρ.set i (some x)) (σ.set i (some v)) H := by
 refine ⟨by rw [aqs, aqs]; exact e.len, fun j y h => ?_, e.fd⟩
 by_cases hj : i = j
 ·subst hj
  by_cases hi : i < ρ.length
  ·rw [aqb hi] at h
   cases h
   exact ⟨v, by rw [aqb (by rw [<- e.len]; exact hi)], r⟩
  ·rw [apy (by rw [aqs]; omega)] at h; cases h
 ·rw [aqo hj] at h ⊢
  exact e.get j y h
theorem fresh_ne {f : Fx} {H : Hp} {p : Addr} (h : FOk f H) (n : H p = none) : ¬ (f.f = some p \/ p ∈ f.M) := fun e => by
 rcases e with e | e
 ·obtain ⟨a, b, h1, _⟩ := h.fd p e
  rw [n] at h1; cases h1
 ·obtain ⟨o, h1⟩ := h.mm p e
  rw [n] at h1; cases h1
inductive RepVs (K : ao0) (f : Fx) (H : Hp) : List DV -> List V -> Prop where
 | nil : RepVs K f H [] []
 | cons {x v xs vs} : RepV K f H x v -> RepVs K f H xs vs -> RepVs K f H (x :: xs) (v :: vs)
theorem RepVs.mono {K : ao0} {f : Fx} {H H' : Hp} (g : Goes f H H') : ∀ {xs : List DV} {vs : List V}, RepVs K f H xs vs -> RepVs K f H' xs vs
 | _, _, .nil => .nil
 | _, _, .cons r t => .cons (r.mono g) (t.mono g)
theorem RepVs.length {K : ao0} {f : Fx} {H : Hp} : ∀ {xs : List DV} {vs : List V}, RepVs K f H xs vs -> vs.length = xs.length
 | _, _, .nil => rfl
 | _, _, .cons _ t => by rw [apn, apn, t.length]
section
variable (K : ao0) (f : Fx)
def PEd (te : TE) (ρ : zr) (P : PyData -> Prop) : Prop := ∀ (σ : St) (H : Hp) (Q : VK), EnvOk K f ρ σ H -> (∀ d v H', Goes f H H' -> Rep K (hide H' f) d v -> P d -> Q v H') -> te σ H Q
def PTd (tt : TT) (ρ : zr) (P : Bool -> Prop) : Prop := ∀ (σ : St) (H : Hp) (Q : Bool -> Hp -> Prop), EnvOk K f ρ σ H -> (∀ b H', Goes f H H' -> P b -> Q b H') -> tt σ H Q
def PAd (ta : TA) (ρ : zr) (P : List DV -> Prop) : Prop := ∀ (σ : St) (H : Hp) (Q : List V -> Hp -> Prop), EnvOk K f ρ σ H -> (∀ xs vs H', Goes f H H' -> RepVs K f H' xs vs -> P xs -> Q vs H') -> ta σ H Q
structure DEnds where
 nx : zr -> Prop
 rt : PyData -> Prop
 bk : zr -> Prop := fun _ => False
 ct : zr -> Prop := fun _ => False
def PSd (ts : TS) (ρ : zr) (D : DEnds) : Prop := ∀ (σ : St) (H : Hp) (E : Ends), EnvOk K f ρ σ H -> (∀ ρ' σ' H', Goes f H H' -> EnvOk K f ρ' σ' H' -> D.nx ρ' -> E.nx σ' H') -> (∀ d v H', Goes f H H' -> Rep K (hide H' f) d v -> D.rt d -> E.rt v H') ->
 (∀ ρ' σ' H', Goes f H H' -> EnvOk K f ρ' σ' H' -> D.bk ρ' -> E.bk σ' H') -> (∀ ρ' σ' H', Goes f H H' -> EnvOk K f ρ' σ' H' -> D.ct ρ' -> E.ct σ' H') -> ts E σ H
def spD {γ : Type} (n : Nat) (pre : γ -> List DV -> Prop) (post : γ -> PyData -> Prop) : Sp := fun vs H Q _ => ∃ f xs c, RepVs K f H xs vs /\ xs.length = n /\ FOk f H /\ pre c xs /\ ∀ r v H', Goes f H H' -> Rep K (hide H' f) r v -> post c r -> Q v H'
end
section
variable {K : ao0} {f : Fx} {ρ : zr} {P : PyData -> Prop} {te ta tb tc : TE}
theorem zh {i : Nat} {d : PyData} (h : ρ[i]? = some (some (.dat d))) (p : P d) : PEd K f (yf i) ρ P := fun σ H Q e q => by
 obtain ⟨v, h1, h2⟩ := e.get i _ h
 exact ⟨v, h1, q d v H (.refl e.fd) h2 p⟩
theorem yw {i : Int} (p : P (.int i)) : PEd K f (tC (.int i)) ρ P := fun σ H Q e q => q (.int i) _ H (.refl e.fd) (rep_int.mpr rfl) p
theorem aiG {i : Bool} (p : P (.bool i)) : PEd K f (tC (.bl i)) ρ P := fun σ H Q e q => q (.bool i) _ H (.refl e.fd) (rep_bool.mpr rfl) p
theorem jX {i : Str} (p : P (.str i)) : PEd K f (tC (.str i)) ρ P := fun σ H Q e q => q (.str i) _ H (.refl e.fd) (rep_str.mpr rfl) p
theorem al6 (p : P .none) : PEd K f (tC .non) ρ P := fun σ H Q e q => q .none _ H (.refl e.fd) (rep_none.mpr rfl) p
theorem PEd.imp {P' : PyData -> Prop} (h : PEd K f te ρ P) (i : ∀ d, P d -> P' d) : PEd K f te ρ P' := fun σ H Q e q => h σ H Q e fun d v H' g r p => q d v H' g r (i d p)
theorem ahv {r : R2} (h : PEd K f ta ρ fun x => PEd K f tb ρ fun y => ∀ (v w : V) (H : Hp) (Q : VK), FOk f H -> Rep K (hide H f) x v -> Rep K (hide H f) y w -> (∀ d u H', Goes f H H' -> Rep K (hide H' f) d u -> P d -> Q u H') -> r v w H Q) : PEd K f (tOp r ta tb) ρ P := fun σ H Q e q =>
 h σ H _ e fun x v H1 g1 r1 p1 => p1 σ H1 _ (e.mono g1) fun y w H2 g2 r2 p2 => p2 v w H2 Q g2.2 (Rep.mono g2.1 x v r1) r2 fun d u H' g' r' p' => q d u H' (g1.trans (g2.trans g')) r' p'
theorem aoR {r : V -> Hp -> VK -> Prop} (h : PEd K f ta ρ fun x => ∀ (v : V) (H : Hp) (Q : VK), FOk f H -> Rep K (hide H f) x v -> (∀ d u H', Goes f H H' -> Rep K (hide H' f) d u -> P d -> Q u H') -> r v H Q) : PEd K f (tUn r ta) ρ P := fun σ H Q e q =>
 h σ H _ e fun x v H1 g1 r1 p1 => p1 v H1 Q g1.2 r1 fun d u H' g' r' p' => q d u H' (g1.trans g') r' p'
theorem abl {g : Int -> Int -> Int} (h : PEd K f ta ρ fun x => ∃ i, x = .int i /\ PEd K f tb ρ fun y => ∃ j, y = .int j /\ P (.int (g i j))) : PEd K f (tOp (rI0 fun i j => .int (g i j)) ta tb) ρ P :=
 ahv (h.imp fun x ⟨i, ex, h2⟩ => h2.imp fun y ⟨j, ey, p⟩ v w H Q fo rx ry q => by
  subst ex ey
  exact ⟨i, j, rep_int.mp rx, rep_int.mp ry, q _ _ H (.refl fo) (rep_int.mpr rfl) p⟩)
theorem ju {C : Int -> Int -> Prop} {g : Int -> Int -> Int} (h : PEd K f ta ρ fun x => ∃ i, x = .int i /\ PEd K f tb ρ fun y => ∃ j, y = .int j /\ C i j /\ P (.int (g i j))) : PEd K f (tOp (rI C fun i j => .int (g i j)) ta tb) ρ P :=
 ahv (h.imp fun x ⟨i, ex, h2⟩ => h2.imp fun y ⟨j, ey, c, p⟩ v w H Q fo rx ry q => by
  subst ex ey
  exact ⟨i, j, rep_int.mp rx, rep_int.mp ry, c, q _ _ H (.refl fo) (rep_int.mpr rfl) p⟩)
theorem agi {g : Int -> Int -> Bool} (h : PEd K f ta ρ fun x => ∃ i, x = .int i /\ PEd K f tb ρ fun y => ∃ j, y = .int j /\ P (.bool (g i j))) : PEd K f (tOp (rI0 fun i j => .bl (g i j)) ta tb) ρ P :=
 ahv (h.imp fun x ⟨i, ex, h2⟩ => h2.imp fun y ⟨j, ey, p⟩ v w H Q fo rx ry q => by
  subst ex ey
  exact ⟨i, j, rep_int.mp rx, rep_int.mp ry, q _ _ H (.refl fo) (rep_bool.mpr rfl) p⟩)
theorem jb {neg : Bool} (h : PEd K f ta ρ fun x => PEd K f tb ρ fun y => x.canLay0 = true /\ y.canLay0 = true /\ min x.depth y.depth <= 60 /\ P (.bool (if neg then !apw x y else apw x y))) : PEd K f (tOp (ahs K neg) ta tb) ρ P :=
 ahv (h.imp fun x h2 => h2.imp fun y ⟨c1, c2, c3, p⟩ v w H Q fo rx ry q =>
  ⟨x, y, Rep.mono (zl _ _) x v rx, Rep.mono (zl _ _) y w ry, c1, c2, c3, q _ _ H (.refl fo) (rep_bool.mpr rfl) p⟩)
theorem vt (h : PEd K f ta ρ fun x => ∃ ds, x = .list ds /\ PEd K f tb ρ fun y => ∃ k, y = .int k /\ ∃ d, atI ds k = some d /\ P d) : PEd K f (tOp (ad1 K) ta tb) ρ P :=
 ahv (h.imp fun x ⟨ds, ex, h2⟩ => h2.imp fun y ⟨k, ey, d, a, p⟩ v w H Q fo rx ry q => by
  subst ex ey
  obtain ⟨l, xs, rfl, hs, hr⟩ := rep_list.mp rx
  unfold atI at a
  cases hi : ixN ds.length k with
  | none => rw [hi] at a; cases a
  | some j =>
   rw [hi] at a
   obtain ⟨u, hu, ru⟩ := hr.get a
   exact ⟨l, xs, k, u, rfl, rep_int.mp ry, (zl H f).seq hs, by unfold atI; rw [hr.length, hi]; exact hu, q d u H (.refl fo) ru p⟩)
theorem vu (h : PEd K f ta ρ fun x => ∃ ds, x = .tuple ds /\ PEd K f tb ρ fun y => ∃ k, y = .int k /\ ∃ d, atI ds k = some d /\ P d) : PEd K f (tOp (amL K) ta tb) ρ P :=
 ahv (h.imp fun x ⟨ds, ex, h2⟩ => h2.imp fun y ⟨k, ey, d, a, p⟩ v w H Q fo rx ry q => by
  subst ex ey
  obtain ⟨l, xs, rfl, hs, hr⟩ := rep_tuple.mp rx
  unfold atI at a
  cases hi : ixN ds.length k with
  | none => rw [hi] at a; cases a
  | some j =>
   rw [hi] at a
   obtain ⟨u, hu, ru⟩ := hr.get a
   exact ⟨l, xs, k, u, rfl, rep_int.mp ry, (zl H f).seqT hs, by unfold atI; rw [hr.length, hi]; exact hu, q d u H (.refl fo) ru p⟩)
theorem al7 {i : Nat} (hi : ρ[i]? = some (some .feed)) (h : PEd K f tb ρ fun y => (y = .int 0 /\ ∀ a : Int, 0 <= a -> P (.int a)) \/ (y = .int 1 /\ ∀ b : Int, 0 <= b -> b < 2147483647 -> P (.int b))) : PEd K f (tOp (ad1 K) (yf i) tb) ρ P := fun σ H Q e q => by
 obtain ⟨v, h1, p, ef, ev⟩ := e.get i _ hi
 refine ⟨v, h1, h σ H _ e fun y w H' g r c => ?_⟩
 obtain ⟨a, b, hf, c1, c2, c3⟩ := g.2.fd p ef
 rcases c with ⟨rfl, c⟩ | ⟨rfl, c⟩
 ·exact ⟨p, _, 0, .int a, ev, rep_int.mp r, SqL.of hf, rfl, q (.int a) _ H' g (rep_int.mpr rfl) (c a c1)⟩
 ·exact ⟨p, _, 1, .int b, ev, rep_int.mp r, SqL.of hf, rfl, q (.int b) _ H' g (rep_int.mpr rfl) (c b c2 c3)⟩
theorem zJ {R : List DV -> Prop} (p : R []) : PAd K f jS ρ R := fun σ H Q e q => q [] [] H (.refl e.fd) .nil p
theorem zp {R : List DV -> Prop} {u : TA} (h : PEd K f te ρ fun x => PAd K f u ρ fun xs => R (.dat x :: xs)) : PAd K f (yd te u) ρ R := fun σ H Q e q =>
 h σ H _ e fun x v H1 g1 r1 p1 => p1 σ H1 _ (e.mono g1) fun xs vs H2 g2 r2 p2 => q (.dat x :: xs) (v :: vs) H2 (g1.trans g2) (.cons (RepV.mono (x := .dat x) g2 r1) r2) p2
theorem acV {R : List DV -> Prop} {u : TA} {i : Nat} (hi : ρ[i]? = some (some .feed)) (h : PAd K f u ρ fun xs => R (.feed :: xs)) : PAd K f (yd (yf i) u) ρ R := fun σ H Q e q => by
 obtain ⟨v, h1, h2⟩ := e.get i _ hi
 exact ⟨v, h1, h σ H _ e fun xs vs H2 g2 r2 p2 => q (.feed :: xs) (v :: vs) H2 g2 (.cons (RepV.mono (x := .feed) g2 h2) r2) p2⟩
def qk : List DV -> Option (List PyData)
 | [] => some []
 | .dat d :: r => (qk r).map (d :: ·)
 | .feed :: _ => none
 | .own _ :: _ => none
 | .exc _ :: _ => none
 | .mon _ :: _ => none
theorem qV {H : Hp} : ∀ {xs : List DV} {vs : List V} {ds : List PyData}, RepVs K f H xs vs -> qk xs = some ds -> Reps K (hide H f) ds vs
 | _, _, ds, .nil, e => by cases e; exact .nil'
 | .dat d :: xs, v :: vs, ds, .cons r t, e => by
  unfold qk at e
  cases q : qk xs with
  | none => rw [q] at e; cases e
  | some es => rw [q] at e; cases e; exact .cons' r (qV t q)
 | .feed :: xs, _, ds, .cons r t, e => by cases e
 | .own _ :: xs, _, ds, .cons r t, e => by cases e
 | .exc _ :: xs, _, ds, .cons r t, e => by cases e
 | .mon _ :: xs, _, ds, .cons r t, e => by cases e
theorem jv {t : TA} (h : PAd K f t ρ fun xs => ∃ ds, qk xs = some ds /\ ds.length <= 1000 /\ P (.list ds)) : PEd K f (afj t) ρ P := fun σ H Q e q =>
 h σ H _ e fun xs vs H1 g1 r1 ⟨ds, ea, hl, p⟩ => by
  have rs := qV r1 ea
  refine ⟨by rw [rs.length]; exact ap1 (z4 hl), fun l hn => ?_⟩
  have sm := zX hn (.lst vs)
  have g2 : Goes f H1 (upd H1 l (.lst vs)) := .of_same sm g1.2
  exact q (.list ds) _ _ (g1.trans g2) (rep_list.mpr ⟨l, vs, rfl, .of (zB (fresh_ne g1.2 hn) zy), Reps.mono g2.1 ds vs rs⟩) p
theorem jY {t : TA} (h : PAd K f t ρ fun xs => ∃ ds, qk xs = some ds /\ ds.length <= 1000 /\ P (.tuple ds)) : PEd K f (aoh t) ρ P := fun σ H Q e q =>
 h σ H _ e fun xs vs H1 g1 r1 ⟨ds, ea, hl, p⟩ => by
  have rs := qV r1 ea
  refine ⟨by rw [rs.length]; exact ap1 (z4 hl), fun l hn => ?_⟩
  have sm := zX hn (.tup vs)
  have g2 : Goes f H1 (upd H1 l (.tup vs)) := .of_same sm g1.2
  exact q (.tuple ds) _ _ (g1.trans g2) (rep_tuple.mpr ⟨l, vs, rfl, .of (zB (fresh_ne g1.2 hn) zy), Reps.mono g2.1 ds vs rs⟩) p
theorem zm {γ : Type} {n : Nat} {pre : γ -> List DV -> Prop} {post : γ -> PyData -> Prop} {E : XK} {t : TA} (c : γ) (h : PAd K f t ρ fun xs => xs.length = n /\ pre c xs /\ ∀ r, post c r -> P r) : PEd K f (vn (spD K n pre post) [] E t) ρ P := fun σ H Q e q =>
 h σ H _ e fun xs vs H1 g1 r1 ⟨hl, hp, k⟩ => by
  refine ⟨f, xs, c, by rw [apC]; exact r1, hl, g1.2, hp, fun r v H' g' r' p' => q r v H' (g1.trans g') r' (k r p')⟩
theorem ad8 {r : List V -> Hp -> VK -> Prop} {t : TA} (h : PAd K f t ρ fun xs => ∃ ds, qk xs = some ds /\ ∀ (vs : List V) (H : Hp) (Q : VK), FOk f H -> Reps K (hide H f) ds vs -> (∀ d u H', Goes f H H' -> Rep K (hide H' f) d u -> P d -> Q u H') -> r vs H Q) : PEd K f (tCB r t) ρ P := fun σ H Q e q =>
 h σ H _ e fun xs vs H1 g1 r1 ⟨ds, ea, k⟩ => k vs H1 Q g1.2 (qV r1 ea) fun d u H' g' r' p' => q d u H' (g1.trans g') r' p'
end
section
variable {K : ao0} {f : Fx} {ρ : zr} {P : PyData -> Prop} {B : Bool -> Prop} {te ta tb tc : TE} {tt tu : TT}
theorem PTd.imp {B' : Bool -> Prop} (h : PTd K f tt ρ B) (i : ∀ d, B d -> B' d) : PTd K f tt ρ B' := fun σ H Q e q => h σ H Q e fun d H' g p => q d H' g (i d p)
theorem yt (h : PEd K f te ρ fun d => ∃ k, d = .bool k /\ B k) : PTd K f (adZ te) ρ B := fun σ H Q e q => h σ H _ e fun d v H' g r ⟨k, ed, p⟩ => by
 subst ed
 exact ⟨k, rep_bool.mp r, q k H' g p⟩
theorem t_b (h : PEd K f te ρ fun d => ∃ k, d = .bool k /\ B k) : PTd K f (tB te) ρ B := fun σ H Q e q => h σ H _ e fun d v H' g r ⟨k, ed, p⟩ => by
 subst ed
 exact ⟨k, rep_bool.mp r, q k H' g p⟩
theorem aci (h : PTd K f tt ρ fun c => if c = true then PTd K f tu ρ B else B false) : PTd K f (aob tt tu) ρ B := fun σ H Q e q => h σ H _ e fun c H1 g p => by
 cases c with
 | true =>
  rw [if_pos rfl] at p ⊢
  exact p σ H1 Q (e.mono g) fun b H2 g2 p2 => q b H2 (g.trans g2) p2
 | false =>
  rw [if_neg aoY] at p ⊢
  exact q false H1 g p
theorem aiH (h : PTd K f tt ρ fun c => if c = true then B true else PTd K f tu ρ B) : PTd K f (tOr tt tu) ρ B := fun σ H Q e q => h σ H _ e fun c H1 g p => by
 cases c with
 | true =>
  rw [if_pos rfl] at p ⊢
  exact q true H1 g p
 | false =>
  rw [if_neg aoY] at p ⊢
  exact p σ H1 Q (e.mono g) fun b H2 g2 p2 => q b H2 (g.trans g2) p2
theorem abm (h : PTd K f tt ρ fun c => B (!c)) : PTd K f (aoc tt) ρ B := fun σ H Q e q => h σ H _ e fun c H1 g p => q (!c) H1 g p
def aoS : PyData -> Option Bool
 | .none => some false
 | .bool b => some b
 | .int i => some (i != 0)
 | .list ds => some (!ds.isEmpty)
 | .tuple ds => some (!ds.isEmpty)
 | _ => none
def amT (K : ao0) (ta : TE) : TT := fun σ H Q => ta σ H fun x H' => ∃ k, amI K x H' k /\ Q k H'
theorem amU {X : Cx} {a : Expr} (ha : PE X a ta) (he : ∀ whole, isTrue a X.env whole = (do let v <- whole; standAt a.pos; holding [v] (truthy v))) : PT X a (amT X.K ta) := aiz ha he
theorem yN (h : PEd K f ta ρ fun d => ∃ k, aoS d = some k /\ B k) : PTd K f (amT K ta) ρ B := fun σ H Q e q => h σ H _ e fun d v H' g r ⟨k, ed, p⟩ => by
 refine ⟨k, ?_, q k H' g p⟩
 cases d with
 | none => rw [rep_none.mp r]; cases ed; rfl
 | bool b => rw [rep_bool.mp r]; cases ed; rfl
 | int i => rw [rep_int.mp r]; cases ed; rfl
 | str x => cases ed
 | list ds =>
  obtain ⟨a, xs, rfl, h1, h2⟩ := rep_list.mp r
  cases ed
  refine .inl ⟨xs, (zl _ _).seq h1, ?_⟩
  cases ds with
  | nil => rw [reps_nil.mp h2]; rfl
  | cons d ds => obtain ⟨x, r, rfl, _⟩ := reps_cons.mp h2; rfl
 | tuple ds =>
  obtain ⟨a, xs, rfl, h1, h2⟩ := rep_tuple.mp r
  cases ed
  refine .inr (.inl ⟨xs, (zl _ _).seqT h1, ?_⟩)
  cases ds with
  | nil => rw [reps_nil.mp h2]; rfl
  | cons d ds => obtain ⟨x, r, rfl, _⟩ := reps_cons.mp h2; rfl
 | dict _ => cases ed
theorem aiI (h : PTd K f tt ρ fun c => if c = true then PEd K f ta ρ P else PEd K f tb ρ P) : PEd K f (tIf tt ta tb) ρ P := fun σ H Q e q => h σ H _ e fun c H1 g p => by
 cases c with
 | true => rw [if_pos rfl] at p ⊢; exact p σ H1 Q (e.mono g) fun d v H2 g2 r2 p2 => q d v H2 (g.trans g2) r2 p2
 | false => rw [if_neg aoY] at p ⊢; exact p σ H1 Q (e.mono g) fun d v H2 g2 r2 p2 => q d v H2 (g.trans g2) r2 p2
theorem afo (h : PEd K f ta ρ fun x => ∃ c, x = .bool c /\ if c = true then PEd K f tb ρ P else P (.bool false)) : PEd K f (alZ ta tb) ρ P := fun σ H Q e q => h σ H _ e fun x v H1 g r ⟨c, ex, p⟩ => by
 subst ex
 refine ⟨c, rep_bool.mp r, ?_⟩
 cases c with
 | true => rw [if_pos rfl] at p ⊢; exact p σ H1 Q (e.mono g) fun d v H2 g2 r2 p2 => q d v H2 (g.trans g2) r2 p2
 | false => rw [if_neg aoY] at p ⊢; exact q _ _ H1 g (rep_bool.mpr rfl) p
theorem aiJ (h : PEd K f ta ρ fun x => ∃ c, x = .bool c /\ P (.bool !c)) : PEd K f (al0 ta) ρ P := fun σ H Q e q => h σ H _ e fun x v H1 g r ⟨c, ex, p⟩ => by
 subst ex
 exact ⟨c, rep_bool.mp r, q _ _ H1 g (rep_bool.mpr rfl) p⟩
theorem agj {g g' : Int -> Int -> Bool} (h : PEd K f ta ρ fun x => ∃ i, x = .int i /\ PEd K f tb ρ fun y => ∃ j, y = .int j /\ if g i j = true then PEd K f tc ρ fun z => ∃ k, z = .int k /\ P (.bool (g' j k)) else P (.bool false)) :
  PEd K f (aiy (rI0 fun i j => .bl (g i j)) (rI0 fun i j => .bl (g' i j)) ta tb tc) ρ P := fun σ H Q e q => h σ H _ e fun x v H1 g1 r1 ⟨i, ex, p1⟩ => p1 σ H1 _ (e.mono g1) fun y w H2 g2 r2 ⟨j, ey, p2⟩ => by
 subst ex ey
 refine ⟨i, j, rep_int.mp r1, rep_int.mp r2, g i j, rfl, ?_⟩
 by_cases hg : g i j = true
 ·rw [if_pos hg] at p2 ⊢
  exact p2 σ H2 _ ((e.mono g1).mono g2) fun z u H3 g3 r3 ⟨k, ez, p3⟩ => by
   subst ez
   exact ⟨j, k, rep_int.mp r2, rep_int.mp r3, q _ _ H3 (g1.trans (g2.trans g3)) (rep_bool.mpr rfl) p3⟩
 ·rw [if_neg hg] at p2 ⊢
  exact q _ _ H2 (g1.trans g2) (rep_bool.mpr rfl) p2
theorem ad9 {t : TA} (h : PAd K f t ρ fun xs => (∃ ds, xs = [.dat (.list ds)] /\ P (.int ds.length)) \/ (∃ ds, xs = [.dat (.tuple ds)] /\ P (.int ds.length))) :
  PEd K f (tCB (fun xs H Q => ∃ p ys, xs = [.ref p] /\ (SqL K H p ys \/ SqT K H p ys) /\ Q (.int ys.length) H) t) ρ P :=
 ad8 fun σ H Q e q => h σ H Q e fun xs vs H' g r p => by
  rcases p with ⟨ds, rfl, p⟩ | ⟨ds, rfl, p⟩
  ·refine q _ vs H' g r ⟨_, rfl, fun vs H Q fo rs k => ?_⟩
   obtain ⟨x, r, rfl, h2, h3⟩ := reps_cons.mp rs
   rw [reps_nil.mp h3]
   obtain ⟨a, ys, rfl, s1, s2⟩ := rep_list.mp h2
   exact ⟨a, ys, rfl, .inl ((zl _ _).seq s1), k (.int ds.length) _ H (.refl fo) (rep_int.mpr (by rw [s2.length])) p⟩
  ·refine q _ vs H' g r ⟨_, rfl, fun vs H Q fo rs k => ?_⟩
   obtain ⟨x, r, rfl, h2, h3⟩ := reps_cons.mp rs
   rw [reps_nil.mp h3]
   obtain ⟨a, ys, rfl, s1, s2⟩ := rep_tuple.mp h2
   exact ⟨a, ys, rfl, .inr ((zl _ _).seqT s1), k (.int ds.length) _ H (.refl fo) (rep_int.mpr (by rw [s2.length])) p⟩
theorem aiK {t : TA} (h : PAd K f t ρ fun xs => ∃ ns : List Int, xs = [.dat (.list (ns.map .int))] /\ ns ≠ [] /\ ∀ M, M ∈ ns -> (∀ b ∈ ns, M <= b) -> P (.int M)) :
  PEd K f (tCB (fun xs H Q => ∃ a ns, xs = [.ref a] /\ SqL K H a (ns.map V.int) /\ ns ≠ [] /\ ∀ M, M ∈ ns -> (∀ b ∈ ns, M <= b) -> Q (.int M) H) t) ρ P :=
 ad8 fun σ H Q e q => h σ H Q e fun xs vs H' g r ⟨ns, ex, hne, p⟩ => by
  subst ex
  refine q _ vs H' g r ⟨_, rfl, fun vs H Q fo rs k => ?_⟩
  obtain ⟨x, r, rfl, h2, h3⟩ := reps_cons.mp rs
  rw [reps_nil.mp h3]
  obtain ⟨a, ys, rfl, s1, s2⟩ := rep_list.mp h2
  rw [s2.ints] at s1
  exact ⟨a, ns, rfl, (zl _ _).seq s1, hne, fun M h1 h2 => k (.int M) _ H (.refl fo) (rep_int.mpr rfl) (p M h1 h2)⟩
theorem aiL {t : TA} (h : PAd K f t ρ fun xs => ∃ ns : List Int, xs = [.dat (.list (ns.map .int))] /\ ns ≠ [] /\ ∀ M, M ∈ ns -> (∀ b ∈ ns, b <= M) -> P (.int M)) :
  PEd K f (tCB (fun xs H Q => ∃ a ns, xs = [.ref a] /\ SqL K H a (ns.map V.int) /\ ns ≠ [] /\ ∀ M, M ∈ ns -> (∀ b ∈ ns, b <= M) -> Q (.int M) H) t) ρ P :=
 ad8 fun σ H Q e q => h σ H Q e fun xs vs H' g r ⟨ns, ex, hne, p⟩ => by
  subst ex
  refine q _ vs H' g r ⟨_, rfl, fun vs H Q fo rs k => ?_⟩
  obtain ⟨x, r, rfl, h2, h3⟩ := reps_cons.mp rs
  rw [reps_nil.mp h3]
  obtain ⟨a, ys, rfl, s1, s2⟩ := rep_list.mp h2
  rw [s2.ints] at s1
  exact ⟨a, ns, rfl, (zl _ _).seq s1, hne, fun M h1 h2 => k (.int M) _ H (.refl fo) (rep_int.mpr rfl) (p M h1 h2)⟩
theorem aiM {g : Int -> Int -> Int} {t : TA} (h : PAd K f t ρ fun xs => ∃ i j, xs = [.dat (.int i), .dat (.int j)] /\ P (.int (g i j))) : PEd K f (tCB (fun xs H Q => ∃ i j, xs = [.int i, .int j] /\ Q (.int (g i j)) H) t) ρ P :=
 ad8 fun σ H Q e q => h σ H Q e fun xs vs H' g' r ⟨i, j, ex, p⟩ => by
  subst ex
  refine q _ vs H' g' r ⟨_, rfl, fun vs H Q fo rs k => ?_⟩
  obtain ⟨x, r, rfl, h2, h3⟩ := reps_cons.mp rs
  obtain ⟨y, r', rfl, h4, h5⟩ := reps_cons.mp h3
  rw [reps_nil.mp h5, rep_int.mp h2, rep_int.mp h4]
  exact ⟨i, j, rfl, k _ _ H (.refl fo) (rep_int.mpr rfl) p⟩
theorem aiN {g : Int -> Int} {t : TA} (h : PAd K f t ρ fun xs => ∃ i, xs = [.dat (.int i)] /\ P (.int (g i))) : PEd K f (tCB (fun xs H Q => ∃ i, xs = [.int i] /\ Q (.int (g i)) H) t) ρ P :=
 ad8 fun σ H Q e q => h σ H Q e fun xs vs H' g' r ⟨i, ex, p⟩ => by
  subst ex
  refine q _ vs H' g' r ⟨_, rfl, fun vs H Q fo rs k => ?_⟩
  obtain ⟨x, r, rfl, h2, h3⟩ := reps_cons.mp rs
  rw [reps_nil.mp h3, rep_int.mp h2]
  exact ⟨i, rfl, k _ _ H (.refl fo) (rep_int.mpr rfl) p⟩
theorem aiO {t : TA} (h : PAd K f t ρ fun xs => (∃ ds, xs = [.dat (.list ds)] /\ P (.list ds)) \/ (∃ ds, xs = [.dat (.tuple ds)] /\ P (.list ds))) :
  PEd K f (tCB (fun xs H Q => ∃ p ys, xs = [.ref p] /\ (SqL K H p ys \/ SqT K H p ys) /\ ∀ l, H l = none -> Q (.ref l) (upd H l (.lst ys))) t) ρ P :=
 ad8 fun σ H Q e q => h σ H Q e fun xs vs H' g r p => by
  rcases p with ⟨ds, rfl, p⟩ | ⟨ds, rfl, p⟩
  ·refine q _ vs H' g r ⟨_, rfl, fun vs H Q fo rs k => ?_⟩
   obtain ⟨x, r, rfl, h2, h3⟩ := reps_cons.mp rs
   rw [reps_nil.mp h3]
   obtain ⟨a, ys, rfl, s1, s2⟩ := rep_list.mp h2
   refine ⟨a, ys, rfl, .inl ((zl _ _).seq s1), fun l hn => ?_⟩
   have g2 : Goes f H (upd H l (.lst ys)) := .of_same (zX hn _) fo
   exact k (.list ds) _ _ g2 (rep_list.mpr ⟨l, ys, rfl, .of (zB (fresh_ne fo hn) zy), Reps.mono g2.1 ds ys s2⟩) p
  ·refine q _ vs H' g r ⟨_, rfl, fun vs H Q fo rs k => ?_⟩
   obtain ⟨x, r, rfl, h2, h3⟩ := reps_cons.mp rs
   rw [reps_nil.mp h3]
   obtain ⟨a, ys, rfl, s1, s2⟩ := rep_tuple.mp h2
   refine ⟨a, ys, rfl, .inr ((zl _ _).seqT s1), fun l hn => ?_⟩
   have g2 : Goes f H (upd H l (.lst ys)) := .of_same (zX hn _) fo
   exact k (.list ds) _ _ g2 (rep_list.mpr ⟨l, ys, rfl, .of (zB (fresh_ne fo hn) zy), Reps.mono g2.1 ds ys s2⟩) p
end
section
variable {K : ao0} {f : Fx} {ρ : zr} {D : DEnds} {te ta tb : TE} {tt : TT} {ts tu : TS}
theorem yD (p : D.nx ρ) : PSd K f af6 ρ D := fun σ H E e n _ _ _ => n ρ σ H (.refl e.fd) e p
theorem zW (h : PSd K f ts ρ { D with nx := fun ρ' => PSd K f tu ρ' D }) : PSd K f (qH ts tu) ρ D := fun σ H E e n r b c =>
 h σ H { E with nx := tu E } e (fun ρ' σ' H' g e' p => p σ' H' E e' (fun ρ'' σ'' H'' g' e'' p' => n ρ'' σ'' H'' (g.trans g') e'' p') (fun d v H'' g' r' p' => r d v H'' (g.trans g') r' p') (fun ρ'' σ'' H'' g' e'' p' => b ρ'' σ'' H'' (g.trans g') e'' p') (fun ρ'' σ'' H'' g' e'' p' => c ρ'' σ'' H'' (g.trans g') e'' p')) r b c
theorem ya (h : PEd K f te ρ D.rt) : PSd K f (acP te) ρ D := fun σ H E e n r b c => h σ H _ e r
theorem jw (h : PEd K f te ρ fun _ => D.nx ρ) : PSd K f (adU te) ρ D := fun σ H E e n r b c => h σ H _ e fun d v H' g _ p => n ρ σ H' g (e.mono g) p
theorem abZ (h : PTd K f tt ρ fun b => if b = true then PSd K f ts ρ D else PSd K f tu ρ D) : PSd K f (ahk tt ts tu) ρ D := fun σ H E e n r b c => h σ H _ e fun k H1 g p => by
 cases k with
 | true =>
  rw [if_pos rfl] at p ⊢
  exact p σ H1 E (e.mono g) (fun ρ'' σ'' H'' g' e'' p' => n ρ'' σ'' H'' (g.trans g') e'' p') (fun d v H'' g' r' p' => r d v H'' (g.trans g') r' p') (fun ρ'' σ'' H'' g' e'' p' => b ρ'' σ'' H'' (g.trans g') e'' p') (fun ρ'' σ'' H'' g' e'' p' => c ρ'' σ'' H'' (g.trans g') e'' p')
 | false =>
  rw [if_neg aoY] at p ⊢
  exact p σ H1 E (e.mono g) (fun ρ'' σ'' H'' g' e'' p' => n ρ'' σ'' H'' (g.trans g') e'' p') (fun d v H'' g' r' p' => r d v H'' (g.trans g') r' p') (fun ρ'' σ'' H'' g' e'' p' => b ρ'' σ'' H'' (g.trans g') e'' p') (fun ρ'' σ'' H'' g' e'' p' => c ρ'' σ'' H'' (g.trans g') e'' p')
def PGd (K : ao0) (f : Fx) (g : TG) (d : PyData) (ρ : zr) (R : zr -> Prop) : Prop := ∀ (σ : St) (H : Hp) (v : V) (Q : St -> Hp -> Prop), EnvOk K f ρ σ H -> Rep K (hide H f) d v -> (∀ ρ' σ' H', Goes f H H' -> EnvOk K f ρ' σ' H' -> R ρ' -> Q σ' H') -> g v σ H Q
def aiP (K : ao0) (f : Fx) (g : TGs) (ds : List PyData) (ρ : zr) (R : zr -> Prop) : Prop := ∀ (σ : St) (H : Hp) (vs : List V) (Q : St -> Hp -> Prop), EnvOk K f ρ σ H -> Reps K (hide H f) ds vs -> (∀ ρ' σ' H', Goes f H H' -> EnvOk K f ρ' σ' H' -> R ρ' -> Q σ' H') -> g vs σ H Q
theorem zi {i : Nat} {d : PyData} {R : zr -> Prop} (h : R (ρ.set i (some (.dat d)))) : PGd K f (y6 i) d ρ R := fun σ H v Q e r q => q _ _ H (.refl e.fd) (e.set i (x := .dat d) r) h
theorem z9 {R : zr -> Prop} (h : R ρ) : aiP K f aod [] ρ R := fun σ H vs Q e r q => ⟨reps_nil.mp r, q ρ σ H (.refl e.fd) e h⟩
theorem zt {g : TG} {gs : TGs} {d : PyData} {ds : List PyData} {R : zr -> Prop} (h : PGd K f g d ρ fun ρ' => aiP K f gs ds ρ' R) : aiP K f (al1 g gs) (d :: ds) ρ R := fun σ H vs Q e r q => by
 obtain ⟨x, r', rfl, h2, h3⟩ := reps_cons.mp r
 exact ⟨x, r', rfl, h σ H x _ e h2 fun ρ' σ' H' g' e' p => p σ' H' r' Q e' (Reps.mono g'.1 ds r' h3) fun ρ'' σ'' H'' g'' e'' p' => q ρ'' σ'' H'' (g'.trans g'') e'' p'⟩
theorem yH {n : Nat} {gs : TGs} {ds : List PyData} {R : zr -> Prop} (hn : ds.length = n) (h : aiP K f gs ds ρ R) : PGd K f (amB K n gs) (.tuple ds) ρ R := fun σ H v Q e r q => by
 obtain ⟨a, xs, rfl, h1, h2⟩ := rep_tuple.mp r
 exact ⟨a, xs, rfl, (zl _ _).seqT h1, by rw [h2.length]; exact hn, h σ H xs Q e h2 q⟩
theorem zE {g : TG} (h : PEd K f te ρ fun d => PGd K f g d ρ D.nx) : PSd K f (jV te g) ρ D := fun σ H E e n r b c =>
 h σ H _ e fun d v H1 g1 r1 p1 => p1 σ H1 v _ (e.mono g1) r1 fun ρ' σ' H' g' e' p' => n ρ' σ' H' (g1.trans g') e' p'
end
section
variable {K : ao0} {f : Fx} {ρ : zr} {D : DEnds} {te ta tb : TE} {tt : TT} {ts tu : TS} {g : TG}
theorem afp {t : TA} (h : PAd K f t ρ fun xs => ∃ ds, xs = [.dat (.list ds)] /\ ∃ J : Nat -> zr -> Prop, J 0 ρ /\
   (∀ (i : Nat) d ρ', ds[i]? = some d -> J i ρ' -> PGd K f g (.tuple [.int i, d]) ρ' fun ρ2 => PSd K f ts ρ2 { D with nx := J (i + 1), ct := J (i + 1), bk := D.nx }) /\ ∀ ρ', J ds.length ρ' -> D.nx ρ') :
  PSd K f (akx (agh K t) g ts) ρ D := fun σ H E e n r b c => h σ H _ e fun xs vs H1 g1 r1 ⟨ds, ex, J, j0, js, jd⟩ => by
 subst ex
 cases r1 with
 | cons rx r' =>
  cases r'
  obtain ⟨a, xs, rfl, h1, h2⟩ := rep_list.mp rx
  have hl := h2.length
  refine ⟨a, rfl, ⟨xs, (zl _ _).seq h1⟩, aiF (K := K) (a := a) (xs := xs) (fun i σ' H' => ∃ ρ', EnvOk K f ρ' σ' H' /\ Goes f H H' /\ Goes f H1 H' /\ J i ρ') ⟨ρ, e.mono g1, g1, .refl g1.2, j0⟩ (fun i σ' H' _ ⟨ρ', e', g', g1', p⟩ => (zl _ _).seq (g1'.1.seq h1)) (fun i y σ' H' tp hy ⟨ρ', e', g', g1', p⟩ hn => ?_) fun σ' H' ⟨ρ', e', g', _, p⟩ => n ρ' σ' H' g' e' (jd ρ' (by rw [<- hl]; exact p))⟩
  have hi : i < ds.length := by rw [<- hl]; exact (ao1.mp hy).1
  obtain ⟨z, hz, rz⟩ := h2.get (aoX hi)
  rw [hy] at hz
  cases hz
  have gn : Goes f H' (upd H' tp (.tup [.int i, y])) := .of_same (zX hn _) e'.fd
  have rt : Rep K (hide (upd H' tp (.tup [.int i, y])) f) (.tuple [.int i, ds[i]]) (.ref tp) := rep_tuple.mpr ⟨tp, _, rfl, .of (zB (fresh_ne e'.fd hn) zy), .cons' (rep_int.mpr rfl) (.cons' (Rep.mono gn.1 _ _ (Rep.mono g1'.1 _ _ rz)) .nil')⟩
  refine js i _ ρ' (aoX hi) p σ' _ _ _ (e'.mono gn) rt fun ρ2 σ2 H2 g2' e2 p2 => ?_
  have g2 := gn.trans g2'
  exact p2 σ2 H2 _ e2 (fun ρ3 σ3 H3 g3 e3 p3 => ⟨ρ3, e3, g'.trans (g2.trans g3), g1'.trans (g2.trans g3), p3⟩) (fun d v H3 g3 r3 p3 => r d v H3 (g'.trans (g2.trans g3)) r3 p3) (fun ρ3 σ3 H3 g3 e3 p3 => n ρ3 σ3 H3 (g'.trans (g2.trans g3)) e3 p3) (fun ρ3 σ3 H3 g3 e3 p3 => ⟨ρ3, e3, g'.trans (g2.trans g3), g1'.trans (g2.trans g3), p3⟩)
end
def frD (fr : List Nat) (ρ : zr) : zr := fr.map fun j => (ρ[j]?).getD none
def aal (own : Nat) (fr : List Nat) (ρ : zr) : zr := aqT own none ++ frD fr ρ
abbrev Fx.with (f : Fx) (D : Addr) : Fx := ⟨f.f, D :: f.M⟩
section
variable {K : ao0} {f : Fx} {ρ : zr} {σ : St} {H H' : Hp} {D : Addr} {o : HO}
theorem ahw {own : Nat} {fr : List Nat} (e : EnvOk K f ρ σ H) : EnvOk K f (aal own fr ρ) (y4 own fr σ) H := by
 refine ⟨by unfold aal y4 frD; simp, fun i x h => ?_, e.fd⟩
 unfold aal frD at h
 unfold y4
 by_cases hi : i < own
 ·rw [ape (by simpa using hi), aqU] at h
  split at h <;> cases h
 ·rw [apl (by simpa using hi)] at h ⊢
  simp only [arG, ao8] at h ⊢
  cases hj : fr[i - own]? with
  | none => rw [hj] at h; cases h
  | some j =>
   rw [hj] at h
   have h' : (ρ[j]?).getD none = some x := Option.some.inj h
   have hρ : ρ[j]? = some (some x) := by
    cases q : ρ[j]? with
    | none => rw [q] at h'; cases h'
    | some w => rw [q] at h'; exact congrArg some h'
   obtain ⟨v, h1, h2⟩ := e.get j x hρ
   exact ⟨v, by simp [h1], h2⟩
theorem yx : hide (upd H D o) (f.with D) = hide H (f.with D) := by
 funext b
 unfold hide
 by_cases hb : f.f = some b \/ b ∈ D :: f.M
 ·rw [if_pos hb, if_pos hb]
 ·rw [if_neg hb, if_neg hb]
  have : b ≠ D := fun z => hb (.inr (z ▸ ao4))
  exact zw this
theorem jZ : Same (hide H (f.with D)) (hide H f) := fun b o h => by
 obtain ⟨h1, h2⟩ := zP h
 exact zB (fun z => h1 (z.elim .inl fun z => .inr (ao3 _ z))) h2
theorem qW (hn : H D = none) : Same (hide H f) (hide (upd H D o) (f.with D)) := fun b u h => by
 obtain ⟨h1, h2⟩ := zP h
 have hb : b ≠ D := zG h2 hn
 exact zB (fun z => z.elim (fun z => h1 (.inl z)) fun z => (ao7.mp z).elim hb fun z => h1 (.inr z)) (by rw [zw hb]; exact h2)
theorem amV (h : FOk f H) (hn : H D = none) : FOk (f.with D) (upd H D o) :=
 ⟨fun p e => let ⟨a, b, h1, h2⟩ := h.fd p e; ⟨a, b, by rw [zw (zG h1 hn)]; exact h1, h2⟩, fun b hb => by
  rcases ao7.mp hb with rfl | hb
  ·exact ⟨_, zy⟩
  ·obtain ⟨o', h1⟩ := h.mm b hb
   exact ⟨o', by rw [zw (zG h1 hn)]; exact h1⟩, fun p e hp => by
  rcases ao7.mp hp with rfl | hp
  ·exact fresh_ne h hn (.inl e)
  ·exact h.nm p e hp⟩
theorem aiQ (e : EnvOk K f ρ σ H) (hn : H D = none) : EnvOk K (f.with D) ρ σ (upd H D o) :=
 ⟨e.len, fun i x h => let ⟨v, h1, h2⟩ := e.get i x h; ⟨v, h1, by
  cases x with
  | dat d => exact Rep.mono (qW hn) d v h2
  | feed => exact h2
  | own k =>
   obtain ⟨p, h3, h4⟩ := h2
   refine ⟨p, ?_, h4⟩
   show (D :: f.M).reverse[k]? = some p
   rw [asf, ape (ao1.mp h3).1]
   exact h3
  | exc C =>
   obtain ⟨a, h3, h4⟩ := h2
   exact ⟨a, h3, qW hn _ _ h4⟩
  | mon φ => exact fun H' s => h2 H' ((qW hn).trans s)⟩, amV e.fd hn⟩
theorem akD (hD : f.f ≠ some D) (e : EnvOk K (f.with D) ρ σ H) : EnvOk K (f.with D) ρ σ (upd H D o) :=
 ⟨e.len, fun i x h => let ⟨v, h1, h2⟩ := e.get i x h; ⟨v, h1, by
  cases x with
  | dat d =>
   have h2' : Rep K (hide H (f.with D)) d v := h2
   show Rep K (hide (upd H D o) (f.with D)) d v
   rw [yx]; exact h2'
  | feed => exact h2
  | own k => exact h2
  | exc C =>
   obtain ⟨a, h3, h4⟩ := h2
   refine ⟨a, h3, ?_⟩
   rw [yx]
   exact h4
  | mon φ =>
   intro H' s
   rw [yx] at s
   exact h2 H' s⟩, ⟨fun p ep => let ⟨a, b, h1, h2⟩ := e.fd.fd p ep; ⟨a, b, by rw [zw (fun z => hD (by rw [<- z]; exact ep))]; exact h1, h2⟩, fun b hb => by
   by_cases hb' : b = D
   ·subst hb'; exact ⟨_, zy⟩
   ·rw [zw hb']; exact e.fd.mm b hb, e.fd.nm⟩⟩
end
section
variable {K : ao0} {f : Fx} {ρ : zr} {P : PyData -> Prop} {te tl : TE} {tt : TT} {g : TG} {own : Nat} {fr : List Nat}
structure CSt (K : ao0) (f : Fx) (D : Addr) (H2 : Hp) (ρ' : zr) (es : List PyData) (σ : St) (H : Hp) : Prop where
 env : EnvOk K (f.with D) ρ' σ H
 sm : Same (hide H2 (f.with D)) (hide H (f.with D))
 kp : ∀ b ∈ f.M, H b = H2 b
 lst : ∃ vs, H D = some (.lst vs) /\ Reps K (hide H (f.with D)) es vs
theorem CSt.go {D : Addr} {H2 H H' : Hp} {ρ' : zr} {es : List PyData} {σ : St} (c : CSt K f D H2 ρ' es σ H) (gg : Goes (f.with D) H H') {ρ2 : zr} {σ2 : St} (e2 : EnvOk K (f.with D) ρ2 σ2 H') : CSt K f D H2 ρ2 es σ2 H' :=
 ⟨e2, c.sm.trans gg.sm, fun b hb => (gg.kp b (ao3 _ hb)).trans (c.kp b hb), let ⟨vs, h1, h2⟩ := c.lst; ⟨vs, (gg.kp D ao4).trans h1, Reps.mono gg.sm es vs h2⟩⟩
theorem CSt.put {D : Addr} {H2 H : Hp} {ρ' : zr} {es : List PyData} {σ : St} {d : PyData} {v : V} {vs : List V} (hD : f.f ≠ some D) (hM : D ∉ f.M) (c : CSt K f D H2 ρ' es σ H) (h1 : H D = some (.lst vs)) (h2 : Reps K (hide H (f.with D)) es vs) (r : Rep K (hide H (f.with D)) d v) :
  CSt K f D H2 ρ' (es ++ [d]) σ (upd H D (.lst (vs ++ [v]))) :=
 ⟨akD hD c.env, by rw [yx]; exact c.sm, fun b hb => (zw (fun (z : b = D) => hM (z ▸ hb))).trans (c.kp b hb), ⟨_, zy, by rw [yx]; exact h2.snoc r⟩⟩
theorem ahx {D : Addr} {H2 H : Hp} {ρ' : zr} {es : List PyData} {σ : St} {d : PyData} {v : V} {W : St -> Hp -> Prop} {R : zr -> List PyData -> Prop} (hD : f.f ≠ some D) (hM : D ∉ f.M) (c : CSt K f D H2 ρ' es σ H) (hl : es.length < 1000) (r : Rep K (hide H (f.with D)) d v)
  (h : PGd K (f.with D) g d ρ' fun ρ2 => PTd K (f.with D) tt ρ2 fun b => if b = true then PEd K (f.with D) te ρ2 fun e => R ρ2 (es ++ [e]) else R ρ2 es)
  (hW : ∀ ρ2 es2 σ2 H', CSt K f D H2 ρ2 es2 σ2 H' -> R ρ2 es2 -> W σ2 H') :
  g v σ H fun σ2 H3 => tt σ2 H3 fun b H4 => if b = true then vq D te σ2 H4 W else W σ2 H4 := by
 refine h σ H v _ c.env r fun ρ2 σ2 H3 g3 e3 p3 => ?_
 have c3 := c.go g3 e3
 refine p3 σ2 H3 _ e3 fun b H4 g4 p4 => ?_
 have c4 := c3.go g4 (e3.mono g4)
 cases b with
 | false =>
  rw [if_neg aoY] at p4 ⊢
  exact hW _ _ _ _ c4 p4
 | true =>
  rw [if_pos rfl] at p4 ⊢
  refine p4 σ2 H4 _ (e3.mono g4) fun e u H5 g5 r5 p5 => ?_
  have c5 := c4.go g5 ((e3.mono g4).mono g5)
  obtain ⟨vs, h1, h2⟩ := c5.lst
  exact ⟨vs, h1, z4 (by rw [h2.length]; omega), hW _ _ _ _ (c5.put hD hM h1 h2 r5) p5⟩
theorem aea {D : Addr} {H1 H : Hp} {ρ' : zr} {es : List PyData} {σ σ' : St} (hn : H1 D = none) (fo : FOk f H1) (c : CSt K f D (upd H1 D (.lst [])) ρ' es σ H) : Goes f H1 H /\ Rep K (hide H f) (.list es) (.ref D) := by
 obtain ⟨vs, h1, h2⟩ := c.lst
 have nD := fresh_ne fo hn
 refine ⟨⟨((qW hn).trans c.sm).trans jZ, ⟨c.env.fd.fd, fun b hb => c.env.fd.mm b (ao3 _ hb), fun p e hp => c.env.fd.nm p e (ao3 _ hp)⟩, fun b hb => ?_⟩, rep_list.mpr ⟨D, vs, rfl, .of (zB nD h1), Reps.mono jZ es vs h2⟩⟩
 rw [c.kp b hb, zw]
 obtain ⟨o, h3⟩ := fo.mm b hb
 exact zG h3 hn
theorem abn {D : Addr} {H1 : Hp} {σ : St} (hn : H1 D = none) (e : EnvOk K f ρ σ H1) : CSt K f D (upd H1 D (.lst [])) (aal own fr ρ) [] (y4 own fr σ) (upd H1 D (.lst [])) :=
 ⟨aiQ (ahw e) hn, Same.refl _, fun _ _ => rfl, ⟨[], zy, .nil'⟩⟩
theorem akE {t : TA} (h : PAd K f t ρ fun xs => ∃ j : Int, xs = [.dat (.int j)] /\ j <= 1000 /\ -1000 <= j /\ ∃ R : Nat -> zr -> List PyData -> Prop, R 0 (aal own fr ρ) [] /\
   (∀ D (i : Nat) ρ' es, (i : Int) < j -> R i ρ' es -> PGd K (f.with D) g (.int i) ρ' fun ρ2 => PTd K (f.with D) tt ρ2 fun b => if b = true then PEd K (f.with D) te ρ2 fun e => R (i + 1) ρ2 (es ++ [e]) else R (i + 1) ρ2 es) /\
   (∀ i ρ' es, R i ρ' es -> es.length <= i) /\ ∀ ρ' es, R j.toNat ρ' es -> P (.list es)) :
  PEd K f (jW (af8 t) own fr g tt fun D => vq D te) ρ P := fun σ H Q e q => h σ H _ e fun xs vs H1 g1 r1 ⟨j, ex, b1, b2, R, r0, rs, rl, re⟩ => by
 subst ex
 cases r1 with
 | @cons _ v0 _ _ rx r' =>
  cases r'
  have rx' : Rep K (hide H1 f) (.int j) v0 := rx
  refine ⟨j, by rw [rep_int.mp rx'], by omega, by omega, fun D hn => ?_⟩
  have nD := fresh_ne g1.2 hn
  have hD : f.f ≠ some D := fun z => nD (.inl z)
  have hM : D ∉ f.M := fun z => nD (.inr z)
  have e1 := e.mono g1
  refine ⟨fun i m σ' H' => ∃ ρ' es, CSt K f D (upd H1 D (.lst [])) ρ' es σ' H' /\ R i ρ' es /\ i <= j.toNat /\ m + i = j.toNat, ⟨j.toNat, _, [], abn hn e1, r0, apD _, rfl⟩, fun i m σ' H' ⟨ρ', es, c, p, hi, hm⟩ => ?_⟩
  by_cases hlt : i < j.toNat
  ·refine .inr ⟨hlt, fun x H3 hy => ?_⟩
   obtain ⟨rfl, rfl⟩ := hy
   have hz : (0 : Int) + (i : Int) = (i : Int) := Int.zero_add _
   rw [hz]
   refine ahx (R := R (i + 1)) hD hM c (by have := rl i ρ' es p; omega) ((rep_int (K := K)).mpr rfl) (rs D i ρ' es (by omega) p) fun ρ2 es2 σ2 H4 c2 p2 => ?_
   exact ⟨m - 1, by omega, ρ2, es2, c2, p2, by omega, by omega⟩
  ·have ei : i = j.toNat := by omega
   subst ei
   obtain ⟨ge, rep⟩ := aea (σ' := σ') hn g1.2 c
   exact .inl ⟨ao5 _, q _ _ H' (g1.trans ge) rep (re ρ' es p)⟩
theorem abo {t : TA} (h : PAd K f t ρ fun xs => ∃ j : Int, xs = [.dat (.int j)] /\ j <= 1000 /\ -1000 <= j /\ ∃ R : Nat -> PyData -> Prop,
   (∀ D (i : Nat), (i : Int) < j -> PEd K (f.with D) te (some (.dat (.int i)) :: frD fr ρ) (R i)) /\ ∀ es : List PyData, es.length = j.toNat -> (∀ (i : Nat) e, es[i]? = some e -> R i e) -> P (.list es)) :
  PEd K f (jW (af8 t) 1 fr (y6 0) akB fun D => vq D te) ρ P :=
 akE fun σ H Q e q => h σ H Q e fun xs vs H' g' r' ⟨j, ex, b1, b2, R, rs, re⟩ => by
  refine q xs vs H' g' r' ⟨j, ex, b1, b2, fun i ρ' es => (∃ x, ρ' = x :: frD fr ρ) /\ es.length = i /\ ∀ (k : Nat) e, es[k]? = some e -> R k e, ⟨⟨none, rfl⟩, rfl, fun k e h => by simp at h⟩, fun D i ρ' es hi p => ?_, fun i ρ' es p => aqW p.2.1, fun ρ' es p => re es p.2.1 p.2.2⟩
  obtain ⟨⟨x, rfl⟩, hl, hp⟩ := p
  refine zi ?_
  intro σ H Q e q
  refine q true H (.refl e.fd) ?_
  dsimp only
  rw [if_pos rfl]
  refine (rs D i hi).imp fun d hd => ⟨⟨_, rfl⟩, by rw [aph, hl]; rfl, fun k e hk => ?_⟩
  by_cases hkl : k < es.length
  ·rw [ape hkl] at hk; exact hp k e hk
  ·rw [apl (by omega)] at hk
   have hk0 : k - es.length = 0 := by
    have := (ao1.mp hk).1
    simp at this; omega
   rw [hk0] at hk
   cases hk
   have : k = i := by omega
   subst this
   exact hd
end
section
variable {K : ao0} {f : Fx} {ρ : zr} {D : DEnds} {te : TE} {i : Nat}
theorem aeb {σ : St} {H : Hp} {p : Addr} {a b : Int} (e : EnvOk K f ρ σ H) (ef : f.f = some p) (h0 : 0 <= a) (h1 : 0 <= b) (h2 : b < 2147483647) : Goes f H (upd H p (.lst [.int a, .int b])) :=
 have hM := e.fd.nm p ef
 ⟨fun x o h => by
  obtain ⟨n, hx⟩ := zP h
  exact zB n (by rw [zw (fun z => n (.inl (by rw [z]; exact ef)))]; exact hx),
 ⟨fun q eq => by
   rw [ef] at eq; cases eq
   exact ⟨a, b, zy, h0, h1, h2⟩, fun x hx => by
   by_cases hxp : x = p
   ·subst hxp; exact absurd hx hM
   ·rw [zw hxp]; exact e.fd.mm x hx, e.fd.nm⟩,
fun x hx => zw (fun z => hM (z ▸ hx))⟩
theorem agk (hi : ρ[i]? = some (some .feed)) (h : PEd K f te ρ fun d => ∃ a : Int, d = .int a /\ 0 <= a /\ D.nx ρ) : PSd K f (jV te (adW (yf i) (tC (.int 0)) abi)) ρ D := fun σ H E e n r b c => h σ H _ e fun d v H1 g1 r1 ⟨a, ed, h0, p⟩ => by
 subst ed
 obtain ⟨u, h1, q, ef, eu⟩ := e.get i _ hi
 obtain ⟨a', b', hf, c1, c2, c3⟩ := g1.2.fd q ef
 refine ⟨u, h1, q, _, 0, 0, eu, rfl, hf, rfl, ?_⟩
 rw [rep_int.mp r1]
 have g2 : Goes f H1 (upd H1 q (.lst [.int a, .int b'])) := aeb (e.mono g1) ef h0 c2 c3
 exact n ρ σ _ (g1.trans g2) ((e.mono g1).mono g2) p
theorem agl (hi : ρ[i]? = some (some .feed)) (h : PEd K f te ρ fun d => ∃ a : Int, d = .int a /\ 0 <= a /\ a < 2147483647 /\ D.nx ρ) : PSd K f (jV te (adW (yf i) (tC (.int 1)) abi)) ρ D := fun σ H E e n r b c => h σ H _ e fun d v H1 g1 r1 ⟨a, ed, h0, h0', p⟩ => by
 subst ed
 obtain ⟨u, h1, q, ef, eu⟩ := e.get i _ hi
 obtain ⟨a', b', hf, c1, c2, c3⟩ := g1.2.fd q ef
 refine ⟨u, h1, q, _, 1, 1, eu, rfl, hf, rfl, ?_⟩
 rw [rep_int.mp r1]
 have g2 : Goes f H1 (upd H1 q (.lst [.int a', .int a])) := aeb (e.mono g1) ef c1 h0 h0'
 exact n ρ σ _ (g1.trans g2) ((e.mono g1).mono g2) p
end
theorem vU {X : Cx} {x : Str} {i : Int} {t : Tok} {pos : Pos} (hg : Gl X x) (hm : X.mg x = some (.int i t)) (hd : (x == ("__debug__" : Str)) = false := by decide) : PE X (.Name x pos) (tC (.int i)) := yj hg hm ⟨t, rfl⟩ hd
def jx (N : List Str) (xs : List DV) : zr := xs.map some ++ aqT (N.length - xs.length) none
theorem yS {K : ao0} {f : Fx} {H : Hp} {N : List Str} {xs : List DV} {vs : List V} (r : RepVs K f H xs vs) (fo : FOk f H) : EnvOk K f (jx N xs) (start N vs) H := by
 have hl := r.length
 refine ⟨by unfold jx start; simp [hl], fun i x h => ?_, fo⟩
 unfold jx at h
 unfold start
 have get : ∀ {xs : List DV} {vs : List V} {i : Nat} {x : DV}, RepVs K f H xs vs -> xs[i]? = some x -> ∃ v, vs[i]? = some v /\ RepV K f H x v := by
  intro xs vs i x r
  induction r generalizing i with
  | nil => intro h; simp at h
  | cons r1 r2 ih =>
   intro h
   cases i with
   | zero => simp at h; subst h; exact ⟨_, rfl, r1⟩
   | succ i => simp at h; obtain ⟨v, h1, h2⟩ := ih h; exact ⟨v, by simpa using h1, h2⟩
 by_cases hi : i < xs.length
 ·rw [ape (by simpa using hi), ao8] at h
  cases q : xs[i]? with
  | none => rw [q] at h; cases h
  | some y =>
   rw [q] at h
   cases h
   obtain ⟨v, h1, h2⟩ := get r q
   exact ⟨v, by rw [ape (by simp; omega), ao8, h1]; rfl, h2⟩
 ·rw [apl (by simpa using hi), aqU] at h
  split at h <;> cases h
structure Def (K : ao0) (mg : Str -> Option Value) (x : Str) (st : Stmt) (ps : List Str) : Prop where
 ex : ∃ (f : Addr) (fd : FuncData), Fun K x x st f fd /\ Binds K fd ps [] /\ mg x = some (.ref f)
structure FnIn (P : Program) (w : World) (K : ao0) (mg : Str -> Option Value) (base : Heap) (k : Nat) (x : Str) (ps : List Str) (sp : Sp) : Prop where
 ex : ∃ (f : Addr) (fd : FuncData), FnOk P w K mg base CX0 k f fd ps sp /\ mg x = some (.ref f) /\ apW K (.ref f) = true /\ Binds K fd ps []
section
variable {P : Program} {w : World} {K : ao0} {mg : Str -> Option Value} {base : Heap} {j k n : Nat} {x : Str} {st : Stmt} {ps N : List Str} {γ : Type} {pre : γ -> List DV -> Prop} {post : γ -> PyData -> Prop} {sp : Sp}
theorem FnIn.mono (h : FnIn P w K mg base j x ps sp) (hk : j <= k) : FnIn P w K mg base k x ps sp :=
 let ⟨f, fd, a, b, c, d⟩ := h.ex; ⟨f, fd, a.mono hk, b, c, d⟩
theorem Def.ok (F : Def K mg x st ps) (S : FnScope N ps (zf st)) (hn : ps.length = n)
  (h : ∀ (fa : Addr) (cdv : Value) (A : Around) (outer : List Env) (s : Shared) (H : Hp) (E : XK), Room k (A.deeper (envOfC x (zf st) s.heap.objs.size fa cdv)) ->
   ∃ t, PSs (zI CX0 P w K mg base N x (zf st) fa cdv A outer s H E).nox (yr st) t /\ ∀ (f : Fx) (xs : List DV) (c : γ), xs.length = n -> pre c xs -> PSd K f t (jx N xs) { nx := fun _ => post c .none, rt := post c }) :
  FnIn P w K mg base (k + 1) x ps (spD K n pre post) := by
 obtain ⟨fa, fd, F1, F2, F3⟩ := F.ex
 refine ⟨fa, fd, F1.ok S (fun vs H Q E h => ?_) (fun cdv A outer s H vs Q E hr hs => ?_), F3, F1.kp, F2⟩
 ·obtain ⟨f, xs, c, r, hl, _⟩ := h
  rw [r.length, hl, hn]
 ·obtain ⟨f, xs, c, r, hl, fo, hp, q⟩ := hs
  obtain ⟨t, h1, h2⟩ := h fa cdv A outer s H E hr
  exact ⟨t, h1, h2 f xs c hl hp (start N vs) H _ (yS r fo) (fun _ _ H' g _ p => q .none _ H' g (rep_none.mpr rfl) p) (fun d v H' g r p => q d v H' g r p) (fun _ _ _ _ _ z => z.elim) (fun _ _ _ _ _ z => z.elim)⟩
theorem Def.raw (F : Def K mg x st ps) (S : FnScope N ps (zf st)) (len : ∀ vs H Q E, sp vs H Q E -> vs.length = ps.length)
  (h : ∀ (fa : Addr) (cdv : Value) (A : Around) (outer : List Env) (s : Shared) (H : Hp) (vs : List V) (Q : VK) (E : XK), Room k (A.deeper (envOfC x (zf st) s.heap.objs.size fa cdv)) -> sp vs H Q E ->
   ∃ t, PSs (zI CX0 P w K mg base N x (zf st) fa cdv A outer s H E).nox (yr st) t /\ t { nx := fun _ H' => Q .non H', rt := Q } (start N vs) H) :
  FnIn P w K mg base (k + 1) x ps sp := by
 obtain ⟨fa, fd, F1, F2, F3⟩ := F.ex
 exact ⟨fa, fd, F1.ok S len (fun cdv A outer s H vs Q E hr hs => h fa cdv A outer s H vs Q E hr hs), F3, F1.kp, F2⟩
theorem zd {X : Cx} {e : Expr} {es : List Expr} {t : TA} {p pos : Pos} (G : FnIn X.prog X.w X.K X.mg X.base k x ps sp) (hr : Room k X.A) (hg : Gl X x) (ha : PA X (e :: es) t) (hdb : (x == ("__debug__" : Str)) = false := by decide)
  (he : starEach (e :: es) X.env = (false, eval e X.env) :: starEach es X.env := by rfl) (hpl : (backTo pos (starEach es X.env)).any (·.1) = false := by rfl) : PE X (.Call (.Name x p) (e :: es) [] pos) (vn sp [] E0 t) := by
 obtain ⟨f, fd, a, b, c, d⟩ := G.ex
 exact af9 a hr hg b c d .nil aok ha hdb he hpl
end
section
variable {K : ao0} {f : Fx} {ρ : zr} {σ : St} {H : Hp} {E : Ends} {ts tu : TS} {D : DEnds}
theorem aiR (h : PSd K f ts ρ D) (e : EnvOk K f ρ σ H) (hn : ∀ ρ' σ' H', Goes f H H' -> EnvOk K f ρ' σ' H' -> D.nx ρ' -> tu E σ' H') (hr : ∀ d v H', Goes f H H' -> Rep K (hide H' f) d v -> D.rt d -> E.rt v H') (hb : ∀ ρ, ¬ D.bk ρ) (hc : ∀ ρ, ¬ D.ct ρ) : qH ts tu E σ H :=
 h σ H { E with nx := tu E } e hn hr (fun ρ' _ _ _ _ p => (hb ρ' p).elim) (fun ρ' _ _ _ _ p => (hc ρ' p).elim)
theorem aiS {ta : TA} {Q : VK} {R : List PyData -> Prop} (h : PAd K f ta ρ fun xs => ∃ ds, qk xs = some ds /\ ds.length <= 1000 /\ R ds) (e : EnvOk K f ρ σ H)
  (q : ∀ p ds vs H1, Goes f H H1 -> H1 p = none -> Reps K (hide H1 f) ds vs -> R ds -> Q (.ref p) (upd H1 p (.lst vs))) : afj ta σ H Q :=
 h σ H _ e fun xs vs H1 g1 r1 ⟨ds, ea, hl, p⟩ => by
  have rs := qV r1 ea
  exact ⟨by rw [rs.length]; exact ap1 (z4 hl), fun l hn => q l ds vs H1 g1 hn rs p⟩
end
section
variable {K : ao0} {f : Fx} {ρ : zr}
theorem Goes.free {H H' : Hp} {p : Addr} (g : Goes f H H') (fo : FOk f H) (h : H' p = none) : H p = none := by
 cases q : H p with
 | none => rfl
 | some o =>
  by_cases hh : f.f = some p \/ p ∈ f.M
  ·rcases hh with hh | hh
   ·obtain ⟨a, b, h1, _⟩ := g.ok.fd p hh
    rw [h] at h1; cases h1
   ·rw [g.kp p hh, q] at h; cases h
  ·have := zP (g.sm p o (zB hh q))
   rw [h] at this; cases this.2
def PEdL (K : ao0) (f : Fx) (te : TE) (ρ : zr) (P : List PyData -> Prop) : Prop := ∀ (σ : St) (H : Hp) (Q : VK), EnvOk K f ρ σ H ->
 (∀ es D vs H', Goes f H H' -> H D = none -> H' D = some (.lst vs) -> Reps K (hide H' f) es vs -> P es -> Q (.ref D) H') -> te σ H Q
theorem PEdL.ped {te : TE} {P : PyData -> Prop} (h : PEdL K f te ρ fun es => P (.list es)) : PEd K f te ρ P := fun σ H Q e q => h σ H Q e fun es D vs H' g n h1 r p =>
 q (.list es) _ H' g (rep_list.mpr ⟨D, vs, rfl, .of (zB (fresh_ne e.fd n) h1), r⟩) p
end
structure TabAt (H : Hp) (a : Addr) (as : List Addr) (rows : List (List Int)) : Prop where
 top : H a = some (.lst (as.map .ref))
 nd : (a :: as).Nodup
 len : as.length = rows.length
 row : ∀ (i : Nat) x r, as[i]? = some x -> rows[i]? = some r -> H x = some (.lst (r.map .int))
end L2
end
section
namespace L2
open PySem PySem.Spec PyProof.Rows
section
variable {X : Cx} {K : ao0}
theorem zD (hK : X.K = K) : IxR X (ad1 K) := hK ▸ akA
theorem je (hK : X.K = K) : IxR X (amL K) := hK ▸ amM
theorem yc (hK : X.K = K) : yn X (.builtin "len") (fun xs H Q => ∃ p ys, xs = [.ref p] /\ (SqL K H p ys \/ SqT K H p ys) /\ Q (.int ys.length) H) := hK ▸ acS
theorem afq (hK : X.K = K) : yn X (.type "list") (fun xs H Q => ∃ p ys, xs = [.ref p] /\ (SqL K H p ys \/ SqT K H p ys) /\ ∀ l, H l = none -> Q (.ref l) (upd H l (.lst ys))) := hK ▸ acT
theorem aaF (hK : X.K = K) : yn X (.type "tuple") (fun xs H Q => ∃ p ys, xs = [.ref p] /\ ((SqL K H p ys /\ ∀ l, H l = none -> Q (.ref l) (upd H l (.tup ys))) \/ (SqT K H p ys /\ Q (.ref p) H))) := hK ▸ abW
theorem ahy (hK : X.K = K) (hc : X.calm = true) : yn X (.builtin "min") (fun xs H Q => ∃ a ns, xs = [.ref a] /\ SqL K H a (ns.map V.int) /\ ns ≠ [] /\ ∀ M, M ∈ ns -> (∀ b ∈ ns, M <= b) -> Q (.int M) H) := hK ▸ aht hc
theorem ahz (hK : X.K = K) (hc : X.calm = true) : yn X (.builtin "max") (fun xs H Q => ∃ a ns, xs = [.ref a] /\ SqL K H a (ns.map V.int) /\ ns ≠ [] /\ ∀ M, M ∈ ns -> (∀ b ∈ ns, b <= M) -> Q (.int M) H) := hK ▸ ahu hc
theorem vF (hK : X.K = K) (hu : X.A.units + 64 < cLine) : OpR X (compareOp .Eq) (ahs K false) := hK ▸ amR hu
theorem jU (hK : X.K = K) (hu : X.A.units + 64 < cLine) : OpR X (compareOp .NotEq) (ahs K true) := hK ▸ amS hu
variable {tg l e st : Expr} {tl te ts : TE} {ta : TA} {p pos p2 : Pos}
theorem zY (hK : X.K = K) (hl : PE X l tl) : PI X tg l (af7 K tl) := hK ▸ akw hl
theorem aaU (hK : X.K = K) (hl : PE X l tl) : PI X tg l (amD K tl) := hK ▸ amE hl
theorem aec {es : List Expr} {k : Nat} {tpos : Pos} (hK : X.K = K) (hg : Gl X "enumerate") (hm : X.mg "enumerate" = none) (ha : PA X [l] ta) (hs : starEach [l] X.env = [(false, eval l X.env)] := by rfl) : PI X (.Tuple es k tpos) (.Call (.Name "enumerate" p) [l] [] pos) (agh K ta) := hK ▸ akC hg hm ha hs
theorem z7 (hK : X.K = K) (ha : PE X e te) (he : ∀ whole, isTrue e X.env whole = (do let v <- whole; standAt e.pos; holding [v] (truthy v))) : PT X e (amT K te) := hK ▸ amU ha he
theorem zT {es : List Expr} {k : Nat} {t : TGs} {n : Nat} (hK : X.K = K) (hc : X.calm = true) (h : PGs X es t) (hn : (assignEach es X.env).length = n := by rfl) (hst : (assignEach es X.env).findIdx? (·.1) = none := by rfl) : PG X (.Tuple es k pos) (amB K n t) := hK ▸ amC hc h hn hst
end
structure ItD (K : ao0) (f : Fx) (ds : List PyData) (J : It) (H1 : Hp) : Prop where
 go : ∀ (f' : Fx) (H' : Hp) (i : Nat) d, FOk f' H' -> Same (hide H1 f) (hide H' f') -> ds[i]? = some d -> J.go i H' /\ ∀ x H3, J.yld i H' x H3 -> Goes f' H' H3 /\ Rep K (hide H3 f') d x
 st : ∀ (f' : Fx) (H' : Hp), FOk f' H' -> Same (hide H1 f) (hide H' f') -> J.stop ds.length H'
def PId (K : ao0) (f : Fx) (wi : TI) (ρ : zr) (R : List PyData -> Prop) : Prop := ∀ (σ : St) (H : Hp) (C : It -> Hp -> Prop), EnvOk K f ρ σ H ->
 (∀ ds J H1, Goes f H H1 -> ItD K f ds J H1 -> R ds -> C J H1) -> wi σ H C
def qJ (n : Nat) : List PyData := (apo n).map fun (i : Nat) => .int (i : Int)
def aaG (ds : List PyData) : List PyData := ds.mapIdx fun i d => .tuple [.int (i : Int), d]
section
variable {K : ao0} {f : Fx} {ρ : zr} {R : List PyData -> Prop} {tl : TE} {t : TA}
theorem PId.imp {wi : TI} {R' : List PyData -> Prop} (h : PId K f wi ρ R) (i : ∀ ds, R ds -> R' ds) : PId K f wi ρ R' := fun σ H C e q => h σ H C e fun ds J H1 g it r => q ds J H1 g it (i ds r)
theorem aaV (h : PAd K f t ρ fun xs => ∃ j : Int, xs = [.dat (.int j)] /\ -(2 ^ 62) <= j /\ j < 2 ^ 62 /\ R (qJ j.toNat)) : PId K f (af8 t) ρ R := fun σ H C e q => h σ H _ e fun xs vs H1 g1 r1 ⟨j, ex, q1, q2, p⟩ => by
 subst ex
 cases r1 with
 | @cons _ v0 _ _ rx r' =>
  cases r'
  have rx' : Rep K (hide H1 f) (.int j) v0 := rx
  refine ⟨j, by rw [rep_int.mp rx'], q1, q2, q _ _ H1 g1 ⟨fun f' H' i d fo _ hd => ?_, fun f' H' _ _ => ?_⟩ p⟩
  ·unfold qJ at hd
   rw [ao8] at hd
   by_cases hi : i < j.toNat
   ·rw [aqt hi] at hd
    cases hd
    refine ⟨hi, fun x H3 hy => ?_⟩
    obtain ⟨rfl, rfl⟩ := hy
    exact ⟨.refl fo, rep_int.mpr (by rw [Int.zero_add])⟩
   ·rw [apy (by rw [ap2]; omega)] at hd
    cases hd
  ·show j.toNat <= (qJ j.toNat).length
   unfold qJ
   rw [aoZ, ap2]
   exact ao5 _
theorem yy (h : PEd K f tl ρ fun x => ∃ ds, x = .list ds /\ R ds) : PId K f (af7 K tl) ρ R := fun σ H C e q => h σ H _ e fun x v H1 g1 r1 ⟨ds, ex, p⟩ => by
 subst ex
 obtain ⟨a, xs, rfl, h1, h2⟩ := rep_list.mp r1
 have hl := h2.length
 refine ⟨a, rfl, ⟨xs, (zl _ _).seq h1⟩, q ds _ H1 g1 ⟨fun f' H' i d fo sm hd => ?_, fun f' H' _ sm => ⟨xs, (zl _ _).seq (sm.seq h1), aqW hl⟩⟩ p⟩
 obtain ⟨z, hz, rz⟩ := h2.get hd
 have sq : SqL K H' a xs := (zl _ _).seq (sm.seq h1)
 refine ⟨⟨xs, z, sq, hz⟩, fun x H3 hy => ?_⟩
 obtain ⟨rfl, hy⟩ := hy
 have ez := hy xs sq
 rw [hz] at ez
 cases ez
 exact ⟨.refl fo, Rep.mono sm _ _ rz⟩
theorem agm (h : PEd K f tl ρ fun x => ∃ ds, x = .tuple ds /\ R ds) : PId K f (amD K tl) ρ R := fun σ H C e q => h σ H _ e fun x v H1 g1 r1 ⟨ds, ex, p⟩ => by
 subst ex
 obtain ⟨a, xs, rfl, h1, h2⟩ := rep_tuple.mp r1
 have hl := h2.length
 refine ⟨a, rfl, ⟨xs, (zl _ _).seqT h1⟩, q ds _ H1 g1 ⟨fun f' H' i d fo sm hd => ?_, fun f' H' _ sm => ⟨xs, (zl _ _).seqT (sm.seqT h1), aqW hl⟩⟩ p⟩
 obtain ⟨z, hz, rz⟩ := h2.get hd
 have sq : SqT K H' a xs := (zl _ _).seqT (sm.seqT h1)
 refine ⟨⟨xs, z, sq, hz⟩, fun x H3 hy => ?_⟩
 obtain ⟨rfl, hy⟩ := hy
 have ez := hy xs sq
 rw [hz] at ez
 cases ez
 exact ⟨.refl fo, Rep.mono sm _ _ rz⟩
theorem amW (h : PAd K f t ρ fun xs => ∃ ds, xs = [.dat (.list ds)] /\ R (aaG ds)) : PId K f (agh K t) ρ R := fun σ H C e q => h σ H _ e fun xs vs H1 g1 r1 ⟨ds, ex, p⟩ => by
 subst ex
 cases r1 with
 | cons rx r' =>
  cases r'
  obtain ⟨a, xs, rfl, h1, h2⟩ := rep_list.mp rx
  have hl := h2.length
  refine ⟨a, rfl, ⟨xs, (zl _ _).seq h1⟩, q (aaG ds) _ H1 g1 ⟨fun f' H' i d fo sm hd => ?_, fun f' H' _ sm => ⟨xs, (zl _ _).seq (sm.seq h1), by unfold aaG; rw [List.length_mapIdx]; exact aqW hl⟩⟩ p⟩
  unfold aaG at hd
  rw [asM] at hd
  cases eq : ds[i]? with
  | none => rw [eq] at hd; cases hd
  | some d0 =>
   rw [eq] at hd
   cases hd
   obtain ⟨z, hz, rz⟩ := h2.get eq
   have sq : SqL K H' a xs := (zl _ _).seq (sm.seq h1)
   refine ⟨⟨xs, z, sq, hz⟩, fun x H3 hy => ?_⟩
   obtain ⟨tp, y, rfl, hn, rfl, hy⟩ := hy
   have ez := hy xs sq
   rw [hz] at ez
   cases ez
   have gn : Goes f' H' (upd H' tp (.tup [.int i, z])) := .of_same (zX hn _) fo
   exact ⟨gn, rep_tuple.mpr ⟨tp, _, rfl, .of (zB (fresh_ne fo hn) zy), .cons' (rep_int.mpr rfl) (.cons' (Rep.mono gn.1 _ _ (Rep.mono sm _ _ rz)) .nil')⟩⟩
end
section
variable {K : ao0} {f : Fx} {ρ : zr} {D : DEnds} {wi : TI} {g : TG} {ts : TS}
theorem al8 (h : PId K f wi ρ fun ds => ∃ J : Nat -> zr -> Prop, J 0 ρ /\
   (∀ (i : Nat) d ρ', ds[i]? = some d -> J i ρ' -> PGd K f g d ρ' fun ρ2 => PSd K f ts ρ2 { D with nx := J (i + 1), ct := J (i + 1), bk := D.nx }) /\ ∀ ρ', J ds.length ρ' -> D.nx ρ') :
  PSd K f (akx wi g ts) ρ D := fun σ H E e n r b c => h σ H _ e fun ds J H1 g1 it ⟨Jv, j0, js, jd⟩ => by
 refine ⟨fun i m σ' H' => ∃ ρ', EnvOk K f ρ' σ' H' /\ Goes f H1 H' /\ Jv i ρ' /\ m + i = ds.length, ⟨ds.length, ρ, e.mono g1, .refl g1.2, j0, rfl⟩, fun i m σ' H' ⟨ρ', e', g', p, hm⟩ => ?_⟩
 by_cases hi : i < ds.length
 ·obtain ⟨hgo, hy⟩ := it.go f H' i _ e'.fd g'.sm (aoX hi)
  refine .inr ⟨hgo, fun σ2 H2 => ∃ ρ2, EnvOk K f ρ2 σ2 H2 /\ Goes f H1 H2 /\ Jv (i + 1) ρ2, fun σ2 H2 ⟨ρ2, e2, g2, p2⟩ => ⟨m - 1, by omega, ρ2, e2, g2, p2, by omega⟩, fun x H3 hx => ?_⟩
  obtain ⟨g3, r3⟩ := hy x H3 hx
  refine js i _ ρ' (aoX hi) p σ' H3 x _ (e'.mono g3) r3 fun ρ2 σ2 H4 g4 e4 p4 => ?_
  have gg := g'.trans (g3.trans g4)
  exact p4 σ2 H4 _ e4 (fun ρ5 σ5 H5 g5 e5 p5 => ⟨ρ5, e5, gg.trans g5, p5⟩) (fun d v H5 g5 r5 p5 => r d v H5 (g1.trans (gg.trans g5)) r5 p5) (fun ρ5 σ5 H5 g5 e5 p5 => n ρ5 σ5 H5 (g1.trans (gg.trans g5)) e5 p5) (fun ρ5 σ5 H5 g5 e5 p5 => ⟨ρ5, e5, gg.trans g5, p5⟩)
 ·have ei : i = ds.length := by omega
  subst ei
  exact .inl ⟨it.st f H' e'.fd g'.sm, n ρ' σ' H' (g1.trans g') e' (jd ρ' p)⟩
end
section
variable {K : ao0} {f : Fx} {ρ : zr} {D : Addr} {wi : TI} {g : TG} {tt : TT} {te : TE}
theorem CSt.self {H2 H : Hp} {es : List PyData} {σ : St} (c : CSt K f D H2 ρ es σ H) : CSt K f D H ρ es σ H := ⟨c.env, Same.refl _, fun _ _ => rfl, c.lst⟩
theorem CSt.trans {H2 H H' : Hp} {es es' : List PyData} {ρ' : zr} {σ σ' : St} (c : CSt K f D H2 ρ es σ H) (d : CSt K f D H ρ' es' σ' H') : CSt K f D H2 ρ' es' σ' H' := ⟨d.env, c.sm.trans d.sm, fun b hb => (d.kp b hb).trans (c.kp b hb), d.lst⟩
def PBd (K : ao0) (f : Fx) (D : Addr) (tb : TB) (ρ : zr) (es : List PyData) (R : zr -> List PyData -> Prop) : Prop := f.f ≠ some D -> D ∉ f.M -> ∀ (σ : St) (H H2 : Hp) (W : St -> Hp -> Prop), CSt K f D H2 ρ es σ H ->
 (∀ ρ2 es2 σ2 H', CSt K f D H2 ρ2 es2 σ2 H' -> R ρ2 es2 -> W σ2 H') -> tb σ H W
theorem yF {es : List PyData} {R : zr -> List PyData -> Prop} (hl : es.length < 1000) (h : PEd K (f.with D) te ρ fun e => R ρ (es ++ [e])) : PBd K f D (vq D te) ρ es R := fun hD hM σ H H2 W c q =>
 h σ H _ c.env fun e u H5 g5 r5 p5 => by
  have c5 := c.go g5 (c.env.mono g5)
  obtain ⟨vs, h1, h2⟩ := c5.lst
  exact ⟨vs, h1, z4 (by rw [h2.length]; omega), q _ _ _ _ (c5.put hD hM h1 h2 r5) p5⟩
theorem aiT {fi : Fx} {Hi H2 H : Hp} {ds es : List PyData} {J : It} {tb : TB} {σ : St} {W : St -> Hp -> Prop} (it : ItD K fi ds J Hi) (hD : f.f ≠ some D) (hM : D ∉ f.M) (c : CSt K f D H2 ρ es σ H) (sm : Same (hide Hi fi) (hide H (f.with D)))
  (Jv : Nat -> zr -> List PyData -> Prop) (j0 : Jv 0 ρ es)
  (js : ∀ (i : Nat) d ρ' es', ds[i]? = some d -> Jv i ρ' es' -> PGd K (f.with D) g d ρ' fun ρ2 => PTd K (f.with D) tt ρ2 fun b => if b = true then PBd K f D tb ρ2 es' (Jv (i + 1)) else Jv (i + 1) ρ2 es')
  (hW : ∀ ρ' es' σ' H', CSt K f D H2 ρ' es' σ' H' -> Jv ds.length ρ' es' -> W σ' H') : ad2 J g tt tb σ H W := by
 refine ⟨fun i m σ' H' => ∃ ρ' es', CSt K f D H2 ρ' es' σ' H' /\ Same (hide Hi fi) (hide H' (f.with D)) /\ Jv i ρ' es' /\ m + i = ds.length, ⟨ds.length, ρ, es, c, sm, j0, rfl⟩, fun i m σ' H' ⟨ρ', es', c', sm', p, hm⟩ => ?_⟩
 by_cases hi : i < ds.length
 ·obtain ⟨hgo, hy⟩ := it.go (f.with D) H' i _ c'.env.fd sm' (aoX hi)
  refine .inr ⟨hgo, fun x H3 hx => ?_⟩
  obtain ⟨g3, r3⟩ := hy x H3 hx
  have c3 := c'.go g3 (c'.env.mono g3)
  refine js i _ ρ' es' (aoX hi) p σ' H3 x _ c3.env r3 fun ρ2 σ2 H4 g4 e4 p4 => ?_
  have c4 := c3.go g4 e4
  refine p4 σ2 H4 _ e4 fun b H5 g5 p5 => ?_
  have c5 := c4.go g5 (e4.mono g5)
  have sm5 := ((sm'.trans g3.sm).trans g4.sm).trans g5.sm
  cases b with
  | false =>
   rw [if_neg aoY] at p5 ⊢
   exact ⟨m - 1, by omega, ρ2, es', c5, sm5, p5, by omega⟩
  | true =>
   rw [if_pos rfl] at p5 ⊢
   exact p5 hD hM σ2 H5 H5 _ c5.self fun ρ6 es6 σ6 H6 c6 p6 => ⟨m - 1, by omega, ρ6, es6, c5.trans c6, sm5.trans c6.sm, p6, by omega⟩
 ·have ei : i = ds.length := by omega
  subst ei
  exact .inl ⟨it.st (f.with D) H' c'.env.fd sm', hW ρ' es' σ' H' c' p⟩
theorem aol {es : List PyData} {tb : TB} {R : zr -> List PyData -> Prop} (h : PId K (f.with D) wi ρ fun ds => ∃ Jv : Nat -> zr -> List PyData -> Prop, Jv 0 ρ es /\
   (∀ (i : Nat) d ρ' es', ds[i]? = some d -> Jv i ρ' es' -> PGd K (f.with D) g d ρ' fun ρ2 => PTd K (f.with D) tt ρ2 fun b => if b = true then PBd K f D tb ρ2 es' (Jv (i + 1)) else Jv (i + 1) ρ2 es') /\
   ∀ ρ' es', Jv ds.length ρ' es' -> R ρ' es') : PBd K f D (tIn wi g tt tb) ρ es R := fun hD hM σ H H2 W c q =>
 h σ H _ c.env fun ds J H1 g1 it ⟨Jv, j0, js, jd⟩ =>
  aiT it hD hM (c.go g1 (c.env.mono g1)) (Same.refl _) Jv j0 js fun ρ' es' σ' H' c' p => q ρ' es' σ' H' c' (jd ρ' es' p)
def PEdO (K : ao0) (f : Fx) (te : TE) (ρ : zr) (P : List PyData -> Prop) : Prop := ∀ (σ : St) (H : Hp) (Q : VK), EnvOk K f ρ σ H ->
 (∀ es D vs H', Goes f H H' -> H D = none -> H' D = some (.lst vs) -> Reps K (hide H' (f.with D)) es vs -> P es -> Q (.ref D) H') -> te σ H Q
theorem PEdO.pedl {P : List PyData -> Prop} (h : PEdO K f te ρ P) : PEdL K f te ρ P := fun σ H Q e q => h σ H Q e fun es D vs H' g n h1 r p => q es D vs H' g n h1 (Reps.mono jZ es vs r) p
theorem PEdO.ped {P : PyData -> Prop} (h : PEdO K f te ρ fun es => P (.list es)) : PEd K f te ρ P := h.pedl.ped
theorem al9 {P : List PyData -> Prop} (h : P []) : PEdO K f (afj jS) ρ P := fun σ H Q e q => ⟨apD _, fun p hn => q [] p [] _ (.of_same (zX hn _) e.fd) hn zy .nil' h⟩
theorem qK {own : Nat} {fr : List Nat} {tb : Addr -> TB} {P : List PyData -> Prop} (h : PId K f wi ρ fun ds => ∃ Jv : Nat -> zr -> List PyData -> Prop, Jv 0 (aal own fr ρ) [] /\
   (∀ D (i : Nat) d ρ' es', ds[i]? = some d -> Jv i ρ' es' -> PGd K (f.with D) g d ρ' fun ρ2 => PTd K (f.with D) tt ρ2 fun b => if b = true then PBd K f D (tb D) ρ2 es' (Jv (i + 1)) else Jv (i + 1) ρ2 es') /\
   ∀ ρ' es', Jv ds.length ρ' es' -> P es') : PEdO K f (jW wi own fr g tt tb) ρ P := fun σ H Q e q =>
 h σ H _ e fun ds J H1 g1 it ⟨Jv, j0, js, jd⟩ D hn => by
  have nD := fresh_ne g1.2 hn
  have hD : f.f ≠ some D := fun z => nD (.inl z)
  have hM : D ∉ f.M := fun z => nD (.inr z)
  refine aiT it hD hM (abn hn (e.mono g1)) (qW hn) Jv j0 (js D) fun ρ' es' σ' H' c' p => ?_
  obtain ⟨ge, rep⟩ := aea (σ' := σ') hn g1.2 c'
  obtain ⟨vs, h1, h2⟩ := c'.lst
  exact q es' D vs H' (g1.trans ge) (g1.free e.fd hn) h1 h2 (jd ρ' es' p)
end
section
variable {K : ao0} {f : Fx} {ρ : zr} {D : Addr} {wi : TI} {g : TG} {tt : TT} {te : TE}
theorem aam {F : PyData -> List PyData} {ds : List PyData} {i : Nat} {d : PyData} (h : ds[i]? = some d) : (ds.take (i + 1)).flatMap F = (ds.take i).flatMap F ++ F d := by
 rw [aqe, h, aqi]
 simp
theorem akF {F : PyData -> List PyData} {ds : List PyData} {i : Nat} : ((ds.take i).flatMap F).length <= (ds.flatMap F).length := by
 conv => rhs; rw [<- aq0 i ds, aqi, aph]
 omega
def OwnE (own : Nat) (ρ0 : zr) (ρ' : zr) : Prop := ∃ us : zr, us.length = own /\ ρ' = us ++ ρ0
theorem OwnE.one {ρ0 ρ' : zr} (h : OwnE 1 ρ0 ρ') : ∃ u, ρ' = u :: ρ0 := by
 obtain ⟨us, h1, rfl⟩ := h
 match us, h1 with
 | [u], _ => exact ⟨u, rfl⟩
theorem OwnE.two {ρ0 ρ' : zr} (h : OwnE 2 ρ0 ρ') : ∃ u v, ρ' = u :: v :: ρ0 := by
 obtain ⟨us, h1, rfl⟩ := h
 match us, h1 with
 | [u, v], _ => exact ⟨u, v, rfl⟩
theorem OwnE.mk1 {ρ0 : zr} {u : Option DV} : OwnE 1 ρ0 (u :: ρ0) := ⟨[u], rfl, rfl⟩
theorem OwnE.mk2 {ρ0 : zr} {u v : Option DV} : OwnE 2 ρ0 (u :: v :: ρ0) := ⟨[u, v], rfl, rfl⟩
theorem amX {own : Nat} {fr : List Nat} {tb : Addr -> TB} {P : List PyData -> Prop} (h : PId K f wi ρ fun ds => ∃ F : PyData -> List PyData, (ds.flatMap F).length <= 1000 /\
   (∀ D d ρ' es, d ∈ ds -> OwnE own (frD fr ρ) ρ' -> es.length + (F d).length <= 1000 -> PGd K (f.with D) g d ρ' fun ρ2 => PTd K (f.with D) tt ρ2 fun b => if b = true then PBd K f D (tb D) ρ2 es fun ρ3 es3 => OwnE own (frD fr ρ) ρ3 /\ es3 = es ++ F d else OwnE own (frD fr ρ) ρ2 /\ F d = []) /\
   P (ds.flatMap F)) : PEdO K f (jW wi own fr g tt tb) ρ P :=
 qK (h.imp fun ds ⟨F, hl, hs, hp⟩ => by
  refine ⟨fun i ρ' es => OwnE own (frD fr ρ) ρ' /\ es = (ds.take i).flatMap F, ⟨⟨aqT own none, by simp, rfl⟩, by simp⟩, fun D i d ρ' es hd ⟨ho, he⟩ => ?_, fun ρ' es ⟨_, he⟩ => ?_⟩
  ·have hb : es.length + (F d).length <= 1000 := by
    rw [he, <- aph, <- aam hd]
    exact apu akF hl
   have := hs D d ρ' es (apc hd) ho hb
   intro σ H v Q e r q
   refine this σ H v Q e r fun ρ2 σ2 H2 g2 e2 p2 => q ρ2 σ2 H2 g2 e2 (p2.imp fun b hb2 => ?_)
   cases b with
   | false =>
    rw [if_neg aoY] at hb2 ⊢
    exact ⟨hb2.1, by rw [aam hd, hb2.2, apC]; exact he⟩
   | true =>
    rw [if_pos rfl] at hb2 ⊢
    intro h1 h2 σ3 H3 H4 W c k
    exact hb2 h1 h2 σ3 H3 H4 W c fun ρ5 es5 σ5 H5 c5 ⟨o5, p5⟩ => k ρ5 es5 σ5 H5 c5 ⟨o5, by rw [p5, aam hd, he]⟩
  ·rw [he, apM]
   exact hp)
theorem qL {B : Bool -> Prop} (h : B true) : PTd K f akB ρ B := fun σ H Q e q => q true H (.refl e.fd) h
end
structure OEnds where
 nx : zr -> List PyData -> Prop
 rt : PyData -> Prop
 bk : zr -> List PyData -> Prop := fun _ _ => False
 ct : zr -> List PyData -> Prop := fun _ _ => False
section
variable {K : ao0} {f : Fx} {ρ : zr} {D : Addr} {wi : TI} {g : TG} {tt : TT} {te : TE} {ts tu : TS} {es : List PyData} {O : OEnds} {i : Nat}
def aaW (n : Nat) : Option DV -> Option DV
 | some (.own k) => if k < n then some (.own k) else none
 | x => x
end
section
variable {K : ao0} {f : Fx} {ρ : zr} {P : PyData -> Prop} {te ta tb : TE} {t : TA}
theorem aiU (h : PAd K f t ρ fun xs => (∃ i, xs = [.dat (.int i)] /\ P (.int i)) \/ (∃ k : Bool, xs = [.dat (.bool k)] /\ P (.int (if k then 1 else 0)))) :
  PEd K f (tCB (fun xs H Q => (∃ i, xs = [.int i] /\ Q (.int i) H) \/ ∃ k : Bool, xs = [.bl k] /\ Q (.int (if k then 1 else 0)) H) t) ρ P :=
 ad8 fun σ H Q e q => h σ H Q e fun xs vs H' g r p => by
  rcases p with ⟨i, rfl, p⟩ | ⟨i, rfl, p⟩
  ·refine q _ vs H' g r ⟨_, rfl, fun vs H Q fo rs k => ?_⟩
   obtain ⟨x, r, rfl, h2, h3⟩ := reps_cons.mp rs
   rw [reps_nil.mp h3, rep_int.mp h2]
   exact .inl ⟨i, rfl, k _ _ H (.refl fo) (rep_int.mpr rfl) p⟩
  ·refine q _ vs H' g r ⟨_, rfl, fun vs H Q fo rs k => ?_⟩
   obtain ⟨x, r, rfl, h2, h3⟩ := reps_cons.mp rs
   rw [reps_nil.mp h3, rep_bool.mp h2]
   exact .inr ⟨i, rfl, k _ _ H (.refl fo) (rep_int.mpr rfl) p⟩
theorem akG (h : PAd K f t ρ fun xs => (∃ ds, xs = [.dat (.list ds)] /\ P (.tuple ds)) \/ (∃ ds, xs = [.dat (.tuple ds)] /\ P (.tuple ds))) :
  PEd K f (tCB (fun xs H Q => ∃ p ys, xs = [.ref p] /\ ((SqL K H p ys /\ ∀ l, H l = none -> Q (.ref l) (upd H l (.tup ys))) \/ (SqT K H p ys /\ Q (.ref p) H))) t) ρ P :=
 ad8 fun σ H Q e q => h σ H Q e fun xs vs H' g r p => by
  rcases p with ⟨ds, rfl, p⟩ | ⟨ds, rfl, p⟩
  ·refine q _ vs H' g r ⟨_, rfl, fun vs H Q fo rs k => ?_⟩
   obtain ⟨x, r, rfl, h2, h3⟩ := reps_cons.mp rs
   rw [reps_nil.mp h3]
   obtain ⟨a, ys, rfl, s1, s2⟩ := rep_list.mp h2
   refine ⟨a, ys, rfl, .inl ⟨(zl _ _).seq s1, fun l hn => ?_⟩⟩
   have g2 : Goes f H (upd H l (.tup ys)) := .of_same (zX hn _) fo
   exact k (.tuple ds) _ _ g2 (rep_tuple.mpr ⟨l, ys, rfl, .of (zB (fresh_ne fo hn) zy), Reps.mono g2.1 ds ys s2⟩) p
  ·refine q _ vs H' g r ⟨_, rfl, fun vs H Q fo rs k => ?_⟩
   obtain ⟨x, r, rfl, h2, h3⟩ := reps_cons.mp rs
   rw [reps_nil.mp h3]
   obtain ⟨a, ys, rfl, s1, s2⟩ := rep_tuple.mp h2
   exact ⟨a, ys, rfl, .inr ⟨(zl _ _).seqT s1, k (.tuple ds) _ H (.refl fo) (rep_tuple.mpr ⟨a, ys, rfl, s1, s2⟩) p⟩⟩
end
abbrev f0 : Fx := ⟨none, []⟩
theorem fok0 (H : Hp) : FOk f0 H := ⟨(fun p e => by cases e), (fun b hb => by cases hb), (fun p e => by cases e)⟩
theorem aom {H H' : Hp} (s : Same H H') : Goes f0 H H' := .of_same s (fok0 H)
theorem same0 {H H' : Hp} (g : Goes f0 H H') : Same H H' := fun b o h => (zP (g.sm b o (by rw [yK]; exact h))).2
def acW : Option DV -> Option DV
 | some (.dat d) => some (.dat d)
 | _ => none
section
variable {K : ao0} {ρ : zr} {te : TE} {tu : TS} {i : Nat}
theorem abp {p : Addr} {σ : St} {H : Hp} (e : EnvOk K ⟨some p, []⟩ ρ σ H) : EnvOk K f0 (ρ.map acW) σ H := by
 refine ⟨by rw [aoZ]; exact e.len, fun i x h => ?_, fok0 H⟩
 rw [ao8] at h
 cases eq : ρ[i]? with
 | none => rw [eq] at h; cases h
 | some y =>
  rw [eq] at h
  cases y with
  | none => cases h
  | some y =>
   obtain ⟨v, h1, h2⟩ := e.get i y eq
   cases y with
   | dat d =>
    cases h
    refine ⟨v, h1, ?_⟩
    show Rep K (hide H f0) d v
    rw [yK]
    exact Rep.mono (zl _ _) d v h2
   | feed => cases h
   | own k => cases h
   | exc C => cases h
   | mon φ => cases h
theorem amY {Dn : DEnds} (h : ∀ (σ : St) (H : Hp) (Q : VK), EnvOk K f0 ρ σ H -> (∀ (p : Addr) (x y : Int) (H' : Hp), Same H H' -> H p = none -> H' p = some (.lst [.int x, .int y]) -> 0 <= x -> 0 <= y -> y < 2147483647 -> Q (.ref p) H') -> te σ H Q)
  (hr : ∀ p, PSd K ⟨some p, []⟩ tu (ρ.set i (some .feed)) { nx := fun ρ' => Dn.nx (ρ'.map acW), rt := Dn.rt, bk := fun ρ' => Dn.bk (ρ'.map acW), ct := fun ρ' => Dn.ct (ρ'.map acW) }) :
  PSd K f0 (qH (jV te (y6 i)) tu) ρ Dn := fun σ H E e n r b k => h σ H _ e fun p x y H1 sm hn hp x0 y0 y1 => by
 have fo : FOk ⟨some p, []⟩ H1 := ⟨fun p' e => by cases e; exact ⟨x, y, hp, x0, y0, y1⟩, (fun b hb => by cases hb), fun _ _ hb => by cases hb⟩
 have sm0 : Same H (hide H1 ⟨some p, []⟩) := fun b o hb => by
  have nb : b ≠ p := fun e => by rw [e, hn] at hb; cases hb
  refine zB (fun z => ?_) (sm b o hb)
  rcases z with z | z
  ·cases z; exact nb rfl
  ·cases z
 have e1 : EnvOk K ⟨some p, []⟩ ρ σ H1 := by
  refine ⟨e.len, fun j z hz => ?_, fo⟩
  obtain ⟨v, a1, a2⟩ := e.get j z hz
  refine ⟨v, a1, ?_⟩
  cases z with
  | dat d =>
   have a2' : Rep K (hide H f0) d v := a2
   rw [yK] at a2'
   exact Rep.mono sm0 d v a2'
  | feed => obtain ⟨q, hq, _⟩ := a2; cases hq
  | own k => obtain ⟨q, hq, _⟩ := a2; cases hq
  | exc C =>
   obtain ⟨q, h3, h4⟩ := a2
   refine ⟨q, h3, sm0 _ _ ?_⟩
   rw [yK] at h4
   exact h4
  | mon φ =>
   intro H' s
   refine a2 H' (Same.trans ?_ s)
   rw [yK]
   exact sm0
 have gg : ∀ {H' : Hp}, Goes ⟨some p, []⟩ H1 H' -> Goes f0 H H' := fun g => aom fun b o hb => zl _ _ b o (g.sm b o (sm0 b o hb))
 refine hr p _ H1 E (e1.set i (x := .feed) ⟨p, rfl, rfl⟩) (fun ρ' σ' H' g' e' p' => n _ σ' H' (gg g') (abp e') p') (fun d v H' g' r' p' => r d v H' (gg g') ?_ p') (fun ρ' σ' H' g' e' p' => b _ σ' H' (gg g') (abp e') p') (fun ρ' σ' H' g' e' p' => k _ σ' H' (gg g') (abp e') p')
 rw [yK]
 exact Rep.mono (zl _ _) d v r'
end
section
variable {X : Cx} {K : ao0}
def aon (i j : Int) : Prop := 0 < j /\ j < 1152921504606846976
theorem aed : OpR X (binaryOp .FloorDiv) (rI aon fun i j => .int (i / j)) := opI fun i j _ _ _ _ _ hc q => by
 obtain ⟨h1, h2⟩ := hc
 rw [<- Int.fdiv_eq_ediv_of_nonneg i (Int.le_of_lt h1)] at q
 refine floordiv_int (by omega) q (.inl (asn ?_))
 have h0 : j.natAbs ≠ 0 := by omega
 have : j.natAbs.log2 < 60 := (as7 h0).mpr (by omega)
 omega
end
section
variable {K : ao0} {f : Fx} {ρ : zr} {wi : TI} {g : TG} {tt : TT} {own : Nat} {fr : List Nat} {tb : Addr -> TB} {P : List PyData -> Prop}
theorem aee {α : Type} {A B : α -> PyData} (xs : List α) (h : PId K f wi ρ fun ds => ds = xs.map A /\ xs.length <= 1000 /\
   (∀ D x ρ' es, x ∈ xs -> OwnE own (frD fr ρ) ρ' -> es.length < 1000 -> PGd K (f.with D) g (A x) ρ' fun ρ2 => PTd K (f.with D) tt ρ2 fun b => if b = true then PBd K f D (tb D) ρ2 es fun ρ3 es3 => OwnE own (frD fr ρ) ρ3 /\ es3 = es ++ [B x] else False) /\ P (xs.map B)) :
  PEdO K f (jW wi own fr g tt tb) ρ P :=
 qK (h.imp fun ds ⟨ed, hl, hs, hp⟩ => by
  subst ed
  refine ⟨fun i ρ' es => OwnE own (frD fr ρ) ρ' /\ es = (xs.take i).map B, ⟨⟨aqT own none, by simp, rfl⟩, by simp⟩, fun D i d ρ' es hd ⟨ho, he⟩ => ?_, fun ρ' es ⟨_, he⟩ => ?_⟩
  ·rw [ao8] at hd
   cases eq : xs[i]? with
   | none => rw [eq] at hd; cases hd
   | some x =>
    rw [eq] at hd
    cases hd
    have hi : i < xs.length := (ao1.mp eq).1
    have hb : es.length < 1000 := by
     rw [he, aoZ, apP]
     omega
    intro σ H v Q e r q
    refine hs D x ρ' es (apc eq) ho hb σ H v Q e r fun ρ2 σ2 H2 g2 e2 p2 => q ρ2 σ2 H2 g2 e2 (p2.imp fun b hb2 => ?_)
    cases b with
    | false =>
     rw [if_neg aoY] at hb2
     exact hb2.elim
    | true =>
     rw [if_pos rfl] at hb2 ⊢
     intro h1 h2 σ3 H3 H4 W c k
     exact hb2 h1 h2 σ3 H3 H4 W c fun ρ5 es5 σ5 H5 c5 ⟨o5, p5⟩ => k ρ5 es5 σ5 H5 c5 ⟨o5, by rw [p5, he, aqe, eq, aps]; rfl⟩
  ·rw [he, aoZ, apM]
   exact hp)
end
structure XLie (P : Program) (w : World) (outer : List Env) (H : Hp) (s : Shared) (e : Addr) (C : Value) (H' : Hp) (s' : Shared) : Prop where
 os : s'.os = s.os
 bare : AllBare s'.gens
 un : Un (frs outer) [] H H' s.heap s'.heap
 hok : HOk P w H' s'.heap
 fly : ∃ B a0, asA B outer e C a0 s'.heap /\ (∀ b o, s.heap.get? b = some o -> b ∉ frs outer -> ∃ o', B.get? b = some o') /\ ∀ b o, H' b = some o -> ∃ o', B.get? b = some o'
 new : s.heap.get? e = none
 free : H' e = none
def CXe (P : Program) (w : World) : CXT := fun outer H s E e s' => ∃ a C H', e = .ref a /\ XLie P w outer H s a C H' s' /\ E C none H'
section
variable {P : Program} {w : World} {H H' : Hp} {h h' : Heap}
theorem ObjOk.is {a : Addr} {o : HO} (x : ObjOk P w H h a o) : ∃ u, h.get? a = some u := by
 induction o with
 | lst xs => obtain ⟨_, _, _, _, e⟩ := x; exact ⟨_, e⟩
 | tup xs => obtain ⟨_, _, _, ob, e, _⟩ := x; exact ⟨_, e⟩
 | dK kvs => obtain ⟨_, _, _, _, o, _, _, e, _⟩ := x; exact ⟨_, e⟩
 | dT kvs => obtain ⟨_, _, _, _, o, _, _, e, _⟩ := x; exact ⟨_, e⟩
 | set S n => obtain ⟨o, _, _, _, e, _⟩ := x; exact ⟨_, e⟩
 | ins C dx fs => obtain ⟨_, _, _, e, _⟩ := x; exact ⟨_, e⟩
 | own y => exact x
 | xd fs => obtain ⟨_, ⟨o, _, _, e, _⟩, _⟩ := x; exact ⟨_, e⟩
 | rng lo hi => obtain ⟨_, _, _, e⟩ := x; exact ⟨_, e⟩
 | frz ob u ih => exact ⟨_, x.1⟩
 | tbl ps => exact ⟨_, x⟩
 | met f y => exact ⟨_, x⟩
 | ext φ => exact x.2.1
theorem HOk.stays (x : HOk P w H h) (k : ∀ b o u, H b = some o -> h.get? b = some u -> h'.get? b = some u) : HOk P w H h' := fun a o e =>
 (x a o e).stay (fun b u hb q => by
  rcases hb with rfl | hb
  ·exact k b o u e q
  ·exact k b _ u hb q) (fun _ q => q) fun _ _ q => q
end
section
variable {X : Cx} {pins : List (Addr × Obj)} {σ : St} {H H' : Hp} {s s' : Shared} {a : Addr} {C : Value} {outer : List Env}
theorem Inv.old_ne (I : Inv X pins σ H s) (hst : X.stack = X.env :: X.outer) (hf : X.env.frame = some X.env.locals) {b : Addr} {o : Obj} (q : X.s₀.heap.get? b = some o) (hb : b ∉ frs X.outer) : b ∉ frs X.stack := fun z => by
 rw [hst] at z
 unfold frs at z
 rw [aqh, hf] at z
 rcases ao7.mp z with z | z
 ·have h1 : b < X.s₀.heap.objs.size := apf q
  rw [z] at h1
  exact absurd h1 (as1.mpr I.ok.above)
 ·exact hb z
theorem aiV {E : Value -> Shared -> Prop} (I : Inv X pins σ H s) (hst : X.stack = X.env :: X.outer) (hf : X.env.frame = some X.env.locals) (hex : X.ex = []) (x : XLie X.prog X.w X.stack H s a C H' s') :
  wpAny (model X.prog X.w) X.A (leaving X.env (.ref a)) (fun _ s'' => XLie X.prog X.w X.outer X.H₀ X.s₀ a C H' s'') E s' := by
 obtain ⟨B, a0, fl, dom, trk⟩ := x.fly
 have J : Inv X pins σ H' s' := I.call' x.os x.un x.hok x.bare (fun b z => absurd z (by simp))
 have hfl := fl
 rw [hst] at hfl
 refine wpAny_leaves_onW (by rw [I.ok.frames, hst]) hf hfl fun h' fl' up => ?_
 have inB : ∀ b o, X.s₀.heap.get? b = some o -> b ∉ frs X.outer -> ∃ o', B.get? b = some o' := fun b o q hb => by
  obtain ⟨o1, q1⟩ := I.base.there b o q (by rw [hex]; simp)
  exact dom b o1 q1 (I.old_ne hst hf q hb)
 have eqB : ∀ b o o', B.get? b = some o' -> s'.heap.get? b = some o -> h'.get? b = some o := fun b o o' hb q => by
  have := fl.1 b o' hb
  rw [q] at this
  cases this
  exact fl'.1 b o hb
 have noF : ∀ b o, b ∈ frs X.outer -> s'.heap.get? b = some o -> ∀ vs, o.data ≠ .fields vs := fun b o hb q => by
  obtain ⟨_, o1, q1, hd⟩ := J.stack.mem (b := b) (by
   show b ∈ frs X.stack
   rw [hst]
   unfold frs
   rw [aqh, hf]
   exact ao3 _ hb)
  rw [q] at q1
  cases q1
  exact hd
 have ex0 : ∀ b : Addr, b ∉ X.ex := fun b => by rw [hex]; simp
 refine ⟨x.os.trans I.os, x.bare, ⟨fun b o q n hb _ => ?_, fun b o q n hb _ => ?_, fun b o q n _ => J.base.free b o q n (ex0 b), fun b o q _ => ?_, J.base.tups, J.base.frzs, J.base.tbls⟩, ?_, ⟨B, a0, fl', inB, trk⟩, ?_, x.free⟩
 ·obtain ⟨o', hB⟩ := inB b o q hb
  exact eqB b o o' hB (J.base.keep b o q n hb (ex0 b))
 ·obtain ⟨sl, q1⟩ := J.base.slot b o q n hb (ex0 b)
  obtain ⟨sl', q2⟩ := up b _ q1 (noF b _ hb q1)
  exact ⟨sl', q2⟩
 ·obtain ⟨o1, q1⟩ := J.base.there b o q (ex0 b)
  by_cases hb : b ∈ frs X.outer
  ·obtain ⟨sl', q2⟩ := up b _ q1 (noF b _ hb q1)
   exact ⟨_, q2⟩
  ·obtain ⟨o', hB⟩ := inB b o q hb
   exact ⟨_, fl'.1 b o' hB⟩
 ·refine HOk.stays x.hok fun b o u e q => ?_
  obtain ⟨o', hB⟩ := trk b o e
  exact eqB b u o' hB q
 ·cases q : X.s₀.heap.get? a with
  | none => rfl
  | some o =>
   obtain ⟨o1, q1⟩ := I.base.there a o q (ex0 a)
   rw [x.new] at q1
   cases q1
theorem leave_new {E : Value -> Shared -> Prop} {h1 : Heap} {args : List Value} (I : Inv X pins σ H s) (hst : X.stack = X.env :: X.outer) (hf : X.env.frame = some X.env.locals) (hex : X.ex = []) (hx : Heap.MadeExcOf s.heap h1 a C args) :
  wpAny (model X.prog X.w) X.A (leaving X.env (.ref a)) (fun _ s'' => XLie X.prog X.w X.outer X.H₀ X.s₀ a C H s'') E { s with heap := h1 } := by
 have ex0 : ∀ b : Addr, b ∉ X.ex := fun b => by rw [hex]; simp
 have hsub : ∀ env ∈ X.env :: X.outer, ∀ b, env.frame = some b -> b ∈ frs X.stack := fun env he b hb => by
  rw [hst]
  exact arl.mpr ⟨env, he, hb⟩
 have ff := I.stack
 rw [hst] at ff
 have st : (arP s.heap (frs X.stack)).StaysIn s.heap := fun b o hb => PySem.W.of_hideAll _ hb
 refine wpAny_leaves_madeW (base := arP s.heap (frs X.stack)) (h := s.heap) (by rw [I.ok.frames, hst]) hf st (PySem.W.funFrames_hide ff hsub) hx fun h' t fl tup tn up => ?_
 have kp : ∀ b o, s.heap.get? b = some o -> b ∉ frs X.stack -> h'.get? b = some o := fun b o q hb => fl.1 b o (aq9 _ q hb)
 have noF : ∀ b o, b ∈ frs X.outer -> s.heap.get? b = some o -> ∀ vs, o.data ≠ .fields vs := fun b o hb q => by
  obtain ⟨_, o1, q1, hd⟩ := I.stack.mem (b := b) (by
   show b ∈ frs X.stack
   rw [hst]
   unfold frs
   rw [aqh, hf]
   exact ao3 _ hb)
  rw [q] at q1
  cases q1
  exact hd
 have slots : ∀ b o, b ∈ frs X.outer -> s.heap.get? b = some o -> ∃ sl, h'.get? b = some { o with slots := sl } := fun b o hb q => up b o (hx.keeps b o q) (noF b o hb q)
 have inB : ∀ b o, X.s₀.heap.get? b = some o -> b ∉ frs X.outer -> ∃ o', (arP s.heap (frs X.stack)).get? b = some o' := fun b o q hb => by
  obtain ⟨o1, q1⟩ := I.base.there b o q (ex0 b)
  exact ⟨o1, aq9 _ q1 (I.old_ne hst hf q hb)⟩
 have trk : ∀ b o, H b = some o -> ∃ u, s.heap.get? b = some u /\ b ∉ frs X.stack := fun b o e => by
  have hn : b ∉ frs X.stack := fun z => by rw [I.stkFree b z] at e; cases e
  obtain ⟨u, q⟩ := (I.hok b o e).is
  exact ⟨u, q, hn⟩
 refine ⟨I.os, I.bare, ⟨fun b o q n hb _ => kp b o (I.base.keep b o q n hb (ex0 b)) (I.old_ne hst hf q hb), fun b o q n hb _ => ?_, fun b o q n _ => I.base.free b o q n (ex0 b), fun b o q _ => ?_, I.base.tups, I.base.frzs, I.base.tbls⟩, ?_, ⟨_, _, fl, inB, fun b o e => ?_⟩, ?_, ?_⟩
 ·obtain ⟨sl, q1⟩ := I.base.slot b o q n hb (ex0 b)
  obtain ⟨sl', q2⟩ := slots b _ hb q1
  exact ⟨sl', q2⟩
 ·obtain ⟨o1, q1⟩ := I.base.there b o q (ex0 b)
  by_cases hb : b ∈ frs X.outer
  ·obtain ⟨sl', q2⟩ := slots b _ hb q1
   exact ⟨_, q2⟩
  ·exact ⟨_, kp b o1 q1 (I.old_ne hst hf q hb)⟩
 ·refine HOk.stays I.hok fun b o u e q => kp b u q ?_
  obtain ⟨_, _, hn⟩ := trk b o e
  exact hn
 ·obtain ⟨u, q, hn⟩ := trk b o e
  exact ⟨u, aq9 _ q hn⟩
 ·cases q : X.s₀.heap.get? a with
  | none => rfl
  | some o =>
   obtain ⟨o1, q1⟩ := I.base.there a o q (ex0 a)
   rw [hx.new] at q1
   cases q1
 ·cases q : H a with
  | none => rfl
  | some o =>
   obtain ⟨u, q1, _⟩ := trk a o q
   rw [hx.new] at q1
   cases q1
end
theorem akH {K : ao0} {h : Heap} {mg : Str -> Option Value} {x : Str} {C : Addr} {bmB : List Value} {newId : String} (Y : K.In h) (hm : mg x = some (.ref C)) (he : aqN K C bmB newId = true) : OwnCls x C bmB newId mg h := by
 refine ⟨hm, ?_⟩
 unfold aqN at he
 split at he
 case h_2 => cases he
 case h_1 dd cd sl lk =>
  split at he
  case h_2 => cases he
  case h_1 D bm a0 a1 a2 a3 nn a5 hmro hsl =>
   simp only [ao6, beq_iff_eq, Bool.not_eq_true'] at he
   obtain ⟨⟨⟨⟨⟨e1, e2⟩, e3⟩, e4⟩, e5⟩, e6⟩ := he
   have eo : (Obj.mk (.type "type") dd (.cls cd) sl) = excClassObj cd.name cd.qualname C cd.ns cd.bases bm cd.hasDict cd.slotNames cd.subclasses cd.abstract cd.collection dd a0 a1 a2 a3 a5 newId := by
    have s1 : sl = #[a0, a1, a2, a3, some (.builtin nn), a5] := by
     cases sl with
     | mk l => exact congrArg Array.mk hsl
    rw [s1, e2]
    cases cd
    simp only at hmro e3
    rw [hmro, e1, e3]
   exact ⟨bm, cd.ns, _, _, _, _, _, _, _, _, _, _, _, _, _, _, _, (Y _ _ lk).trans (congrArg some eo), .of_isNs (PySem.W.isNs_of_in Y e5), PySem.W.nsMap_none_of_in Y e5 e6, PySem.W.tail_of_in Y e4⟩
def aiW (C : Value) (E : XK) (t : TA) : TS := fun _ σ H => t σ H fun vs H1 => vs.length <= 1000 /\ E C none H1
section
variable {X : Cx} {pins : List (Addr × Obj)} {σ : St} {H H' H1 H2 : Hp} {s s' s1 s2 : Shared} {a : Addr} {C : Value} {i j : Nat}
theorem amZ {M : Model} {A : Around} {E : Value -> Shared -> Prop} {x : Str} {v : V} {Q : Unit -> Shared -> Prop} (I : Inv X pins σ H s) (hN : X.N.Nodup) (hi : X.N[i]? = some x) (hk : X.env.scope.names.lookup x = some .local) (hv : σ[i]? = some (some v))
  (h : ∀ s', Inv X pins (σ.set i none) H s' -> Q () s') : wpAny M A (unbindName X.env x) Q E s := by
 obtain ⟨m, hn, hl⟩ := id I.loc
 obtain ⟨u, r, lk⟩ := hl i x v hi hv (.inl hk)
 have hm : m x = some u := by
  rcases lk with ⟨_, e⟩ | ⟨z, _⟩
  ·exact e
  ·rcases z with z | z
   ·have z' : X.env.scope.names.lookup x = some .cell := z
    rw [hk] at z'; cases z'
   ·have z' : X.env.scope.names.lookup x = some .free := z
    rw [hk] at z'; cases z'
 have plain : (X.env.scope.kind == .class
   || (X.env.scope.kind == .module
    && X.env.locals != X.env.globals)) = false := by
  rw [I.ok.kind]
  rfl
 have cne := I.cne
 refine wpAny_unbindName_local hk hn hm plain fun h' w hn' hs => ?_
 have old : ∀ {b : Addr} {o : Obj}, X.s₀.heap.get? b = some o -> b ≠ X.env.locals := fun {b o} e => apB (apr (apf e) I.ok.above)
 refine h _ ⟨I.ok, I.os, I.bare, ⟨fun b o e n hb hx => (hs.2 b (old e)).trans (I.base.keep b o e n hb hx), fun b o e n hb hx => ?_, I.base.free, fun b o e hx => ?_, I.base.tups, I.base.frzs, I.base.tbls⟩, ⟨_, hn', fun q y v' e1 e2 e3 => ?_⟩, fun y c e => ?_, I.free, I.freeC, fun p hp => ?_, ?_, by rw [aqs]; exact I.len⟩
 ·obtain ⟨sl, e1⟩ := I.base.slot b o e n hb hx
  exact ⟨sl, (hs.2 b (old e)).trans e1⟩
 ·obtain ⟨o', e1⟩ := I.base.there b o e hx
  exact ⟨o', (hs.2 b (old e)).trans e1⟩
 ·by_cases hj : q = i
  ·subst hj
   rw [List.getElem?_set] at e2
   rw [if_pos rfl] at e2
   split at e2 <;> cases e2
  ·rw [aqo (aqa hj)] at e2
   obtain ⟨u', r', z⟩ := hl q y v' e1 e2 e3
   refine ⟨u', r', ?_⟩
   rcases z with ⟨k, e⟩ | ⟨k, c, e, z⟩
   ·refine .inl ⟨k, ?_⟩
    have : y ≠ x := fun e => hj (aba hN e1 (e ▸ hi))
    show (if y = x then w else m y) = some u'
    rw [if_neg this]
    exact e
   ·exact .inr ⟨k, c, e, z.sameBut hs (cne y c e)⟩
 ·obtain ⟨w', z⟩ := I.cell y c e
  exact ⟨w', z.sameBut hs (cne y c e)⟩
 ·obtain ⟨e, n, ne, nf, d⟩ := I.pin p hp
  exact ⟨(hs.2 p.1 ne).trans e, n, ne, nf, d⟩
 ·refine HOk.stays I.hok fun b o u e q => (hs.2 b ?_).trans q
  rintro rfl
  rw [I.free] at e
  cases e
def Cx.marked (X : Cx) (e : Value) : Cx := { X with A := X.A.mark (some e), calm := false, xe := fun _ _ => False }
theorem Cx.Ok.marked (ok : X.Ok) (e : Value) : (X.marked e).Ok :=
 ⟨ok.mod, ok.kind, ok.glob, ok.blt, ok.above, ok.inj, ok.has, ok.cab, (fun z => by cases z), ok.frames, ok.stk, ok.exf, ok.bs, ok.bsz, ok.noex, ok.exfs, ok.funs, ok.frf⟩
theorem Inv.marked (I : Inv X pins σ H s) (e : Value) : Inv (X.marked e) pins σ H s := ⟨I.ok.marked e, I.os, I.bare, I.base, I.loc, I.cell, I.free, I.freeC, I.pin, I.hok, I.len⟩
theorem Inv.unmarked {e : Value} (ok : X.Ok) (I : Inv (X.marked e) pins σ H s) : Inv X pins σ H s := ⟨ok, I.os, I.bare, I.base, I.loc, I.cell, I.free, I.freeC, I.pin, I.hok, I.len⟩
theorem XLie.move {P : Program} {w : World} {outer : List Env} {B : Heap} {a0 : Value} {h'' : Heap} (x : XLie P w outer H s a C H' s') (fl : asA B outer a C a0 s'.heap) (dom : ∀ b o, s.heap.get? b = some o -> b ∉ frs outer -> ∃ o', B.get? b = some o')
  (trk : ∀ b o, H' b = some o -> ∃ o', B.get? b = some o') (st : B.StaysIn h'') (up : s'.heap.UpToSlots h'') : Un (frs outer) [] H H' s.heap h'' /\ HOk P w H' h'' := by
 have eqB : ∀ b o o', B.get? b = some o' -> s'.heap.get? b = some o -> h''.get? b = some o := fun b o o' hb q => by
  have := fl.1 b o' hb
  rw [q] at this
  cases this
  exact st b o hb
 have noF : ∀ b o, b ∈ frs outer -> s'.heap.get? b = some o -> ∀ vs, o.data ≠ .fields vs := fun b o hb q => by
  obtain ⟨_, o1, q1, hd⟩ := fl.2.2.1.mem hb
  rw [q] at q1
  cases q1
  exact hd
 refine ⟨⟨fun b o q n hb z => ?_, fun b o q n hb z => ?_, x.un.free, fun b o q z => ?_, x.un.tups, x.un.frzs, x.un.tbls⟩, HOk.stays x.hok fun b o u e q => ?_⟩
 ·obtain ⟨o', hB⟩ := dom b o q hb
  exact eqB b o o' hB (x.un.keep b o q n hb z)
 ·obtain ⟨sl, q1⟩ := x.un.slot b o q n hb z
  obtain ⟨sl', q2⟩ := up b _ q1 (noF b _ hb q1)
  exact ⟨sl', q2⟩
 ·by_cases hb : b ∈ frs outer
  ·obtain ⟨o1, q1⟩ := x.un.there b o q z
   obtain ⟨sl', q2⟩ := up b _ q1 (noF b _ hb q1)
   exact ⟨_, q2⟩
  ·obtain ⟨o', hB⟩ := dom b o q hb
   exact ⟨_, st b o' hB⟩
 ·obtain ⟨o', hB⟩ := trk b o e
  exact eqB b u o' hB q
end
def acX (D : Ends) (j : Nat) : Ends where
 nx := fun σ H => D.nx (σ.set j none) H
 rt := D.rt
 bk := fun σ H => D.bk (σ.set j none) H
 ct := fun σ H => D.ct (σ.set j none) H
section
variable {X : Cx} {pins : List (Addr × Obj)} {σ : St} {H H1 H2 : Hp} {s s1 s2 : Shared} {a C0 : Addr} {C : Value} {i j : Nat} {n hx : Str} {b0 : Stmt} {suite : List Stmt} {hp hpos : Pos} {ts : TS} {D : Ends}
theorem acY {M : Model} {A : Around} {E : Value -> Shared -> Prop} {Q : Unit -> Shared -> Prop} (I : Inv X pins σ H s) (hN : X.N.Nodup) (hj : X.N[j]? = some n) (hn : X.env.scope.names.lookup n = some .local) (h : ∀ s', Inv X pins (σ.set j none) H s' -> Q () s') :
  wpAny M A (do bindName X.env n .none; unbindBehindTheSuite X.env n hpos) Q E s := by
 refine wpAny_bind (wpAny_bindName (jq (v := .non) I hN hj (.inl hn) rfl (fun s' I' => ?_) (.inr hn)))
 unfold unbindBehindTheSuite
 refine wpAny_onRaise (amZ (v := .non) I' hN hj hn ?_ fun s'' I'' => ?_)
 ·have : j < σ.length := by rw [I.len]; exact (ao1.mp hj).1
  rw [aqb this]
 ·rw [List.set_set] at I''
  exact h s'' I''
end
end L2
end
section
namespace L2
open PySem PySem.Spec PySem.W PyProof.Rows PySem.Calls PySem.Builtin Builtin Builtin.ObjectAttr Builtin.Getset_descriptor
section
variable {prog : Program} {w : World} {A : Around} {E : Value -> Shared -> Prop} {s : Shared} {K : ao0} {a C : Addr}
structure ExcWays (K : ao0) (C : Addr) : Prop where
 ga : findIn K (.ref C) "__getattribute__" = some (some (.builtin "BaseException.__getattribute__"))
 gt : findIn K (.ref C) "__getattr__" = some none
 cl : findIn K (.ref C) "__class__" = some (some (.builtin "object.__class__"))
 gs : specialIn K (.builtin "object.__class__") "__get__" = some (some (.builtin "getset_descriptor.__get__"))
 tk : takesIn K (.builtin "object.__class__") = some true
 ob : mroIn K C (.type "object") = some true
 be : mroIn K C (.type "BaseException") = some true
 iz : (clsIn K C).isSome = true
def abq (a C : Addr) (h : Heap) : Prop := ∃ o, h.get? a = some o /\ o.cls = .ref C
theorem vV {M : Model} {h : Heap} (x : abq a C h) : Looks M h (typeOf (.ref a)) (.ref C) := by
 obtain ⟨o, h1, h2⟩ := x
 exact h2 ▸ (Looks.ld h1).andThen .now
theorem ahA {M : Model} {h : Heap} {x : Value} {nm : Str} {d g : Value} (X : K.In h) (h1 : findIn K (.ref C) nm = some (some d)) (h2 : specialIn K d "__get__" = some (some g)) (h3 : takesIn K d = some true) : Looks M h (find x (.ref C) nm) (.bind g d) := by
 have L1 := looks_findIn (M := M) X h1
 have L2 : Looks M h (getOf (some d)) (some g) := looks_specialIn X h2
 have L3 : Looks M h (dataDescriptor? (some d) (some g)) (some (g, d)) := (looks_takesIn (M := M) X h3).andThen .now
 exact L1.andThen (L2.andThen (L3.andThen (Looks.tag .now)))
theorem afr {R : Result -> Shared -> Prop} {tp : Value} (X : K.In s.heap) (I : abq a C s.heap) (hm : mroIn K C (.type "object") = some true) (h : R (.ok (.ret (.ref C))) s) :
  codeAny (model prog w) A (.call (.builtin "getset_descriptor.__get__") ⟨[.builtin "object.__class__", .ref a, tp], []⟩) R s := by
 obtain ⟨hh, g, dr, t, os⟩ := s
 have L0 := vV (M := model prog w) I
 have L1 := looks_mroIn (M := model prog w) X hm
 refine codeAny_call_builtin KF.slot_gs.plain KF.entry_gs (KF.slot_gs.check _ _ _ _ _ _ _ _ KF.type_class (KF.args_gs _ _ _) ?_)
 unfold Builtin.«getset_descriptor.__get__» descrGet
 rw [dga_obj]
 refine wpAny_bind (wpAny_pure ?_)
 unfold descrGetter descrCheckInstance descrNameAndClass isInstance
 simp only [KF.owner_class]
 repeat lk
 refine ⟨Code.quiet_builtin _ (by decide +kernel), codeAny_builtin KF.entry_class ?_⟩
 unfold Builtin.«object.__class__» shownTypeOf
 repeat lk
 exact h
theorem aiX {M : Model} {nameV : Value} {Q : Unit -> Shared -> Prop} (X : K.In s.heap) (I : abq a C s.heap) (Wy : ExcWays K C) (h : Q () s) : wpAny M A (checkBuiltinCall "BaseException.__getattribute__" ⟨[.ref a, nameV], []⟩) Q E s := by
 obtain ⟨hh, g, dr, t, os⟩ := s
 have hk : builtinKind "BaseException.__getattribute__" = some .slot := by decide +kernel
 have hsp : splitId "BaseException.__getattribute__" = some ("BaseException", "__getattribute__") := by decide +kernel
 have L0 := vV (M := M) I
 have L1 := looks_mroIn (M := M) X Wy.be
 have ha := F.args_bexc_ga (.ref a) nameV
 simp only [checkBuiltinCall, hk, hsp]
 unfold isInstance
 refine wpAny_bind (wpAny_bind (L0.at (L1.at ?_)))
 rw [apE, if_neg aoY]
 exact wpAny_of_eq ha h
theorem akI {Q : Option Value -> Shared -> Prop} (X : K.In s.heap) (I : abq a C s.heap) (Wy : ExcWays K C) (h : Q (some (.ref C)) { s with toks := s.toks + 1 }) : wpAny (model prog w) A (getAttr? (.ref a) "__class__") Q E s := by
 obtain ⟨hh, g, d, t, os⟩ := s
 have L0 := vV (M := model prog w) I
 have L1 := looks_findIn (M := model prog w) X Wy.ga
 have L2 := looks_findIn (M := model prog w) X Wy.gt
 unfold getAttr? getAttrBy? getAttrBy
 refine wpAny_bind (wpAny_mkText (wpAny_bind (wpAny_attempt (wpAny_holding (wpAny_bind (L0.at (wpAny_bind (L1.at ?_))))))))
 dsimp only
 rw [if_neg (by
  have z : (Value.builtin "BaseException.__getattribute__" == Value.builtin "object.__getattribute__") = false := by decide +kernel
  rw [z, arv]
  exact aoY)]
 unfold getAttrByItsOwn hookBefore
 rw [if_pos (show onTheHeap (Value.ref C) = true from rfl)]
 refine wpAny_bind (L2.at (wpAny_bind (wpAny_attempt (wpAny_holding ?_))))
 unfold callGetattribute
 rw [aqS, if_neg aoY]
 unfold boundAndCalled
 have f3 := asN.ga.bind (.ref a)
 rw [f3]
 refine wpAny_bind (wpAny_pure ?_)
 dsimp only
 refine wpAny_call (codeAny_call_builtin asN.ga.plain F.entry_bexc_ga (aiX (K := K) (C := C) X I Wy ?_))
 have LF := ahA (M := model prog w) (x := .ref a) X Wy.cl Wy.gs Wy.tk
 unfold Builtin.«object.__getattribute__»
 refine wpAny_bind (wpAny_of_eq (a := (Value.ref a, [Value.str (arw "__class__") t])) rfl ?_)
 dsimp only
 refine wpAny_bind (wpAny_of_eq (a := (arw "__class__")) rfl ?_)
 refine wpAny_bind (L0.at (wpAny_bind (LF.at ?_)))
 dsimp only
 unfold bindTo
 refine wpAny_bind (wpAny_call (afr (K := K) X I Wy.ob ?_))
 show wpAny _ _ (pure _) _ _ _
 refine wpAny_pure ?_
 dsimp only
 exact handed_on rfl (wpAny_pure h)
theorem aiY (Wy : ExcWays K C) : KitX K (.ref a) (.ref C) (abq a C) where
 ty := fun _ _ _ I => vV I
 it := fun _ _ X _ => by
  obtain ⟨cd, hc⟩ := aqm.mp Wy.iz
  unfold clsIn at hc
  split at hc
  ·rename_i lk
   intro A' Q' E' s' k q
   unfold isType loadHead
   exact wpAny_bind (wpAny_loadPart (k _ _ (X _ _ lk)) (wpAny_pure q))
  ·cases hc
 ne := fun h tp dd its n sl X htp => by
  obtain ⟨cd, hc⟩ := aqm.mp Wy.iz
  refine Bool.eq_false_iff.mpr fun q => ?_
  have e : C = tp := Value.ref.inj (beq_iff_eq.mp q)
  unfold clsIn at hc
  split at hc
  ·rename_i lk
   have z := X _ _ lk
   rw [e] at z
   rw [htp] at z
   cases z
  ·cases hc
 ca := fun X I k => akI X I Wy k
end
structure FnInX (P : Program) (w : World) (K : ao0) (mg : Str -> Option Value) (base : Heap) (k : Nat) (x : Str) (ps : List Str) (sp : Sp) : Prop where
 ex : ∃ (f : Addr) (fd : FuncData), FnOk P w K mg base (CXe P w) k f fd ps sp /\ mg x = some (.ref f) /\ apW K (.ref f) = true /\ Binds K fd ps []
end L2
end
section
namespace L2
open PySem PySem.Spec PyProof.Rows
def am0 (K : ao0) : List V -> Hp -> VK -> Prop := fun xs H Q => ∃ (a : Addr) (bs : List Bool), xs = [.ref a] /\ SqL K H a (bs.map V.bl) /\ Q (.bl (bs.all id)) H
theorem aef : ∀ {bs : List Bool} {us : List Value}, Vals (bs.map V.bl) us -> us = bs.map Value.bool
 | [], us, r => by
  cases r
  rfl
 | b :: bs, us, r => by
  cases r with
  | cons h t =>
   rw [aef t]
   cases (show _ = Value.bool b from h)
   rfl
theorem range_all (bs : List Bool) : (apo bs.length).all (fun i => bs.getD i false) = bs.all id := by
 rw [asF, arK, arK]
 constructor
 ·intro h b hb
  obtain ⟨i, hi, rfl⟩ := List.mem_iff_getElem.mp hb
  have := h i (apF.mpr hi)
  rwa [ao2, aoX hi] at this
 ·intro h i hi
  have hi' := apF.mp hi
  rw [ao2, aoX hi']
  exact h _ (apz hi')
theorem aeg (prog : Program) (w : World) (A : Around) (bs : List Bool) : TruthOf prog w A (fun i v => (bs.map Value.bool).toArray[i]? = some v) (fun i => bs.getD i false) := by
 intro i v s Q E hv hq
 rw [List.getElem?_toArray, ao8] at hv
 cases eb : bs[i]? with
 | none => rw [eb] at hv; cases hv
 | some b =>
  rw [eb] at hv
  cases hv
  dsimp only at hq
  rw [ao2, eb] at hq
  exact wpAny_pure hq
theorem ahB {X : Cx} (hc : X.calm = true) : yn X (.builtin "all") (am0 X.K) := by
 intro pins s σ H xs us Q I r h
 obtain ⟨a, bs, rfl, hq, q⟩ := h
 obtain ⟨u, rfl, r1⟩ := vals1 r
 cases r1
 obtain ⟨its, rv, p, _⟩ := I.list hq
 have hl := p.isList
 rw [aef rv] at hl
 have ha : a < s.heap.objs.size := by
  obtain ⟨o, ho, _⟩ := hl
  exact apf ho
 refine call_all_walk (wpAny_pyIter_list hl ?_)
 have hne : a ≠ s.heap.objs.size := apB ha
 refine ⟨s.heap.objs.size, _, _, _, _, _, _, rfl, Walks.list (show (X.A.in1).handled = none from I.ok.hd hc) _ a hne _, ⟨?_, ?_⟩, aeg _ _ _ bs, fun h' tk hk => ?_⟩
 ·exact ⟨_, apA _ rfl, rfl, rfl⟩
 ·exact hl.at fun o e => apb _ e
 ·have kp : ∀ b o, s.heap.get? b = some o -> h'.get? b = some o := fun b o e => hk b o (by
   intro z
   have := apf e
   rw [apd.mp z] at this
   exact aqx _ this) (apb _ e)
  refine ⟨.bl _, H, I.kept (t' := tk) kp, ?_, q⟩
  show Value.bool _ = Value.bool _
  rw [apk, aoZ, range_all]
theorem acj {X : Cx} {K : ao0} (hK : X.K = K) (hc : X.calm = true) : yn X (.builtin "all") (am0 K) := hK ▸ ahB hc
section
variable {K : ao0} {f : Fx} {ρ : zr} {P : PyData -> Prop} {te : TE}
theorem abr {H : Hp} : ∀ {bs : List Bool} {xs : List V}, Reps K H (bs.map .bool) xs -> xs = bs.map V.bl
 | [], xs, r => reps_nil.mp r
 | b :: bs, xs, r => by
  obtain ⟨x, r', rfl, h1, h2⟩ := reps_cons.mp r
  rw [abr h2, rep_bool.mp h1]
  rfl
theorem ama (h : PEd K f te ρ fun x => ∃ bs : List Bool, x = .list (bs.map .bool) /\ P (.bool (bs.all id))) : PEd K f (tCB (am0 K) (yd te jS)) ρ P := fun σ H Q e q => h σ H _ e fun x v H1 g1 r1 ⟨bs, ex, p⟩ => by
 subst ex
 obtain ⟨a, xs, rfl, h1, h2⟩ := rep_list.mp r1
 rw [abr h2] at h1
 exact ⟨a, bs, rfl, (zl _ _).seq h1, q _ _ H1 g1 (rep_bool.mpr rfl) p⟩
end
section
variable {prog : Program} {w : World} {A : Around} {E : Value -> Shared -> Prop}
theorem ack {I : Addr} {fp wr : List Addr} {n : Nat} {P : Nat -> Value -> Prop} {St : Nat -> Heap -> Prop} (W : Walks prog w A I fp wr n P St) : ∀ (k i : Nat) (s : Shared) (Q : List Value -> Shared -> Prop), i + k <= n -> St i s.heap ->
  (∀ vs h' tk, vs.length = k -> (∀ (j : Nat) v, vs[j]? = some v -> P (i + j) v) -> St (i + k) h' -> (∀ b o, b ∉ wr -> s.heap.get? b = some o -> h'.get? b = some o) -> Q vs { s with heap := h', toks := tk }) -> wpAny (model prog w) A (draw (.ref I) k) Q E s
 | 0, i, s, Q, _, st, hQ => wpAny_pure (hQ [] s.heap s.toks rfl (fun j v e => by simp at e) st fun _ _ _ e => e)
 | k + 1, i, s, Q, hle, st, hQ => by
  show wpAny _ _ (pyNext (.ref I) >>= _) Q E s
  refine wpAny_bind (W.item i s _ E (by omega) st fun v h1 tk1 hv st1 k1 => ?_)
  refine wpAny_bind (wpAny_holding (ack W k (i + 1) _ _ (by omega) st1 fun vs h2 tk2 hl hp st2 k2 => wpAny_pure ?_))
  refine hQ (v :: vs) h2 tk2 (by rw [apn, hl]) (fun j u e => ?_) (by rw [show i + (k + 1) = i + 1 + k by omega]; exact st2) fun b o hb e => k2 b o hb (k1 b o hb e)
  cases j with
  | zero => cases e; exact hv
  | succ j =>
   have := hp j u e
   rwa [show i + (j + 1) = i + 1 + j by omega]
theorem afs {s : Shared} {a : Addr} {items : Array Value} {targets : List (Bool × (Value -> Sem Unit))} {Q : Unit -> Shared -> Prop} (hh : A.handled = none) (hl : s.heap.IsList a items)
  (hn : targets.length = items.size) (hstar : targets.findIdx? (·.1) = none)
  (h : ∀ h' tk, (∀ b o, s.heap.get? b = some o -> h'.get? b = some o) -> wpAny (model prog w) A (assignInOrder (targets.map (·.2)) items.toList) Q E { s with heap := h', toks := tk }) : wpAny (model prog w) A (unpack (.ref a) targets) Q E s := by
 have ha : a < s.heap.objs.size := by
  obtain ⟨o, ho, _⟩ := hl
  exact apf ho
 unfold unpack
 rw [hn, hstar]
 refine wpAny_bind (wpAny_holding ?_)
 unfold unpackItems
 refine wpAny_bind ?_
 unfold notIterableAtAll
 refine wpAny_bind (wpAny_specialOf hl.typeIs slot_list_iter.lookup (wpAny_pure ?_))
 simp only [apI, if_false]
 refine wpAny_bind (wpAny_holding (wpAny_pyIter_list hl ?_))
 have W := Walks.list (prog := prog) (w := w) hh s.heap.objs.size a (apB ha) items
 have fr : ∀ b o, s.heap.get? b = some o -> b ∉ [s.heap.objs.size] := fun b o e z => by
  have := apf e
  rw [apd.mp z] at this
  exact aqx _ this
 refine wpAny_bind (wpAny_holding (ack W items.size 0 _ _ (by omega) ⟨⟨_, apA _ rfl, rfl, rfl⟩, hl.at fun o e => apb _ e⟩ fun vs h1 tk1 hvl hp st1 k1 => ?_))
 have ev : vs = items.toList := by
  refine aqK fun j => ?_
  by_cases hj : j < vs.length
  ·have := hp j _ (aoX hj)
   rw [asB] at this
   rw [aoX hj, <- this, aqE]
  ·rw [apy (by omega), apy (by rw [apg]; omega)]
 subst ev
 rw [if_neg (by simp)]
 rw [asB] at st1
 refine wpAny_bind (wpAny_holding (W.done _ _ _ st1 fun h2 tk2 k2 => ?_))
 simp only [Option.isSome_none, apI, if_false]
 exact wpAny_pure (h h2 tk2 fun b o e => k2 b o (fr b o e) (k1 b o (fr b o e) (apb _ e)))
end
def aoo (K : ao0) (n : Nat) (gs : TGs) : TG := fun v σ H Q => ∃ a xs, v = .ref a /\ SqL K H a xs /\ xs.length = n /\ gs xs σ H Q
theorem acZ {X : Cx} {K : ao0} {es : List Expr} {k : Nat} {t : TGs} {n : Nat} {pos : Pos} (hK : X.K = K) (hc : X.calm = true) (h : PGs X es t)
  (hn : (assignEach es X.env).length = n := by rfl) (hst : (assignEach es X.env).findIdx? (·.1) = none := by rfl) : PG X (.Tuple es k pos) (aoo K n t) := by
 subst hK
 intro pins s σ H v u Q I r hw
 obtain ⟨a, xs, e1, hq, hl, hw⟩ := hw
 subst e1
 cases r
 obtain ⟨its, rv, p, hz⟩ := I.list hq
 rw [assign_Tuple]
 refine wpAny_bind (wpAny_standAt (afs (I.ok.hd hc) p.isList (by rw [hn, <- hl, rv.length, apk]) hst fun h' tk kp => ?_))
 exact h pins _ σ H xs _ Q (I.kept (t' := tk) kp) rv hw
section
variable {K : ao0} {f : Fx} {ρ : zr}
theorem aiZ {n : Nat} {gs : TGs} {ds : List PyData} {R : zr -> Prop} (hn : ds.length = n) (h : aiP K f gs ds ρ R) : PGd K f (aoo K n gs) (.list ds) ρ R := fun σ H v Q e r q => by
 obtain ⟨a, xs, rfl, h1, h2⟩ := rep_list.mp r
 exact ⟨a, xs, rfl, (zl _ _).seq h1, by rw [h2.length]; exact hn, h σ H xs Q e h2 q⟩
end
open Classical in
noncomputable def eqR (h : Heap) (d : PyData) (u : Value) : Bool := if z : ∃ e as, Reads h u e as /\ e.canLay0 = true then apw z.choose d else false
theorem ai0 {h : Heap} {d e : PyData} {u : Value} {as : List Addr} (r : Reads h u e as) (c : e.canLay0 = true) : eqR h d u = apw e d := by
 have z : ∃ e as, Reads h u e as /\ e.canLay0 = true := ⟨e, as, r, c⟩
 unfold eqR
 rw [dif_pos z]
 obtain ⟨as', r', c'⟩ := z.choose_spec
 rw [SeqAt.Reads.unique _ _ _ _ _ c' r' r]
section
variable {X : Cx} {pins : List (Addr × Obj)} {σ : St} {H : Hp} {s : Shared}
theorem agn (I : Inv X pins σ H s) {d : PyData} : ∀ {ds : List PyData} {xs : List V} {us : List Value}, Reps X.K H ds xs -> Vals xs us -> (∀ e ∈ ds, e.canLay0 = true) -> us.any (eqR s.heap d) = ds.any (fun e => apw e d)
 | [], xs, us, r, v, _ => by
  rw [reps_nil.mp r] at v
  cases v
  rfl
 | e :: ds, xs, us, r, v, c => by
  obtain ⟨x, xs', rfl, h1, h2⟩ := reps_cons.mp r
  cases v with
  | cons r1 r2 =>
   obtain ⟨as, ra⟩ := yM I e x _ h1 r1
   rw [asm, asm, ai0 ra (c e ao4), agn I h2 r2 fun e he => c e (ao3 _ he)]
theorem aeh (I : Inv X pins σ H s) {A : Around} {d : PyData} {v : Value} {bs : List Addr} (rb : Reads s.heap v d bs) (cd : d.canLay0 = true) (dd : d.depth <= 50) (hu : A.units + 60 < cLine) : ∀ {ds : List PyData} {xs : List V} {us : List Value}, Reps X.K H ds xs -> Vals xs us -> (∀ e ∈ ds, e.canLay0 = true) -> ∀ u ∈ us, SeqAt.EqAt A s u v (eqR s.heap d u)
 | [], xs, us, r, w, _ => by
  rw [reps_nil.mp r] at w
  cases w
  intro u hu
  cases hu
 | e :: ds, xs, us, r, w, c => by
  obtain ⟨x, xs', rfl, h1, h2⟩ := reps_cons.mp r
  cases w with
  | cons r1 r2 =>
   intro u hm
   rcases ao7.mp hm with rfl | hm
   ·obtain ⟨as, ra⟩ := yM I e x _ h1 r1
    rw [ai0 ra (c e ao4)]
    refine SeqAt.eqAt_reads e d A s _ v as bs ra rb (c e ao4) cd ?_
    have := Nat.min_le_right e.depth d.depth
    omega
   ·exact aeh I rb cd dd hu h2 r2 (fun e he => c e (ao3 _ he)) u hm
theorem ahD {K : ao0} (hK : X.K = K) : OpR X (compareOp .NotIn) (rIn K true) := hK ▸ acR
end
section
variable {K : ao0} {f : Fx} {ρ : zr} {P : PyData -> Prop} {te ta tb : TE} {t : TA} {D : DEnds} {i j : Nat}
theorem ai1 (h : PEd K f ta ρ fun d => ∃ n : Int, d = .int n /\ PEd K f tb ρ fun y => ∃ ns : List Int, y = .tuple (ns.map .int) /\ P (.bool (!ns.contains n))) : PEd K f (tOp (rIn K true) ta tb) ρ P := fun σ H Q e q =>
 h σ H _ e fun d v H1 g1 r1 ⟨n, ed, p1⟩ => p1 σ H1 _ (e.mono g1) fun y w H2 g2 r2 ⟨ns, ey, p2⟩ => by
  subst ed ey
  obtain ⟨a, xs, rfl, h1, h2⟩ := rep_tuple.mp r2
  have ex := h2.ints
  subst ex
  rw [rep_int.mp r1]
  have e1 : inV (.int n) (ns.map V.int) = ns.contains n := by
   unfold inV
   rw [List.any_map, List.contains_eq_any_beq]
   congr 1
   funext m
   show (m == n) = (n == m)
   exact BEq.comm
  refine ⟨a, _, rfl, .inr ((zl _ _).seqT h1), rfl, ?_, ?_⟩
  ·rw [List.all_map]
   exact arK.mpr fun _ _ => rfl
  ·rw [if_pos rfl, e1]
   exact q _ _ H2 (g1.trans g2) (rep_bool.mpr rfl) p2
theorem amb (h : PAd K f t ρ fun xs => ∃ d d', xs = [.dat d, .dat d'] /\ D.nx ((ρ.set i (some (.dat d))).set j (some (.dat d')))) : PSd K f (aoe i j t) ρ D := fun σ H E e n r b c =>
 h σ H _ e fun xs vs H1 g1 r1 ⟨d, d', ex, p⟩ => by
  subst ex
  cases r1 with
  | cons ra rs =>
   cases rs with
   | cons rb rs =>
    cases rs
    exact ⟨_, _, rfl, n _ _ H1 g1 (((e.mono g1).set i (x := .dat d) ra).set j (x := .dat d') rb) p⟩
end
section
variable {K : ao0} {f : Fx} {ρ : zr} {D : DEnds}
theorem akJ {tc : TT} {tb : TS} (J : zr -> Prop) (μ : zr -> Nat) (h0 : J ρ)
  (hs : ∀ ρ', J ρ' -> PTd K f tc ρ' fun b => if b = true then PSd K f tb ρ' { D with nx := fun r => J r /\ μ r < μ ρ', ct := fun r => J r /\ μ r < μ ρ', bk := D.nx } else D.nx ρ') : PSd K f (aff tc tb) ρ D := fun σ H E e n r b c => by
 refine ⟨fun m σ' H' => ∃ ρ', EnvOk K f ρ' σ' H' /\ Goes f H H' /\ J ρ' /\ m = μ ρ', ⟨_, ρ, e, .refl e.fd, h0, rfl⟩, ?_⟩
 rintro m σ1 H1 ⟨ρ1, e1, g1, j1, rfl⟩
 refine hs ρ1 j1 σ1 H1 _ e1 fun t H2 g2 p => ?_
 cases t with
 | true =>
  rw [if_pos rfl] at p ⊢
  refine ⟨fun σ' H' => ∃ ρ', EnvOk K f ρ' σ' H' /\ Goes f H H' /\ J ρ' /\ μ ρ' < μ ρ1, fun σ' H' ⟨ρ', e', g', j', l'⟩ => ⟨_, l', ρ', e', g', j', rfl⟩, ?_⟩
  have gg := g1.trans g2
  exact p σ1 H2 _ (e1.mono g2) (fun ρ5 σ5 H5 g5 e5 p5 => ⟨ρ5, e5, gg.trans g5, p5⟩) (fun d v H5 g5 r5 p5 => r d v H5 (gg.trans g5) r5 p5) (fun ρ5 σ5 H5 g5 e5 p5 => n ρ5 σ5 H5 (gg.trans g5) e5 p5) (fun ρ5 σ5 H5 g5 e5 p5 => ⟨ρ5, e5, gg.trans g5, p5⟩)
 | false =>
  rw [if_neg aoY] at p ⊢
  exact n ρ1 σ1 H2 (g1.trans g2) (e1.mono g2) p
end
section
variable {K : ao0} {f : Fx} {ρ : zr} {E : XK} {te : TE} {ts tu : TS} {tt : TT} {t : TA} {P : PyData -> Prop} {D : DEnds}
theorem aop (h : PEd K f te ρ fun x => ∃ i, x = .int i /\ P (.int (-i))) : PEd K f (tUn (rU fun i => .int (-i)) te) ρ P :=
 aoR (h.imp fun x ⟨i, ex, p⟩ v H Q fo r q => by
  subst ex
  exact ⟨i, rep_int.mp r, q _ _ H (.refl fo) (rep_int.mpr rfl) p⟩)
end
end L2
end
section
namespace L2
open PySem PySem.Spec PyProof.Rows
end L2
end
section
namespace L2
open PySem PySem.Spec PyProof.Rows
def am1 (K : ao0) : List V -> Hp -> VK -> Prop := fun xs H Q => ∃ (a : Addr) (ns : List Int), xs = [.ref a] /\ SqL K H a (ns.map V.int) /\ Q (.int ns.sum) H
theorem ahE {X : Cx} (hc : X.calm = true) : yn X (.builtin "sum") (am1 X.K) := by
 intro pins s σ H xs us Q I r h
 obtain ⟨a, ns, rfl, hq, q⟩ := h
 obtain ⟨u, rfl, r1⟩ := vals1 r
 cases r1
 obtain ⟨its, rv, p, _⟩ := I.list hq
 have hl := p.isList
 have hi : IntsAre its ns := intsAre_of rv
 obtain ⟨zs, ez⟩ := hi.allInts.items
 rw [ez] at hl
 refine sum_intListG (show (X.A).handled = none from I.ok.hd hc) hl fun h' tk t' kp => ⟨.int _, H, I.kept (t' := tk) kp, ⟨_, rfl⟩, ?_⟩
 have e : preSum (numAt zs) zs.size = ns.sum := by
  rw [<- hi.numsOf, show its = its.toArray.toList from rfl, ez, nums_intItems, preSum_eq, List.take_of_length_le (by simp)]
 rw [e]
 exact q
theorem aft {X : Cx} {K : ao0} (hK : X.K = K) (hc : X.calm = true) : yn X (.builtin "sum") (am1 K) := hK ▸ ahE hc
section
variable {K : ao0} {f : Fx} {ρ : zr} {P : PyData -> Prop} {te : TE}
theorem aoq (h : PEd K f te ρ fun x => ∃ ns : List Int, x = .list (ns.map .int) /\ P (.int ns.sum)) : PEd K f (tCB (am1 K) (yd te jS)) ρ P := fun σ H Q e q => h σ H _ e fun x v H1 g1 r1 ⟨ns, ex, p⟩ => by
 subst ex
 obtain ⟨a, xs, rfl, h1, h2⟩ := rep_list.mp r1
 rw [h2.ints] at h1
 exact ⟨a, ns, rfl, (zl _ _).seq h1, q _ _ H1 g1 (rep_int.mpr rfl) p⟩
end
section
variable {prog : Program} {w : World} {A : Around} {E : Value -> Shared -> Prop} {s : Shared}
theorem akK {t b : Addr} {vs ws : List Value} {Q : Value -> Shared -> Prop} (ht : PlainL s.heap t vs.toArray) (hb : PlainL s.heap b ws.toArray)
  (h2 : Q (.ref s.heap.objs.size) { s with heap := s.heap.push { cls := .type "list", data := .seq (vs ++ ws).toArray } })
  (hsz : vs.length + ws.length <= sizeLine) : wpAny (model prog w) A (binaryOp .Add (.ref t) (.ref b)) Q E s := by
 obtain ⟨⟨cls, dd, data, sl⟩, n, ho, hc, _, hd⟩ := ht
 obtain ⟨⟨cls2, dd2, data2, sl2⟩, n2, ho2, hc2, _, hd2⟩ := hb
 simp only at hc hd hc2 hd2
 subst hc hd hc2 hd2
 have e : vs.toArray ++ ws.toArray = (vs ++ ws).toArray := by simp
 refine concat_meets ⟨_, ho, rfl⟩ ⟨_, ho2, rfl⟩ noFill_list_add seq_list_add PySem.F.slot_list_add PySem.F.entry_list_add (PySem.F.args_list_add_2 _ _) (list_addW t b vs.toArray ws.toArray n n2 dd dd2 sl sl2 (by rw [apk, apk]; exact hsz)) ⟨ho, ho2, ?_⟩
 rw [e]
 exact h2
end
def ai2 (K : ao0) : R2 := fun x y H Q => ∃ l b xs zs, x = .ref l /\ y = .ref b /\ SqL K H l xs /\ SqL K H b zs /\ xs.length + zs.length <= sizeLine /\ ∀ p, H p = none -> Q (.ref p) (upd H p (.lst (xs ++ zs)))
section
variable {X : Cx}
theorem akL : OpR X (binaryOp .Add) (ai2 X.K) := by
 intro pins s σ H x y v u Q I rx ry h
 obtain ⟨l, b, xs, zs, rfl, rfl, ha, hb, hz, q⟩ := h
 cases rx
 cases ry
 obtain ⟨its, r1, p1, _⟩ := I.list ha
 obtain ⟨its2, r2, p2, _⟩ := I.list hb
 refine akK p1 p2 ?_ (by rw [<- r1.length, <- r2.length]; exact hz)
 exact ⟨.ref _, _, I.lnew (t' := s.toks) (r1.append r2) (by rw [aph]; omega), rfl, q _ I.fresh⟩
theorem jy {K : ao0} (hK : X.K = K) : OpR X (binaryOp .Add) (ai2 K) := hK ▸ akL
end
section
variable {K : ao0} {f : Fx} {ρ : zr} {P : PyData -> Prop} {te ta tb : TE} {t : TA}
theorem jz (h : PEd K f ta ρ fun x => ∃ ds, x = .list ds /\ PEd K f tb ρ fun y => ∃ es, y = .list es /\ ds.length + es.length <= 1000 /\ P (.list (ds ++ es))) : PEd K f (tOp (ai2 K) ta tb) ρ P := fun σ H Q e q =>
 h σ H _ e fun x v H1 g1 r1 ⟨ds, ex, p1⟩ => p1 σ H1 _ (e.mono g1) fun y w H2 g2 r2 ⟨es, ey, hl, p2⟩ => by
  subst ex ey
  obtain ⟨a, xs, rfl, h1, h2⟩ := rep_list.mp (Rep.mono g2.sm _ _ r1)
  obtain ⟨b, ys, rfl, h3, h4⟩ := rep_list.mp r2
  have l1 := h2.length
  have l2 := h4.length
  refine ⟨a, b, xs, ys, rfl, rfl, (zl _ _).seq h1, (zl _ _).seq h3, by rw [l1, l2]; exact ap1 (z4 hl), fun p hn => ?_⟩
  have g3 : Goes f H2 (upd H2 p (.lst (xs ++ ys))) := .of_same (zX hn _) g2.ok
  exact q (.list (ds ++ es)) _ _ (g1.trans (g2.trans g3)) (rep_list.mpr ⟨p, _, rfl, .of (zB (fresh_ne g2.ok hn) zy), Reps.mono g3.sm _ _ (h2.append h4)⟩) p2
theorem acm {R : List PyData -> Prop} (h : PAd K f t ρ fun xs => ∃ ds, qk xs = some ds /\ ds.length <= 1000 /\ R ds) : PEdO K f (afj t) ρ R := fun σ H Q e q =>
 h σ H _ e fun xs vs H1 g1 r1 ⟨ds, ea, hl, p⟩ => by
  have rs := qV r1 ea
  refine ⟨by rw [rs.length]; exact ap1 (z4 hl), fun l hn => ?_⟩
  have g2 : Goes f H1 (upd H1 l (.lst vs)) := .of_same (zX hn _) g1.2
  have nl := fresh_ne g1.2 hn
  refine q ds l vs _ (g1.trans g2) (g1.free e.fd hn) zy (Reps.mono (fun b o hb => ?_) _ _ rs) p
  have hb' := zP hb
  have hbl : b ≠ l := fun z => by
   have := hb'.2
   rw [z, hn] at this
   cases this
  refine zB (fun z => ?_) (by rw [zw hbl]; exact hb'.2)
  rcases z with z | z
  ·exact hb'.1 (.inl z)
  ·rcases ao7.mp z with z | z
   ·exact hbl z
   ·exact hb'.1 (.inr z)
end
def spN {γ : Type} (K : ao0) (n : Nat) (pre : γ -> List DV -> Prop) (post : γ -> List PyData -> Prop) : Sp := fun vs H Q _ => ∃ f xs c, RepVs K f H xs vs /\ xs.length = n /\ FOk f H /\ pre c xs /\
 ∀ es D vs' H', Goes f H H' -> H D = none -> H' D = some (.lst vs') -> Reps K (hide H' (f.with D)) es vs' -> post c es -> Q (.ref D) H'
def PSn (K : ao0) (f : Fx) (ts : TS) (ρ : zr) (R : List PyData -> Prop) : Prop := ∀ (σ : St) (H : Hp) (E : Ends), EnvOk K f ρ σ H ->
 (∀ es D vs H', Goes f H H' -> H D = none -> H' D = some (.lst vs) -> Reps K (hide H' (f.with D)) es vs -> R es -> E.rt (.ref D) H') -> ts E σ H
section
variable {K : ao0} {f : Fx} {ρ : zr} {R : List PyData -> Prop} {te : TE} {ts tu : TS} {tt : TT} {t : TA} {i : Nat} {D : Addr} {es : List PyData} {O : OEnds}
theorem aei (h : PEdO K f te ρ R) : PSn K f (acP te) ρ R := fun σ H E e q => h σ H E.rt e q
theorem aaH (h : PSd K f ts ρ { nx := fun ρ' => PSn K f tu ρ' R, rt := fun _ => False }) : PSn K f (qH ts tu) ρ R := fun σ H E e q =>
 h σ H _ e (fun ρ' σ' H' g' e' p => p σ' H' E e' fun es D vs H2 g2 hn h1 rs r => q es D vs H2 (g'.trans g2) (g'.free e.fd hn) h1 rs r) (fun _ _ _ _ _ z => z.elim) (fun _ _ _ _ _ z => z.elim) (fun _ _ _ _ _ z => z.elim)
theorem amc (h : PTd K f tt ρ fun b => if b = true then PEdO K f te ρ R else PSn K f tu ρ R) : PSn K f (qH (ahk tt (acP te) af6) tu) ρ R := fun σ H E e q =>
 h σ H _ e fun b H1 g1 p => by
  have q1 : ∀ es D vs H', Goes f H1 H' -> H1 D = none -> H' D = some (.lst vs) -> Reps K (hide H' (f.with D)) es vs -> R es -> E.rt (.ref D) H' := fun es D vs H' g' hn => q es D vs H' (g1.trans g') (g1.free e.fd hn)
  cases b with
  | true => rw [if_pos rfl] at p ⊢; exact p σ H1 E.rt (e.mono g1) q1
  | false => rw [if_neg aoY] at p ⊢; exact p σ H1 E (e.mono g1) q1
theorem vG {γ : Type} {n : Nat} {pre : γ -> List DV -> Prop} {post : γ -> List PyData -> Prop} {E : XK} (c : γ) (h : PAd K f t ρ fun xs => xs.length = n /\ pre c xs /\ ∀ es, post c es -> R es) : PEdO K f (vn (spN K n pre post) [] E t) ρ R := fun σ H Q e q =>
 h σ H _ e fun xs vs H1 g1 r1 ⟨hl, hp, k⟩ => ⟨f, xs, c, by rw [apC]; exact r1, hl, g1.2, hp, fun es D vs' H' g' hn h1 rs p => q es D vs' H' (g1.trans g') (g1.free e.fd hn) h1 rs (k es p)⟩
theorem amd {ta tb : TE} (h : PTd K f tt ρ fun b => if b = true then PEdO K f ta ρ R else PEdO K f tb ρ R) : PEdO K f (tIf tt ta tb) ρ R := fun σ H Q e q =>
 h σ H _ e fun b H1 g1 p => by
  have q1 : ∀ es D vs H', Goes f H1 H' -> H1 D = none -> H' D = some (.lst vs) -> Reps K (hide H' (f.with D)) es vs -> R es -> Q (.ref D) H' := fun es D vs H' g' hn => q es D vs H' (g1.trans g') (g1.free e.fd hn)
  cases b with
  | true => rw [if_pos rfl] at p ⊢; exact p σ H1 Q (e.mono g1) q1
  | false => rw [if_neg aoY] at p ⊢; exact p σ H1 Q (e.mono g1) q1
end
section
variable {P : Program} {w : World} {K : ao0} {mg : Str -> Option Value} {base : Heap} {k : Nat} {x : Str} {st : Stmt} {ps : List Str} {N : List Str} {n : Nat} {γ : Type} {pre : γ -> List DV -> Prop} {post : γ -> List PyData -> Prop}
theorem Def.okN (F : Def K mg x st ps) (S : FnScope N ps (zf st)) (hn : ps.length = n)
  (h : ∀ (fa : Addr) (cdv : Value) (A : Around) (outer : List Env) (s : Shared) (H : Hp) (E : XK), Room k (A.deeper (envOfC x (zf st) s.heap.objs.size fa cdv)) ->
   ∃ t, PSs (zI CX0 P w K mg base N x (zf st) fa cdv A outer s H E).nox (yr st) t /\ ∀ (f : Fx) (xs : List DV) (c : γ), xs.length = n -> pre c xs -> PSn K f t (jx N xs) (post c)) :
  FnIn P w K mg base (k + 1) x ps (spN K n pre post) := by
 obtain ⟨fa, fd, F1, F2, F3⟩ := F.ex
 refine ⟨fa, fd, F1.ok S (fun vs H Q E h => ?_) (fun cdv A outer s H vs Q E hr hs => ?_), F3, F1.kp, F2⟩
 ·obtain ⟨f, xs, c, r, hl, _⟩ := h
  rw [r.length, hl, hn]
 ·obtain ⟨f, xs, c, r, hl, fo, hp, q⟩ := hs
  obtain ⟨t, h1, h2⟩ := h fa cdv A outer s H E hr
  exact ⟨t, h1, h2 f xs c hl hp (start N vs) H _ (yS r fo) (fun es D vs' H' g hn' h1' rs p => q es D vs' H' g hn' h1' rs p)⟩
end
section
variable {X : Cx} {pins : List (Addr × Obj)} {σ : St} {H : Hp} {s : Shared} {h' : Heap}
theorem Inv.laidL {t' : Nat} {D : Addr} {o : HO} (I : Inv X pins σ H s) (k : ∀ b u, b ≠ X.env.locals -> s.heap.get? b = some u -> h'.get? b = some u) (hL : ∃ o, h'.get? X.env.locals = some o) (ns : ∀ m, s.heap.Ns X.env.locals m -> h'.Ns X.env.locals m)
  (nD : ∀ b u, s.heap.get? b = some u -> b ≠ D) (hD : H D = none) (new : ObjOk X.prog X.w (upd H D o) h' D o) : Inv X pins σ (upd H D o) { s with heap := h', toks := t' } := by
 have fL : H X.env.locals = none := I.free
 refine I.step (g' := s.gens) (d' := s.drawn) (ch := []) (fun _ z => nomatch z) (fun b o n _ _ e _ => k b o n e) (fun b o n _ _ e _ => ⟨o.slots, k b o n e⟩) (fun b u _ e n => by rw [zw (nD b u e)]; exact n) (fun b o _ e => ?_) (fun b xs e => by rw [zw (zG e hD)]; exact e) (fun b u v e => by rw [zw (zG e hD)]; exact e) (fun b ps e => ⟨#[], by rw [zw (zG e hD), Array.append_empty]; exact e⟩) ns (fun a u e => ?_) I.bare
 ·by_cases hb : b = X.env.locals
  ·subst hb; exact hL
  ·exact ⟨o, k b o hb e⟩
 ·by_cases ha : a = D
  ·subst ha
   rw [zy] at e
   cases e
   exact new
  ·rw [zw ha] at e
   refine (I.hok a u e).stay (fun b v hb q => k b v (fun z => ?_) q) (fun c q => by rw [zw (zG q hD)]; exact q) fun c xs q => by rw [zw (zG q hD)]; exact q
   rcases hb with hb | hb
   ·rw [<- hb, z, fL] at e; cases e
   ·rw [z, fL] at hb; cases hb
end
end L2
end
section
namespace L2
open PySem PySem.W PyProof.Rows
structure Tot (n : Nat) (lt : Nat -> Nat -> Bool) : Prop where
 tri : ∀ i j, i < n -> j < n -> i ≠ j -> lt i j = !lt j i
 tra : ∀ i j k, i < n -> j < n -> k < n -> lt i j = true -> lt j k = true -> lt i k = true
def Ans (cmp : Nat -> Nat -> (Bool -> Shared -> Prop) -> Shared -> Prop) (n : Nat) (lt : Nat -> Nat -> Bool) (s : Shared) : Prop := ∀ i j C, i < n -> j < n -> C (lt i j) s -> cmp i j C s
def Pm (n : Nat) (p : Array Nat) : Prop := p.toList.Perm (apo n)
def Up (lt : Nat -> Nat -> Bool) (p : Array Nat) (m : Nat) : Prop := ∀ i j, i < j -> j < m -> lt (p.getD i 0) (p.getD j 0) = true
def Dn (lt : Nat -> Nat -> Bool) (p : Array Nat) (m : Nat) : Prop := ∀ i j, i < j -> j < m -> lt (p.getD j 0) (p.getD i 0) = true
theorem Pm.size {n : Nat} {p : Array Nat} (h : Pm n p) : p.size = n := by
 have := h.length_eq
 rwa [apg, ap2] at this
theorem jG (p : Array Nat) (i : Nat) : p.getD i 0 = p.toList.getD i 0 := by
 by_cases h : i < p.size <;> simp [aqX, h, List.getD]
theorem Pm.lt {n : Nat} {p : Array Nat} (h : Pm n p) {i : Nat} (hi : i < n) : p.getD i 0 < n := by
 have hs := h.size
 have hl : i < p.toList.length := by rw [apg, hs]; exact hi
 rw [jG, ao2, aoX hl]
 exact apF.mp (h.mem_iff.mp (apz hl))
theorem Pm.ne {n : Nat} {p : Array Nat} (h : Pm n p) {i j : Nat} (hi : i < n) (hj : j < n) (ne : i ≠ j) : p.getD i 0 ≠ p.getD j 0 := by
 have hs := h.size
 have nd : p.toList.Nodup := h.nodup_iff.mpr asw
 have li : i < p.toList.length := by rw [apg, hs]; exact hi
 have lj : j < p.toList.length := by rw [apg, hs]; exact hj
 rw [jG, jG, ao2, ao2, aoX li, aoX lj]
 intro e
 exact ne ((arJ nd).mp e)
theorem Pm.range (n : Nat) : Pm n (ap5 (apo n)) := List.Perm.refl _
theorem Pm.of {n : Nat} {p q : Array Nat} (h : Pm n p) (e : q.Perm p) : Pm n q := (Array.perm_iff_toList_perm.mp e).trans h
theorem ago {p q : Array Nat} {i j : Nat} (h : p[i]? = q[j]?) : p.getD i 0 = q.getD j 0 := by
 rw [aqv, aqv, h]
section
variable {cmp : Nat -> Nat -> (Bool -> Shared -> Prop) -> Shared -> Prop} {n : Nat} {lt : Nat -> Nat -> Bool} {s : Shared} {p : Array Nat}
theorem Up.more (T : Tot n lt) (hp : Pm n p) {m : Nat} (h1 : 1 <= m) (hm : m < n) (u : Up lt p m) (h : lt (p.getD (m - 1) 0) (p.getD m 0) = true) : Up lt p (m + 1) := fun i j hij hj => by
 by_cases e : j = m
 ·subst e
  by_cases e2 : i = j - 1
  ·subst e2; exact h
  ·exact T.tra _ _ _ (hp.lt (by omega)) (hp.lt (by omega)) (hp.lt hm) (u i (j - 1) (by omega) (by omega)) h
 ·exact u i j hij (by omega)
theorem Dn.more (T : Tot n lt) (hp : Pm n p) {m : Nat} (h1 : 1 <= m) (hm : m < n) (u : Dn lt p m) (h : lt (p.getD m 0) (p.getD (m - 1) 0) = true) : Dn lt p (m + 1) := fun i j hij hj => by
 by_cases e : j = m
 ·subst e
  by_cases e2 : i = j - 1
  ·subst e2; exact h
  ·exact T.tra _ _ _ (hp.lt hm) (hp.lt (by omega)) (hp.lt (by omega)) h (u i (j - 1) (by omega) (by omega))
 ·exact u i j hij (by omega)
theorem aaX (T : Tot n lt) (W : Ans cmp n lt s) (hp : Pm n p) {Q : Nat -> Shared -> Prop} : ∀ f m, 1 <= m -> m + f <= n -> Up lt p m -> (∀ m', m <= m' -> m' <= m + f -> Up lt p m' -> (m' = m + f \/ lt (p.getD m' 0) (p.getD (m' - 1) 0) = true) -> Q m' s) -> (kas_asc p f m).kasWp cmp Q s
 | 0, m, h1, hf, u, q => q m (ao5 _) (ao5 _) u (.inl rfl)
 | f + 1, m, h1, hf, u, q => by
  refine W _ _ _ (hp.lt (by omega)) (hp.lt (by omega)) ?_
  cases e : lt (p.getD m 0) (p.getD (m - 1) 0) with
  | true => exact q m (ao5 _) (by omega) u (.inr e)
  | false =>
   have e2 : lt (p.getD (m - 1) 0) (p.getD m 0) = true := by
    rw [T.tri _ _ (hp.lt (by omega)) (hp.lt (by omega)) (hp.ne (by omega) (by omega) (by omega)), e]
    rfl
   exact aaX T W hp f (m + 1) (by omega) (by omega) (u.more T hp h1 (by omega) e2) fun m' a b c d => q m' (by omega) (by omega) c (d.imp (fun z => by omega) id)
theorem aej (T : Tot n lt) (W : Ans cmp n lt s) (hp : Pm n p) {Q : Array Nat × Nat × Nat -> Shared -> Prop} : ∀ f m, 1 <= m -> m + f <= n -> Dn lt p m -> (∀ m', m <= m' -> m' <= m + f -> Dn lt p m' -> Q (p, m', 0) s) -> (kas_desc f p m 0).kasWp cmp Q s
 | 0, m, h1, hf, u, q => q m (ao5 _) (ao5 _) u
 | f + 1, m, h1, hf, u, q => by
  refine W _ _ _ (hp.lt (by omega)) (hp.lt (by omega)) ?_
  cases e : lt (p.getD m 0) (p.getD (m - 1) 0) with
  | true => exact aej T W hp f (m + 1) (by omega) (by omega) (u.more T hp h1 (by omega) e) fun m' a b c => q m' (by omega) (by omega) c
  | false =>
   have e2 : lt (p.getD (m - 1) 0) (p.getD m 0) = true := by
    rw [T.tri _ _ (hp.lt (by omega)) (hp.lt (by omega)) (hp.ne (by omega) (by omega) (by omega)), e]
    rfl
   refine W _ _ _ (hp.lt (by omega)) (hp.lt (by omega)) ?_
   rw [e2]
   exact q m (ao5 _) (by omega) u
theorem am2 {m : Nat} (hm : m <= p.size) (d : Dn lt p m) : Up lt (kas_rev p 0 m) m := fun i j hij hj => by
 have g : ∀ k, k < m -> (kas_rev p 0 m).getD k 0 = p.getD (m - 1 - k) 0 := fun k hk => ago (by
  unfold kas_rev
  rw [getElem?_mirror_all hm, if_pos ⟨apD _, hk⟩, asB])
 rw [g i (by omega), g j hj]
 exact d _ _ (by omega) (by omega)
theorem ahF (T : Tot n lt) (W : Ans cmp n lt s) (hp : Pm n p) (hn : 1 <= n) {Q : Nat × Array Nat -> Shared -> Prop} (q : ∀ m p', 1 <= m -> m <= n -> Pm n p' -> Up lt p' m -> Q (m, p') s) : (kas_count n p).kasWp cmp Q s := by
 unfold kas_count
 rw [KasT.kasWp_bind]
 refine aaX T W hp (n - 1) 1 (ao5 _) (by omega) (fun i j a b => by omega) fun m h1 h2 u c => ?_
 by_cases e : (m == n) = true
 ·rw [if_pos e]
  exact q m p h1 (by omega) hp u
 ·rw [if_neg e]
  have hm : m < n := by
   have : m ≠ n := fun z => e (by rw [z]; exact beq_self_eq_true _)
   omega
  by_cases e2 : m > 1
  ·rw [if_pos e2]
   refine W _ _ _ (hp.lt (by omega)) (hp.lt (by omega)) ?_
   rw [u 0 (m - 1) (by omega) (by omega)]
   exact q m p h1 (by omega) hp u
  ·rw [if_neg e2]
   obtain rfl : m = 1 := by omega
   have c' : lt (p.getD 1 0) (p.getD (1 - 1) 0) = true := c.resolve_left (by omega)
   unfold kas_descPart
   rw [KasT.kasWp_bind]
   refine aej T W hp (n - (1 + 1)) (1 + 1) (by omega) (by omega) (Dn.more T hp (ao5 1) hm (fun i j a b => by omega) c') fun m' a b d => ?_
   rw [if_neg (by show ¬ (0 > 0); omega)]
   unfold kas_tail3
   rw [KasT.kasWp_bind]
   have hp2 : Pm n (kas_rev p 0 m') := hp.of (mirror_perm _ _ _ _)
   exact aaX T W hp2 (n - m') m' (by omega) (by omega) (am2 (by rw [hp.size]; omega) d) fun m2 a2 b2 u2 _ => q m2 _ (by omega) (by omega) hp2 u2
theorem aan (T : Tot n lt) (W : Ans cmp n lt s) (hp : Pm n p) {k : Nat} (hk : k < n) (u : Up lt p k) {Q : Nat -> Shared -> Prop} : ∀ f l r, r - l <= f -> l <= r -> r <= k -> (∀ i, i < l -> lt (p.getD i 0) (p.getD k 0) = true) -> (∀ i, r <= i -> i < k -> lt (p.getD k 0) (p.getD i 0) = true) ->
  (∀ m, m <= k -> (∀ i, i < m -> lt (p.getD i 0) (p.getD k 0) = true) -> (∀ i, m <= i -> i < k -> lt (p.getD k 0) (p.getD i 0) = true) -> Q m s) -> (kas_place p k f l r).kasWp cmp Q s
 | 0, l, r, hf, hlr, hr, lo, hi, q => by
  obtain rfl : l = r := by omega
  exact q l hr lo hi
 | f + 1, l, r, hf, hlr, hr, lo, hi, q => by
  unfold kas_place
  by_cases e : l >= r
  ·rw [if_pos e]
   obtain rfl : l = r := by omega
   exact q l hr lo hi
  ·rw [if_neg e]
   refine W _ _ _ (hp.lt hk) (hp.lt (by omega)) ?_
   have hm : (l + r) / 2 < k := by omega
   cases e2 : lt (p.getD k 0) (p.getD ((l + r) / 2) 0) with
   | true =>
    refine aan T W hp hk u f l ((l + r) / 2) (by omega) (by omega) (by omega) lo (fun i h1 h2 => ?_) q
    by_cases e3 : i = (l + r) / 2
    ·rw [e3]; exact e2
    ·exact T.tra _ _ _ (hp.lt hk) (hp.lt (by omega)) (hp.lt (by omega)) e2 (u _ _ (by omega) h2)
   | false =>
    have e4 : lt (p.getD ((l + r) / 2) 0) (p.getD k 0) = true := by
     rw [T.tri _ _ (hp.lt (by omega)) (hp.lt hk) (hp.ne (by omega) hk (by omega)), e2]
     rfl
    refine aan T W hp hk u f ((l + r) / 2 + 1) r (by omega) (by omega) hr (fun i h1 => ?_) hi q
    by_cases e3 : i = (l + r) / 2
    ·rw [e3]; exact e4
    ·exact T.tra _ _ _ (hp.lt (by omega)) (hp.lt (by omega)) (hp.lt hk) (u _ _ (by omega) hm) e4
theorem am3 {k m : Nat} (hk : k < p.size) (hm : m <= k) (u : Up lt p k) (lo : ∀ i, i < m -> lt (p.getD i 0) (p.getD k 0) = true) (hi : ∀ i, m <= i -> i < k -> lt (p.getD k 0) (p.getD i 0) = true) : Up lt (bubble p k (k - m)) (k + 1) := fun i j hij hj => by
 have g : ∀ t, t <= k -> (bubble p k (k - m)).getD t 0 = p.getD (if t = m then k else if t < m then t else t - 1) 0 := fun t ht => ago (by
  rw [getElem?_bubble hk (k - m) (by omega), show k - (k - m) = m by omega]
  by_cases e1 : t = m
  ·rw [if_pos e1, if_pos e1]
  ·rw [if_neg e1, if_neg e1]
   by_cases e2 : t < m
   ·rw [if_neg (by omega), if_pos e2]
   ·rw [if_pos (by omega), if_neg e2])
 rw [g i (by omega), g j (by omega)]
 by_cases a1 : i = m
 ·rw [if_pos a1, if_neg (by omega), if_neg (by omega)]
  exact hi _ (by omega) (by omega)
 ·rw [if_neg a1]
  by_cases a2 : j = m
  ·rw [if_pos a2, if_pos (by omega)]
   exact lo _ (by omega)
  ·rw [if_neg a2]
   by_cases a3 : i < m
   ·rw [if_pos a3]
    by_cases a4 : j < m
    ·rw [if_pos a4]; exact u _ _ hij (by omega)
    ·rw [if_neg a4]; exact u _ _ (by omega) (by omega)
   ·rw [if_neg a3, if_neg (by omega)]
    exact u _ _ (by omega) (by omega)
theorem agp (T : Tot n lt) (W : Ans cmp n lt s) {Q : Array Nat -> Shared -> Prop} : ∀ f k (p : Array Nat), Pm n p -> k + f = n -> Up lt p k -> (∀ p', Pm n p' -> Up lt p' n -> Q p' s) -> (kas_bin f p k).kasWp cmp Q s
 | 0, k, p, hp, hf, u, q => by
  obtain rfl : k = n := by omega
  exact q p hp u
 | f + 1, k, p, hp, hf, u, q => by
  unfold kas_bin
  rw [KasT.kasWp_bind]
  refine aan T W hp (by omega) u k 0 k (by omega) (apD _) (ao5 _) (fun i hi => by omega) (fun i a b => by omega) fun m h1 lo hi => ?_
  exact agp T W f (k + 1) _ (hp.of (bubble_perm _ _ _)) (by omega) (am3 (by rw [hp.size]; omega) h1 u lo hi) q
theorem ai3 (T : Tot n lt) (W : Ans cmp n lt s) (hn : 1 <= n) {Q : Array Nat -> Shared -> Prop} (q : ∀ p, Pm n p -> Up lt p n -> Q p s) : (kas_sort n).kasWp cmp Q s := by
 unfold kas_sort
 rw [KasT.kasWp_bind]
 refine ahF T W (Pm.range n) hn fun m p h1 h2 hp u => ?_
 by_cases e : m < n
 ·show (if m < n then _ else _ : KasT (Array Nat)).kasWp cmp Q s
  rw [if_pos e, show max m 1 = m by omega]
  exact agp T W (n - m) m p hp (by omega) u q
 ·show (if m < n then _ else _ : KasT (Array Nat)).kasWp cmp Q s
  rw [if_neg e]
  obtain rfl : m = n := by omega
  exact q p hp u
end
end L2
end
section
namespace L2
open PySem PySem.W PySem.Calls PyProof.Rows
theorem acn : ∀ f n r, r <= 1 -> minRun' f n r <= n + 1
 | 0, n, r, h => by show n + r <= n + 1; omega
 | f + 1, n, r, h => by
  rw [minRun'_succ]
  by_cases e : n < 64
  ·rw [if_pos e]; omega
  ·rw [if_neg e]
   have := acn f (n / 2) (max r (n % 2)) (by omega)
   omega
theorem afu {n : Nat} (h : 1 <= n) : minRun' n n 0 <= n := by
 obtain ⟨f, rfl⟩ : ∃ f, n = f + 1 := ⟨n - 1, by omega⟩
 rw [minRun'_succ]
 by_cases e : f + 1 < 64
 ·rw [if_pos e]; omega
 ·rw [if_neg e]
  have := acn f ((f + 1) / 2) (max 0 ((f + 1) % 2)) (by omega)
  omega
section
variable {P : Program} {w : World} {A : Around} {X : Value -> Shared -> Prop} {s : Shared} {κ : SortKind} {it : Array Keyed} {n : Nat} {lt : Nat -> Nat -> Bool} {Q : SortSt -> Shared -> Prop}
theorem akM (W : Ans (kas_cmp P w A κ it) n lt s) (T : Tot n lt) (h2 : 2 <= n) (up : ∀ i, i + 1 < n -> lt (i + 1) i = false)
  (q : ∀ st', arrOf st' = (ap5 (apo n)).map (kas_item it) -> failedOf st' = none -> Q st' s) : kasC (model P w) A X sortRuns' (fun _ st' s' => Q st' s') (kas_st κ it (ap5 (apo n))) s := by
 obtain ⟨r, rfl⟩ : ∃ r, n = r + 2 := ⟨n - 2, by omega⟩
 have sz : (ap5 (apo (r + 2))).size = r + 2 := by simp
 have szA : (arrOf (kas_st κ it (ap5 (apo (r + 2))))).size = r + 2 := by
  show (Array.map _ _).size = _
  rw [asO, sz]
 have mr := afu (n := r + 2) (by omega)
 have at_ : ∀ i, i < r + 2 -> (ap5 (apo (r + 2))).getD i 0 = i := fun i hi => by simp [aqX, hi]
 have cnt : (kas_count (r + 2) (ap5 (apo (r + 2)))).kasWp (kas_cmp P w A κ it) (fun z s' => z = (r + 2, ap5 (apo (r + 2))) /\ s' = s) s := by
  unfold kas_count
  rw [KasT.kasWp_bind]
  refine aaX T W (Pm.range _) (r + 2 - 1) 1 (ao5 _) (by omega) (fun i j a b => by omega) fun m a b u c => ?_
  have e : m = r + 2 := by
   rcases c with c | c
   ·omega
   ·by_cases hm : m < r + 2
    ·rw [at_ m hm, at_ (m - 1) (by omega)] at c
     have := up (m - 1) (by omega)
     rw [show m - 1 + 1 = m by omega, c] at this
     cases this
    ·omega
  subst e
  rw [if_pos (beq_self_eq_true _)]
  exact ⟨rfl, rfl⟩
 rw [sortRuns'_eq]
 apply kasC_bind; apply kasC_get
 simp only [szA]
 apply kasC_bind; apply kasC_range
 change kasC _ _ _ (forIn (0 :: 1 :: List.range' 2 r) _ _) _ _ _
 apply kasC_cons
 simp only [Nat.sub_zero, asB, show ¬ (0 >= r + 2) by omega, if_false]
 refine kasC_bind (kas_count_ (by omega) (aqW sz.symm) (fun m p' s' _ _ _ z => ?_) cnt)
 obtain ⟨z, rfl⟩ := z
 cases z
 simp only [show ¬ (r + 2 < minRun' (r + 2) (r + 2) 0) by omega, if_false]
 apply kasC_bind; apply kasC_get
 change kasC _ _ _ (modify (fun st => setPending st ((pendingOf st).push (0, r + 2, 0))) >>= _) _ _ _
 apply kasC_bind; apply kasC_modify; apply kasC_pure
 apply kasC_cons
 simp only [show r + 2 >= r + 2 from ao5 _, if_true]
 apply kasC_pure
 apply kasC_bind; apply kasC_range
 change kasC _ _ _ (forIn (0 :: 1 :: List.range' 2 r) _ _) _ _ _
 apply kasC_cons
 apply kasC_bind; apply kasC_get
 rw [if_pos (show (pendingOf (setPending (kas_st κ it (ap5 (apo (r + 2)))) ((pendingOf (kas_st κ it (ap5 (apo (r + 2))))).push (0, r + 2, 0)))).size <= 1 from ao5 1)]
 apply kasC_pure
 exact kasC_pure (q _ rfl rfl)
theorem ai4 (W : Ans (kas_cmp P w A κ it) n lt s) (T : Tot n lt) (h2 : 2 <= n) (hs : n < 64 \/ ∀ i, i + 1 < n -> lt (i + 1) i = false)
  (q : ∀ st' p, Pm n p -> Up lt p n -> arrOf st' = p.map (kas_item it) -> failedOf st' = none -> Q st' s) : kasC (model P w) A X sortRuns' (fun _ st' s' => Q st' s') (kas_st κ it (ap5 (apo n))) s := by
 rcases hs with hs | hs
 ·exact kas_runs h2 hs (G := fun p s' => s' = s /\ Pm n p /\ Up lt p n) (fun p st' s' _ e f ⟨z, a, b⟩ => by subst z; exact q st' p a b e f) (ai3 T W (by omega) fun p a b => ⟨rfl, a, b⟩)
 ·refine akM W T h2 hs fun st' e f => q st' _ (Pm.range n) (fun i j hij hj => ?_) e f
  have at_ : ∀ i, i < n -> (ap5 (apo n)).getD i 0 = i := fun i hi => by simp [aqX, hi]
  rw [at_ i (by omega), at_ j hj]
  have key : ∀ d, i + d + 1 < n -> lt i (i + d + 1) = true := fun d => by
   induction d with
   | zero => intro hd; rw [T.tri _ _ (by omega) hd (by omega), hs i hd]; rfl
   | succ d ih =>
    intro hd
    refine T.tra _ (i + d + 1) _ (by omega) (by omega) hd (ih (by omega)) ?_
    rw [T.tri _ _ (by omega) hd (by omega), show i + (d + 1) + 1 = i + d + 1 + 1 by omega, hs (i + d + 1) (by omega)]
    rfl
  have := key (j - i - 1) (by omega)
  rwa [show i + (j - i - 1) + 1 = j by omega] at this
end
section
variable {P : Program} {w : World} {A : Around} {X : Value -> Shared -> Prop} {s : Shared} {κ : SortKind} {vs : List Value} {lt : Nat -> Nat -> Bool}
structure Asks (P : Program) (w : World) (A : Around) (s : Shared) (κ : SortKind) (vs : List Value) (lt : Nat -> Nat -> Bool) : Prop where
 kind : 2 <= vs.length -> ∀ (h' : Heap), (∀ b o, s.heap.get? b = some o -> h'.get? b = some o) -> ∀ R : SortKind -> Shared -> Prop, R κ { s with heap := h' } -> wpAny (model P w) A (keyKind' vs.toArray) R (fun _ _ => False) { s with heap := h' }
 less : ∀ (h' : Heap), (∀ b o, s.heap.get? b = some o -> h'.get? b = some o) -> Ans (kas_ask P w A κ vs) vs.length lt { s with heap := h' }
 ord : Tot vs.length lt
 few : vs.length < 64 \/ ∀ i, i + 1 < vs.length -> lt (i + 1) i = false
theorem agq {a : Addr} {e : Nat} {R : PySem.Fin -> Shared -> Prop} (hz : vs.length <= sizeLine) (ha : s.heap.get? a = some (seqObj "list" vs.toArray e)) {h0 : Heap} (h0s : ∀ b o, h0.get? b = some o -> b ≠ a /\ s.heap.get? b = some o) (K : Asks P w A { s with heap := h0 } κ vs lt)
  (q : ∀ (h' : Heap) p c, Pm vs.length p -> Up lt p vs.length -> (∀ b o, b ≠ a -> s.heap.get? b = some o -> h'.get? b = some o) -> h'.get? a = some (seqObj "list" (p.toList.map fun i => vs.getD i Value.none).toArray c) -> R (.done (.ret .none)) { s with heap := h' }) :
  wpAny (model P w) A (Builtin.«list.sort» ⟨[.ref a], []⟩) R X s := by
 let h1 := s.heap.update a (aq2 fun _ => (#[] : Array Value))
 obtain ⟨e1, a1⟩ : ∃ e1, h1.get? a = some (seqObj "list" #[] e1) := ⟨_, get?_update_seq ha fun _ => #[]⟩
 let h2' := (h1.push (seqObj "tuple" vs.toArray 0)).push (seqObj "list" #[] 0)
 have a2 : h2'.get? a = some (seqObj "list" #[] e1) := apb _ (apb _ a1)
 have k2 : ∀ b o, b ≠ a -> s.heap.get? b = some o -> h2'.get? b = some o := fun b o nb eb => apb _ (apb _ ((aqd _ _ (aqa nb)).trans eb))
 have kz : ∀ b o, h0.get? b = some o -> h2'.get? b = some o := fun b o eb => k2 b o (h0s b o eb).1 (h0s b o eb).2
 rw [list_sort_plain]
 apply wpAny_bind; apply listItems_at ha rfl
 apply wpAny_bind; refine listUpdate_at ha rfl ?_ (by simpa using hz) (apD _)
 apply wpAny_bind; apply seqEpoch_at a1 rfl
 apply wpAny_bind; refine wpAny_newTuple ?_ (by simpa using hz)
 apply wpAny_bind; refine wpAny_newList ?_ (apD _)
 apply wpAny_holding
 dsimp only
 change wpAny _ A _ _ _ { s with heap := h2' }
 have st0 : SortSt.mk' κ (vs.toArray.zip vs.toArray) #[] 7 none = kas_st κ (pairsOf vs) (ap5 (apo vs.length)) := by
  have z := kas_range (pairsOf vs)
  rw [pairsOf_size] at z
  unfold kas_st
  rw [z]
  rfl
 have fin : ∀ (st' : SortSt) (p : Array Nat), Pm vs.length p -> Up lt p vs.length -> arrOf st' = p.map (kas_item (pairsOf vs)) -> failedOf st' = none -> wpAny (model P w) A (do
   let sorted := (arrOf st').map (·.2)
   let touched := (<- seqEpoch a) != e1
   Builtin.List.listUpdate (.ref a) fun _ => sorted
   if let some e := failedOf st' then rule "list.sort.comparison-raised"; throw e
   if touched then rule "list.sort.modified"; raiseError "ValueError" "list modified during sort"
   ret .none) R X { s with heap := h2' } := fun st' p x1 x2 x3 x4 => by
  have out : (arrOf st').map (·.2) = (p.toList.map fun i => vs.getD i Value.none).toArray := by
   apply Array.toList_inj.mp
   rw [x3, Array.map_map, Array.toList_map]
   refine ara fun i _ => ?_
   show (kas_item (pairsOf vs) i).2 = _
   rw [kas_item_eq]
  dsimp only
  rw [out, x4]
  obtain ⟨c, a3⟩ : ∃ c, (h2'.update a (aq2 fun _ => (p.toList.map fun i => vs.getD i Value.none).toArray)).get? a = some (seqObj "list" (p.toList.map fun i => vs.getD i Value.none).toArray c) := ⟨_, get?_update_seq a2 fun _ => (p.toList.map fun i => vs.getD i Value.none).toArray⟩
  apply wpAny_bind; apply seqEpoch_at a2 rfl
  apply wpAny_bind
  refine listUpdate_at a2 rfl ?_ (apD _) (by
   rw [apk, aoZ, apg, x1.size]; omega)
  simp only [bne_self_eq_false, apI, if_false]
  exact wpAny_pure (q _ p c x1 x2 (fun b o nb eb => (aqd _ _ (aqa nb)).trans (k2 b o nb eb)) a3)
 by_cases h2 : vs.length < 2
 ·have two : vs.toArray.size < 2 := by rw [apk]; exact h2
  rw [if_pos two, if_pos two]
  apply wpAny_bind; apply wpAny_pure
  apply wpAny_bind
  rw [StateT.run_pure]
  apply wpAny_pure
  have z := kas_range (pairsOf vs)
  rw [pairsOf_size] at z
  exact fin _ (ap5 (apo vs.length)) (Pm.range _) (fun i j x y => by omega) z.symm rfl
 have two : ¬ vs.toArray.size < 2 := by rw [apk]; exact h2
 rw [if_neg two, if_neg two]
 apply wpAny_bind
 refine wpAny_mono (K.kind (by omega) h2' kz (fun κ' s' => κ' = κ /\ s' = { s with heap := h2' }) ⟨rfl, rfl⟩) ?_ fun _ _ z => z.elim
 rintro κ' s' ⟨eκ, es⟩
 rw [eκ, es]
 have W := K.less h2' kz
 rw [kas_ask_eq] at W
 rw [st0]
 apply wpAny_bind
 refine wpAny_mono (ai4 (Q := fun st' s' => s' = { s with heap := h2' } /\ ∃ p, Pm vs.length p /\ Up lt p vs.length /\ arrOf st' = p.map (kas_item (pairsOf vs)) /\ failedOf st' = none) W K.ord (by omega) K.few fun st' p x1 x2 x3 x4 => ⟨rfl, p, x1, x2, x3, x4⟩) ?_ fun _ _ z => z
 rintro ⟨⟨⟩, st'⟩ s' ⟨rfl, p, x1, x2, x3, x4⟩
 exact fin st' p x1 x2 x3 x4
theorem aek {l : Addr} {Q : Value -> Shared -> Prop} (hz : vs.length <= sizeLine) (hl : s.heap.IsList l vs.toArray) (K : Asks P w A.in1.in1 s κ vs lt)
  (q : ∀ (h' : Heap) D p c, Pm vs.length p -> Up lt p vs.length -> s.heap.objs.size <= D -> (∀ b o, s.heap.get? b = some o -> h'.get? b = some o) -> h'.get? D = some (seqObj "list" (p.toList.map fun i => vs.getD i Value.none).toArray c) -> Q (.ref D) { s with heap := h' }) :
  wpAny (model P w) A (call (.builtin "sorted") [.ref l]) Q X s := by
 let h1 := (s.heap.push (seqObj "list" #[] 0)).update s.heap.objs.size (aq2 (· ++ vs.toArray))
 have s1 : h1.objs.size = s.heap.objs.size + 1 := by rw [Heap.size_update, size_push']
 let h2' := h1.push (seqObj "list" vs.toArray 0)
 have at2 : h2'.get? (s.heap.objs.size + 1) = some (seqObj "list" vs.toArray 0) := by rw [<- s1]; exact apA _ rfl
 have keep : ∀ b o, s.heap.get? b = some o -> b ≠ s.heap.objs.size + 1 /\ h2'.get? b = some o := fun b o eb => by
  have lb := apf eb
  refine ⟨fun z => ?_, apb _ ((aqd _ _ fun z => ?_).trans (apb _ eb))⟩
  ·rw [z] at lb; exact aqx _ (as3 lb (asv _))
  ·rw [<- z] at lb; exact aqx _ lb
 refine ar9 kind_sorted plain_sorted entry_sorted (args_sorted1 _) ?_
 unfold Builtin.«sorted»
 apply wpAny_bind (m := checkCount "sorted" 1 1 _); apply wpAny_pure
 apply wpAny_bind; refine collect_list hl ?_ hz
 apply wpAny_bind; refine wpAny_newList ?_ hz
 change wpAny _ _ _ _ _ { s with heap := h2' }
 rw [show Value.ref ((s.heap.push (seqObj "list" #[] 0)).update s.heap.objs.size (aq2 (· ++ vs.toArray))).objs.size = Value.ref (s.heap.objs.size + 1) from congrArg Value.ref s1]
 apply wpAny_bind; apply wpAny_holding
 refine wpAny_call_entry slot_list_sort ⟨_, at2, rfl⟩ entry_list_sort ?_ (args_list_sort _)
 refine agq (s := { s with heap := h2' }) hz at2 (h0 := s.heap) keep K fun h' p c x1 x2 x3 x4 => ⟨_, rfl, wpAny_pure ⟨_, rfl, ?_⟩⟩
 exact q h' _ p c x1 x2 (as6 _) (fun b o eb => x3 b o (keep b o eb).1 (keep b o eb).2) x4
end
mutual
def zA : PyData -> Bool
 | .int _ => true
 | .str s => (PyData.str s).canLay0
 | .tuple xs => zK xs
 | _ => false
def zK : List PyData -> Bool
 | [] => true
 | x :: xs => zA x && zK xs
end
mutual
def ltD : PyData -> PyData -> Bool
 | .int a, .int b => decide (a < b)
 | .str a, .str b => decide (a.cps.toList < b.cps.toList)
 | .tuple xs, .tuple ys => ltL xs ys
 | .int _, .str _ => true
 | .int _, .tuple _ => true
 | .str _, .tuple _ => true
 | _, _ => false
def ltL : List PyData -> List PyData -> Bool
 | [], [] => false
 | [], _ :: _ => true
 | _ :: _, [] => false
 | x :: xs, y :: ys => if apw x y = true then ltL xs ys else ltD x y
end
mutual
def vW : PyData -> PyData -> Bool
 | .int _, .int _ => true
 | .str _, .str _ => true
 | .tuple xs, .tuple ys => vH xs ys
 | _, _ => false
def vH : List PyData -> List PyData -> Bool
 | [], _ => true
 | _ :: _, [] => true
 | x :: xs, y :: ys => if apw x y = true then vH xs ys else vW x y
end
mutual
theorem yC : ∀ d : PyData, zA d = true -> d.canLay0 = true
 | .int _, _ => rfl
 | .str _, h => h
 | .tuple xs, h => by rw [PyData.canLay0]; exact abt xs (by rw [zA] at h; exact h)
 | .none, h => by cases h
 | .bool _, h => by cases h
 | .list _, h => by cases h
 | .dict _, h => by cases h
theorem abt : ∀ xs : List PyData, zK xs = true -> ap6 xs = true
 | [], _ => rfl
 | x :: xs, h => by
  rw [zK, ao6] at h
  rw [ap6, yC x h.1, abt xs h.2]
  rfl
end
mutual
theorem ai5 : ∀ a b : PyData, zA a = true -> zA b = true -> apw a b = true -> a = b
 | .int a, .int b, _, _, h => by simpa [apw] using h
 | .str a, .str b, _, _, h => by simpa [apw] using h
 | .tuple xs, .tuple ys, h1, h2, h => by rw [agr xs ys (by rw [zA] at h1; exact h1) (by rw [zA] at h2; exact h2) (by rw [apw] at h; exact h)]
 | .int _, .str _, _, _, h => by simp [apw] at h
 | .int _, .tuple _, _, _, h => by simp [apw] at h
 | .str _, .int _, _, _, h => by simp [apw] at h
 | .str _, .tuple _, _, _, h => by simp [apw] at h
 | .tuple _, .int _, _, _, h => by simp [apw] at h
 | .tuple _, .str _, _, _, h => by simp [apw] at h
 | .none, _, h, _, _ => by cases h
 | .bool _, _, h, _, _ => by cases h
 | .list _, _, h, _, _ => by cases h
 | .dict _, _, h, _, _ => by cases h
 | .int _, .none, _, h, _ => by cases h
 | .int _, .bool _, _, h, _ => by cases h
 | .int _, .list _, _, h, _ => by cases h
 | .int _, .dict _, _, h, _ => by cases h
 | .str _, .none, _, h, _ => by cases h
 | .str _, .bool _, _, h, _ => by cases h
 | .str _, .list _, _, h, _ => by cases h
 | .str _, .dict _, _, h, _ => by cases h
 | .tuple _, .none, _, h, _ => by cases h
 | .tuple _, .bool _, _, h, _ => by cases h
 | .tuple _, .list _, _, h, _ => by cases h
 | .tuple _, .dict _, _, h, _ => by cases h
theorem agr : ∀ xs ys : List PyData, zK xs = true -> zK ys = true -> aso xs ys = true -> xs = ys
 | [], [], _, _, _ => rfl
 | [], _ :: _, _, _, h => by simp [aso] at h
 | _ :: _, [], _, _, h => by simp [aso] at h
 | x :: xs, y :: ys, h1, h2, h => by
  rw [zK, ao6] at h1 h2
  rw [aso, ao6] at h
  rw [ai5 x y h1.1 h2.1 h.1, agr xs ys h1.2 h2.2 h.2]
end
theorem aaY {a b : PyData} (ha : zA a = true) (hb : zA b = true) : apw a b = true ↔ a = b :=
 ⟨ai5 a b ha hb, fun h => by subst h; exact aq4 a (yC a ha)⟩
theorem j7 {x y : PyData} {xs ys : List PyData} (hx : zA x = true) (hy : zA y = true) [Decidable (x = y)] : ltL (x :: xs) (y :: ys) = if x = y then ltL xs ys else ltD x y := by
 rw [ltL]
 by_cases h : x = y
 ·rw [if_pos ((aaY hx hy).mpr h), if_pos h]
 ·rw [if_neg (fun z => h ((aaY hx hy).mp z)), if_neg h]
theorem ai6 {a b : List Nat} (h : a ≠ b) : decide (a < b) = !decide (b < a) := by
 by_cases h1 : a < b
 ·rw [decide_eq_true h1, decide_eq_false (fun z => List.lt_irrefl a (List.lt_trans h1 z))]
  rfl
 ·have h2 : b < a := by
   have : b <= a := List.not_lt.mp h1
   rcases List.le_iff_lt_or_eq.mp this with z | z
   ·exact z
   ·exact absurd z.symm h
  rw [decide_eq_false h1, decide_eq_true h2]
  rfl
theorem am4 {a b : Str} (h : a ≠ b) : a.cps.toList ≠ b.cps.toList := fun z => h (by
 cases a; cases b
 simp only [Str.mk.injEq] at *
 exact Array.toList_inj.mp z)
mutual
theorem afv : ∀ a b : PyData, zA a = true -> zA b = true -> a ≠ b -> ltD a b = !ltD b a
 | .int a, b, ha, hb, ne => by
  cases b with
  | int b =>
   rw [ltD, ltD]
   have : a ≠ b := fun z => ne (by rw [z])
   by_cases h : a < b
   ·rw [decide_eq_true h, decide_eq_false (by omega)]; rfl
   ·rw [decide_eq_false h, decide_eq_true (by omega)]; rfl
  | str b => simp [ltD]
  | tuple ys => simp [ltD]
  | none => cases hb
  | bool _ => cases hb
  | list _ => cases hb
  | dict _ => cases hb
 | .str a, b, ha, hb, ne => by
  cases b with
  | int b => simp [ltD]
  | str b =>
   rw [ltD, ltD]
   exact ai6 (am4 fun z => ne (by rw [z]))
  | tuple ys => simp [ltD]
  | none => cases hb
  | bool _ => cases hb
  | list _ => cases hb
  | dict _ => cases hb
 | .tuple xs, b, ha, hb, ne => by
  cases b with
  | int b => simp [ltD]
  | str b => simp [ltD]
  | tuple ys =>
   rw [ltD, ltD]
   rw [zA] at ha hb
   exact ags xs ys ha hb fun z => ne (by rw [z])
  | none => cases hb
  | bool _ => cases hb
  | list _ => cases hb
  | dict _ => cases hb
 | .none, _, h, _, _ => by cases h
 | .bool _, _, h, _, _ => by cases h
 | .list _, _, h, _, _ => by cases h
 | .dict _, _, h, _, _ => by cases h
theorem ags : ∀ xs ys : List PyData, zK xs = true -> zK ys = true -> xs ≠ ys -> ltL xs ys = !ltL ys xs
 | [], [], _, _, ne => absurd rfl ne
 | [], _ :: _, _, _, _ => by simp [ltL]
 | _ :: _, [], _, _, _ => by simp [ltL]
 | x :: xs, y :: ys, h1, h2, ne => by
  rw [zK, ao6] at h1 h2
  have := ap4 (x = y)
  have := ap4 (y = x)
  rw [j7 h1.1 h2.1, j7 h2.1 h1.1]
  by_cases e : x = y
  ·rw [if_pos e, if_pos e.symm]
   exact ags xs ys h1.2 h2.2 fun z => ne (by rw [e, z])
  ·rw [if_neg e, if_neg (aqa e)]
   exact afv x y h1.1 h2.1 e
end
mutual
theorem vI : ∀ a : PyData, zA a = true -> ltD a a = false
 | .int a, _ => by rw [ltD]; exact decide_eq_false (Int.lt_irrefl a)
 | .str a, _ => by rw [ltD]; exact decide_eq_false (List.lt_irrefl _)
 | .tuple xs, h => by rw [ltD]; rw [zA] at h; exact agt xs h
 | .none, h => by cases h
 | .bool _, h => by cases h
 | .list _, h => by cases h
 | .dict _, h => by cases h
theorem agt : ∀ xs : List PyData, zK xs = true -> ltL xs xs = false
 | [], _ => by rw [ltL]
 | x :: xs, h => by
  rw [zK, ao6] at h
  have := ap4 (x = x)
  rw [j7 h.1 h.1, if_pos rfl]
  exact agt xs h.2
end
theorem lt_asymm {a b : PyData} (ha : zA a = true) (hb : zA b = true) (h : ltD a b = true) : a ≠ b := fun z => by
 subst z
 rw [vI a ha] at h
 cases h
mutual
theorem ac0 : ∀ a b c : PyData, zA a = true -> zA b = true -> zA c = true -> ltD a b = true -> ltD b c = true -> ltD a c = true
 | .int a, b, c, ha, hb, hc, h1, h2 => by
  cases b <;> first | (cases hb; done) | skip
  all_goals cases c <;> first | (cases hc; done) | skip
  all_goals first | (simp [ltD] at h1 h2 ⊢; omega) | (simp [ltD] at h1 h2 ⊢; done) | (simp [ltD] at h1; done) | (simp [ltD] at h2; done)
 | .str a, b, c, ha, hb, hc, h1, h2 => by
  cases b <;> first | (cases hb; done) | skip
  all_goals cases c <;> first | (cases hc; done) | skip
  all_goals first | (simp [ltD] at h1; done) | (simp [ltD] at h2; done) | (rw [ltD] at h1 h2 ⊢; exact decide_eq_true (List.lt_trans (of_decide_eq_true h1) (of_decide_eq_true h2))) | (simp [ltD] at h1 h2 ⊢; done)
 | .tuple xs, b, c, ha, hb, hc, h1, h2 => by
  cases b with
  | tuple ys =>
   cases c with
   | tuple zs =>
    rw [ltD] at h1 h2 ⊢
    rw [zA] at ha hb hc
    exact agu xs ys zs ha hb hc h1 h2
   | int _ => simp [ltD] at h2
   | str _ => simp [ltD] at h2
   | none => cases hc
   | bool _ => cases hc
   | list _ => cases hc
   | dict _ => cases hc
  | int _ => simp [ltD] at h1
  | str _ => simp [ltD] at h1
  | none => cases hb
  | bool _ => cases hb
  | list _ => cases hb
  | dict _ => cases hb
 | .none, _, _, h, _, _, _, _ => by cases h
 | .bool _, _, _, h, _, _, _, _ => by cases h
 | .list _, _, _, h, _, _, _, _ => by cases h
 | .dict _, _, _, h, _, _, _, _ => by cases h
theorem agu : ∀ xs ys zs : List PyData, zK xs = true -> zK ys = true -> zK zs = true -> ltL xs ys = true -> ltL ys zs = true -> ltL xs zs = true
 | [], ys, [], _, _, _, h1, h2 => by
  cases ys with
  | nil => exact h1
  | cons y ys => simp [ltL] at h2
 | [], _, _ :: _, _, _, _, _, _ => by rw [ltL]
 | _ :: _, [], _, _, _, _, h1, _ => by simp [ltL] at h1
 | _ :: _, _ :: _, [], _, _, _, _, h2 => by simp [ltL] at h2
 | x :: xs, y :: ys, z :: zs, p1, p2, p3, h1, h2 => by
  rw [zK, ao6] at p1 p2 p3
  have := ap4 (x = y)
  have := ap4 (y = z)
  have := ap4 (x = z)
  rw [j7 p1.1 p2.1] at h1
  rw [j7 p2.1 p3.1] at h2
  rw [j7 p1.1 p3.1]
  by_cases e1 : x = y
  ·rw [if_pos e1] at h1
   by_cases e2 : y = z
   ·rw [if_pos e2] at h2
    rw [if_pos (e1.trans e2)]
    exact agu xs ys zs p1.2 p2.2 p3.2 h1 h2
   ·rw [if_neg e2] at h2
    rw [if_neg (fun q => e2 (e1.symm.trans q)), e1]
    exact h2
  ·rw [if_neg e1] at h1
   by_cases e2 : y = z
   ·rw [if_neg (fun q => e1 (q.trans e2.symm)), <- e2]
    exact h1
   ·rw [if_neg e2] at h2
    have h3 := ac0 x y z p1.1 p2.1 p3.1 h1 h2
    rw [if_neg (lt_asymm p1.1 p3.1 h3)]
    exact h3
end
end L2
end
section
namespace L2
open PySem PySem.Spec PyProof.Rows PySem.SeqAt
open PySem.AutoSeq1 (wpAny_loadPart')
open PySem.MeetsSeq PySem.MeetsSeq2 PySem.MeetsSeq3
def aor (A : Around) (s : Shared) (y x : Value) (b : Bool) : Prop :=
 ∀ (prog : Program) (w : World) (E : Value -> Shared -> Prop) (Q : Value -> Shared -> Prop), Q (.bool b) s -> wpAny (model prog w) A (richCompare .Lt y x) Q E s
inductive Lex (A : Around) (s : Shared) : List Value -> List Value -> Bool -> Prop where
 | nn : Lex A s [] [] false
 | nc {w ws} : Lex A s [] (w :: ws) true
 | cn {v vs} : Lex A s (v :: vs) [] false
 | eq {v w vs ws b} : EqAt A s v w true -> Lex A s vs ws b -> Lex A s (v :: vs) (w :: ws) b
 | lt {v w vs ws b} : EqAt A s v w false -> aor A s v w b -> Lex A s (v :: vs) (w :: ws) b
theorem ac1 (l m : Addr) (xs ys : Array Value) (n n2 : Nat) (dd dd2 : Option Addr) (sl sl2 : Array (Option Value)) (c : Bool) :
  Meets (Builtin.«tuple.__lt__» ⟨[.ref l, .ref m], []⟩)
   (fun A R s => s.heap.get? l = some { cls := .type "tuple", dict := dd, data := .seq xs n, slots := sl } /\ s.heap.get? m = some { cls := .type "tuple", dict := dd2, data := .seq ys n2, slots := sl2 } /\
    Lex A.in1 s xs.toList ys.toList c /\ R (.ok (.ret (.bool c))) s) :=
 .of_wp fun prog w A R s h => by
  obtain ⟨hp, g, d, tk, os⟩ := s; obtain ⟨hl, hb, hx, h⟩ := h
  have f2 := AutoSeq1.sub_tuple_tuple
  wp_walk using wpAny_loadPart' hl, wpAny_loadPart' hb, wpAny_forIn_list _ (fun rest b s' => b.1 = none /\ s' = ⟨hp, g, d, tk, os⟩ /\ ∃ (vs ws : List Value), rest = vs.zip ws /\ Lex A.in1 ⟨hp, g, d, tk, os⟩ vs ws c /\ vs.length + ys.size = ws.length + xs.size) _
  case turn =>
   rintro ⟨y, x⟩ rest b s' ⟨hb', rfl, vs, ws, hz, lx, hn⟩
   cases lx with
   | nn => cases hz
   | nc => cases hz
   | cn => cases hz
   | eq he lx' =>
    rw [aqY] at hz
    cases hz
    refine wpAny_bind (he prog w _ _ ?_)
    wp_walk
    exact ⟨rfl, rfl, _, _, rfl, lx', by simp only [apn] at hn; omega⟩
   | lt he hlt =>
    rw [aqY] at hz
    cases hz
    refine wpAny_bind (he prog w _ _ ?_)
    have hri := hlt prog w
    wp_walk using hri
    exact ⟨_, rfl, h⟩
  case fin =>
   rintro ⟨b1, b2⟩ s' ⟨hb', rfl, vs, ws, hz, lx, hn⟩
   simp only at hb'
   subst hb'
   have hv : decide (xs.size < ys.size) = c := by
    cases lx with
    | nn => simp only [aqI] at hn; exact decide_eq_false (by omega)
    | nc => simp only [aqI, apn] at hn; exact decide_eq_true (by omega)
    | cn => simp only [aqI, apn] at hn; exact decide_eq_false (by omega)
    | eq _ _ => cases hz
    | lt _ _ => cases hz
   wp_walk
   rw [<- hv] at h
   exact ⟨_, rfl, by simpa [Builtin.Tuple.tupleCompareSizes] using h⟩
  case h => exact ⟨rfl, rfl, _, _, rfl, hx, by simp only [apg]; omega⟩
mutual
theorem ael : ∀ (da db : PyData) (A : Around) (s : Shared) (a b : Value) (as bs : List Addr), Reads s.heap a da as -> Reads s.heap b db bs -> zA da = true -> zA db = true -> vW da db = true ->
  A.units + max da.depth db.depth < cLine -> aor A s a b (ltD da db)
 | .int x, db, A, s, _, _, _, _, ra, rb, _, _, hc, hu => by
  cases ra with
  | int _ t =>
   cases db with
   | int y =>
    cases rb with
    | int _ u =>
     intro prog w E Q q
     exact HT.rcLt_int A s x t y u prog w E Q (by rw [ltD] at q; exact q)
   | _ => cases hc
 | .str x, db, A, s, _, _, _, _, ra, rb, _, _, hc, hu => by
  cases ra with
  | str _ t =>
   cases db with
   | str y =>
    cases rb with
    | str _ u =>
     intro prog w E Q q
     exact (PyProof.Rows.lt_str (by rw [ltD] at q; exact q) : wpAny (model prog w) A (compareOp .Lt (.str x t) (.str y u)) Q E s)
   | _ => cases hc
 | .tuple xs, db, A, s, _, _, _, _, ra, rb, pa, pb, hc, hu => by
  cases ra with
  | @tuple l o vs n _ as h1 h2 h3 h4 =>
   cases db with
   | tuple ys =>
    cases rb with
    | @tuple m o2 ws n2 _ bs k1 k2 k3 k4 =>
     intro prog w E Q q
     obtain ⟨cls, dd, data, sl⟩ := o
     obtain ⟨cls2, dd2, data2, sl2⟩ := o2
     simp only at h2 h3 k2 k3
     subst h2 h3 k2 k3
     rw [zA] at pa pb
     rw [vW] at hc
     rw [ltD] at q
     have hd : A.in1.units + max (ao9 xs) (ao9 ys) < cLine := by
      have e1 : (PyData.tuple xs).depth = ao9 xs + 1 := rfl
      have e2 : (PyData.tuple ys).depth = ao9 ys + 1 := rfl
      have e3 : A.in1.units = A.units + 1 := rfl
      rw [e1, e2] at hu
      omega
     have lx := aco xs ys A.in1 s _ _ _ _ h4 k4 pa pb hc hd
     exact richCompare_meets_room (op := .Lt) ⟨_, h1, rfl⟩ ⟨_, k1, rfl⟩ PySem.F.slot_tuple_lt PySem.F.entry_tuple_lt (PySem.F.args_tuple_lt_2 _ _) (ac1 l m vs ws n n2 dd dd2 sl sl2 (ltL xs ys))
      ⟨h1, k1, lx, show Value.bool (ltL xs ys) ≠ Value.notImplemented /\ Q (.bool (ltL xs ys)) s from ⟨(fun x => nomatch x), q⟩⟩ (by omega)
   | _ => cases hc
 | .none, _, _, _, _, _, _, _, _, _, h, _, _, _ => by cases h
 | .bool _, _, _, _, _, _, _, _, _, _, h, _, _, _ => by cases h
 | .list _, _, _, _, _, _, _, _, _, _, h, _, _, _ => by cases h
 | .dict _, _, _, _, _, _, _, _, _, _, h, _, _, _ => by cases h
theorem aco : ∀ (xs ys : List PyData) (A : Around) (s : Shared) (vs ws : List Value) (as bs : List Addr), ReadsAll s.heap vs xs as -> ReadsAll s.heap ws ys bs -> zK xs = true -> zK ys = true -> vH xs ys = true ->
  A.units + max (ao9 xs) (ao9 ys) < cLine -> Lex A s vs ws (ltL xs ys)
 | [], [], _, _, _, _, _, _, ra, rb, _, _, _, _ => by cases ra; cases rb; rw [ltL]; exact .nn
 | [], _ :: _, _, _, _, _, _, _, ra, rb, _, _, _, _ => by cases ra; cases rb; rw [ltL]; exact .nc
 | _ :: _, [], _, _, _, _, _, _, ra, rb, _, _, _, _ => by cases ra; cases rb; rw [ltL]; exact .cn
 | x :: xs, y :: ys, A, s, _, _, _, _, ra, rb, pa, pb, hc, hu => by
  cases ra with
  | cons r rs =>
   cases rb with
   | cons r' rs' =>
    rw [zK, ao6] at pa pb
    rw [vH] at hc
    rw [ltL]
    have e1 : ao9 (x :: xs) = max x.depth (ao9 xs) := rfl
    have e2 : ao9 (y :: ys) = max y.depth (ao9 ys) := rfl
    rw [e1, e2] at hu
    have eq := eqAt_reads x y A s _ _ _ _ r r' (yC x pa.1) (yC y pb.1) (by omega)
    by_cases e : apw x y = true
    ·rw [if_pos e] at hc ⊢
     rw [e] at eq
     exact .eq eq (aco xs ys A s _ _ _ _ rs rs' pa.2 pb.2 hc (by omega))
    ·rw [if_neg e] at hc ⊢
     rw [Bool.not_eq_true] at e
     rw [e] at eq
     exact .lt eq (ael x y A s _ _ _ _ r r' pa.1 pb.1 hc (by omega))
end
end L2
end
section
namespace L2
open PySem PySem.Spec PyProof.Rows PySem.SeqAt PySem.W
section
variable {P : Program} {w : World} {A : Around} {s : Shared} {b : Bool} {Q : Bool -> Shared -> Prop}
theorem ac2 {fin : Bool} {x y : PyData} {p q : Value} {r : List (Value × Value)} {i : Nat} {as bs : List Addr} {c : Bool} (rx : Reads s.heap p x as) (ry : Reads s.heap q y bs) (px : zA x = true) (py : zA y = true) (hu : A.units + max x.depth y.depth < cLine)
  (h1 : apw x y = true -> KatLex P w A b fin Q r (i + 1) s) (h2 : apw x y = false -> wpAny (model P w) A (oneLt' (b && i == 0) p q) Q (fun _ _ => False) s) : KatLex P w A b fin Q ((p, q) :: r) i s := by
 refine kat_cons (eqAt_reads x y A s _ _ _ _ rx ry (yC x px) (yC y py) (by omega) P w _ _ ?_)
 exact kat_go (fun e => kat_yes (h1 e)) fun e => kat_no (h2 e)
theorem vX {m n : Nat} : ∀ (xs ys : List PyData) (vs ws : List Value) (as bs : List Addr) (i : Nat), (1 <= i \/ b = false) -> ReadsAll s.heap vs xs as -> ReadsAll s.heap ws ys bs -> zK xs = true -> zK ys = true -> vH xs ys = true ->
  A.units + max (ao9 xs) (ao9 ys) < cLine -> xs.length + n = ys.length + m -> Q (ltL xs ys) s -> KatLex P w A b (decide (m < n)) Q (vs.zip ws) i s
 | [], [], _, _, _, _, i, _, ra, rb, _, _, _, _, hl, q => by
  cases ra; cases rb
  rw [ltL] at q
  simp only [aqI] at hl
  rw [decide_eq_false (show ¬ m < n by omega)]
  exact kat_nil q
 | [], y :: ys, _, _, _, _, i, _, ra, rb, _, _, _, _, hl, q => by
  cases ra; cases rb
  rw [ltL] at q
  simp only [aqI, apn] at hl
  rw [decide_eq_true (show m < n by omega)]
  exact kat_nil q
 | x :: xs, [], _, _, _, _, i, _, ra, rb, _, _, _, _, hl, q => by
  cases ra; cases rb
  rw [ltL] at q
  simp only [aqI, apn] at hl
  rw [decide_eq_false (show ¬ m < n by omega), List.zip_nil_right]
  exact kat_nil q
 | x :: xs, y :: ys, _, _, _, _, i, hi, ra, rb, pa, pb, hc, hu, hl, q => by
  cases ra with
  | cons r rs =>
   cases rb with
   | cons r' rs' =>
    rw [zK, ao6] at pa pb
    rw [vH] at hc
    rw [ltL] at q
    have e1 : ao9 (x :: xs) = max x.depth (ao9 xs) := rfl
    have e2 : ao9 (y :: ys) = max y.depth (ao9 ys) := rfl
    rw [e1, e2] at hu
    simp only [apn] at hl
    rw [aqY]
    refine ac2 (c := true) r r' pa.1 pb.1 (by omega) (fun e => ?_) fun e => ?_
    ·rw [if_pos e] at hc q
     exact vX xs ys _ _ _ _ (i + 1) (.inl (by omega)) rs rs' pa.2 pb.2 hc (by omega) (by omega) q
    ·rw [if_neg (by rw [e]; exact aoY)] at hc q
     have ef : (b && i == 0) = false := by
      rcases hi with hi | hi
      ·rw [show (i == 0) = false from beq_eq_false_iff_ne.mpr (by omega), arv]
      ·rw [hi]; rfl
     rw [ef]
     exact kat_one _ _ (ael x y A s _ _ _ _ r r' pa.1 pb.1 hc (by omega) P w _ _ q)
end
def j8 : PyData -> Option String
 | .tuple (.int _ :: _) => some "int"
 | .tuple (.str _ :: _) => some "str"
 | .tuple (.tuple _ :: _) => some "tuple"
 | _ => none
structure SortOk (T : String) (ds : List PyData) : Prop where
 plain : ∀ d ∈ ds, zA d = true
 head : ∀ d ∈ ds, j8 d = some T
 cmp : ∀ d ∈ ds, ∀ e ∈ ds, vW d e = true
 depth : ∀ d ∈ ds, d.depth <= 50
 nd : ds.Nodup
theorem qM {d : PyData} {T : String} (h : j8 d = some T) : ∃ x xs, d = .tuple (x :: xs) /\ ((T = "int" /\ ∃ n, x = .int n) \/ (T = "str" /\ ∃ n, x = .str n) \/ (T = "tuple" /\ ∃ n, x = .tuple n)) := by
 unfold j8 at h
 split at h
 ·cases h; exact ⟨_, _, rfl, .inl ⟨rfl, _, rfl⟩⟩
 ·cases h; exact ⟨_, _, rfl, .inr (.inl ⟨rfl, _, rfl⟩)⟩
 ·cases h; exact ⟨_, _, rfl, .inr (.inr ⟨rfl, _, rfl⟩)⟩
 ·cases h
section
variable {P : Program} {w : World} {A : Around} {s : Shared} {T : String}
theorem am5 {d e : PyData} {v u : Value} {as bs : List Addr} {C : Bool -> Shared -> Prop} (rd : Reads s.heap v d as) (re : Reads s.heap u e bs) (pd : zA d = true) (pe : zA e = true) (hd : j8 d = some T) (he : j8 e = some T) (hc : vW d e = true)
  (hu : A.units + 60 < cLine) (d1 : d.depth <= 50) (d2 : e.depth <= 50) (q : C (ltD d e) s) : wpAny (model P w) A (keyLt' (tuples' (Value.type T != Value.type "tuple")) v u) C (fun _ _ => False) s := by
 obtain ⟨x, xs, rfl, hx⟩ := qM hd
 obtain ⟨y, ys, rfl, hy⟩ := qM he
 cases rd with
 | @tuple l o vs n _ as h1 h2 h3 h4 =>
  cases re with
  | @tuple m o2 ws n2 _ bs k1 k2 k3 k4 =>
   have l1 := arH _ _ _ h4
   have l2 := arH _ _ _ k4
   rw [apg] at l1 l2
   refine kat_lt h1 h3 k1 k3 ?_
   rw [zA] at pd pe
   rw [vW] at hc
   rw [ltD] at q
   have e1 : (PyData.tuple (x :: xs)).depth = ao9 (x :: xs) + 1 := rfl
   have e2 : (PyData.tuple (y :: ys)).depth = ao9 (y :: ys) + 1 := rfl
   have e3 : ao9 (x :: xs) = max x.depth (ao9 xs) := rfl
   have e4 : ao9 (y :: ys) = max y.depth (ao9 ys) := rfl
   rcases hx with ⟨rfl, nx, rfl⟩ | ⟨rfl, nx, rfl⟩ | ⟨rfl, nx, rfl⟩
   ·obtain ⟨ny, rfl⟩ : ∃ ny, y = .int ny := by
     rcases hy with ⟨_, h⟩ | ⟨z, _⟩ | ⟨z, _⟩
     ·exact h
     ·exact absurd z (by decide)
     ·exact absurd z (by decide)
    obtain ⟨vl⟩ := vs
    obtain ⟨wl⟩ := ws
    cases h4 with
    | cons r rs =>
     cases k4 with
     | cons r' rs' =>
      rw [zK, ao6] at pd pe
      rw [vH] at hc
      rw [ltL] at q
      rw [aqY]
      refine ac2 (c := true) r r' rfl rfl (by omega) (fun e => ?_) fun e => ?_
      ·rw [if_pos e] at hc q
       exact vX xs ys _ _ _ _ 1 (.inl (ao5 1)) rs rs' pd.2 pe.2 hc (by omega) (by simp only [apn] at l1 l2; omega) q
      ·rw [if_neg (by rw [e]; exact aoY)] at q
       rw [show ((Value.type "int" != Value.type "tuple") && (0 == 0)) = true by decide]
       cases r
       cases r'
       rw [ltD] at q
       exact oneLt_int q
   ·obtain ⟨ny, rfl⟩ : ∃ ny, y = .str ny := by
     rcases hy with ⟨z, _⟩ | ⟨_, h⟩ | ⟨z, _⟩
     ·exact absurd z (by decide)
     ·exact h
     ·exact absurd z (by decide)
    obtain ⟨vl⟩ := vs
    obtain ⟨wl⟩ := ws
    cases h4 with
    | cons r rs =>
     cases k4 with
     | cons r' rs' =>
      rw [zK, ao6] at pd pe
      rw [vH] at hc
      rw [ltL] at q
      rw [aqY]
      refine ac2 (c := true) r r' pd.1 pe.1 (by omega) (fun e => ?_) fun e => ?_
      ·rw [if_pos e] at hc q
       exact vX xs ys _ _ _ _ 1 (.inl (ao5 1)) rs rs' pd.2 pe.2 hc (by omega) (by simp only [apn] at l1 l2; omega) q
      ·rw [if_neg (by rw [e]; exact aoY)] at q
       rw [show ((Value.type "str" != Value.type "tuple") && (0 == 0)) = true by decide]
       cases r
       cases r'
       rw [ltD] at q
       exact oneLt_str q
   ·exact vX _ _ _ _ _ _ 0 (.inr (by decide)) h4 k4 pd pe hc (by omega) (by rw [l1, l2]; omega) q
theorem ReadsAll.at {h : Heap} : ∀ {vs : List Value} {ds : List PyData} {as : List Addr}, ReadsAll h vs ds as -> ∀ i, i < ds.length -> ∃ bs, Reads h (vs.getD i Value.none) (ds.getD i .none) bs
 | _, _, _, .nil, i, hi => absurd hi (aqj _)
 | _, _, _, .cons r rs, 0, _ => ⟨_, r⟩
 | _, _, _, .cons r rs, i + 1, hi => ReadsAll.at rs i (Nat.lt_of_succ_lt_succ hi)
theorem ReadsAll.keep {h h' : Heap} (k : ∀ b o, h.get? b = some o -> h'.get? b = some o) : ∀ {vs : List Value} {ds : List PyData} {as : List Addr}, ReadsAll h vs ds as -> ReadsAll h' vs ds as
 | _, _, _, .nil => .nil
 | _, _, _, .cons r rs => .cons (PyProof.Rows.Reads.keeps k r) (ReadsAll.keep k rs)
theorem agv {h : Heap} : ∀ {vs : List Value} {ds : List PyData} {as : List Addr}, ReadsAll h vs ds as -> (∀ d ∈ ds, j8 d = some T) -> ∃ fs, KatTups h vs fs /\ fs.length = vs.length /\ ∀ v ∈ fs, Looks (model P w) h (typeOf v) (.type T)
 | _, _, _, .nil, _ => ⟨[], .nil, rfl, fun _ h => nomatch h⟩
 | _, d :: ds, _, .cons r rs, hh => by
  obtain ⟨fs, h1, h2, h3⟩ := agv rs fun d hd => hh d (ao3 _ hd)
  obtain ⟨x, xs, rfl, hx⟩ := qM (hh d ao4)
  cases r with
  | @tuple l o vs n _ as k1 k2 k3 k4 =>
   obtain ⟨vl⟩ := vs
   cases k4 with
   | @cons v0 vs0 _ _ _ _ r0 rs0 =>
    refine ⟨v0 :: fs, .cons k1 k2 k3 rfl h1, by simp [h2], fun v hv => ?_⟩
    rcases ao7.mp hv with rfl | hv
    ·rcases hx with ⟨rfl, nx, rfl⟩ | ⟨rfl, nx, rfl⟩ | ⟨rfl, nx, rfl⟩
     ·cases r0; exact Looks.of_pure rfl
     ·cases r0; exact Looks.of_pure rfl
     ·cases r0 with
      | tuple q1 q2 q3 q4 => rw [<- q2]; exact (Looks.ld q1).andThen .now
    ·exact h3 v hv
theorem am6 {ds : List PyData} (ok : SortOk T ds) : Tot ds.length fun i j => ltD (ds.getD i .none) (ds.getD j .none) := by
 have mem : ∀ i, i < ds.length -> ds.getD i .none ∈ ds := fun i hi => by
  rw [ao2, aoX hi]
  exact apz hi
 refine ⟨fun i j hi hj ne => afv _ _ (ok.plain _ (mem i hi)) (ok.plain _ (mem j hj)) fun z => ne ?_, fun i j k hi hj hk => ac0 _ _ _ (ok.plain _ (mem i hi)) (ok.plain _ (mem j hj)) (ok.plain _ (mem k hk))⟩
 rw [ao2, ao2, aoX hi, aoX hj] at z
 exact (arJ ok.nd).mp z
theorem agw {vs : List Value} {ds : List PyData} {as : List Addr} (ra : ReadsAll s.heap vs ds as) (ok : SortOk T ds) (hu : A.units + 60 < cLine) (few : ds.length < 64 \/ ds.Pairwise fun d e => ltD d e = true) :
  Asks P w A s (tuples' (Value.type T != Value.type "tuple")) vs fun i j => ltD (ds.getD i .none) (ds.getD j .none) := by
 have len := arH _ _ _ ra
 have mem : ∀ i, i < ds.length -> ds.getD i .none ∈ ds := fun i hi => by
  rw [ao2, aoX hi]
  exact apz hi
 refine ⟨fun h2 h' k R q => ?_, fun h' k i j C hi hj q => ?_, by rw [len]; exact am6 ok, ?_⟩
 ·obtain ⟨fs, f1, f2, f3⟩ := agv (P := P) (w := w) (ReadsAll.keep k ra) ok.head
  exact kat_kind f1 (by omega) f3 (beq_self_eq_true _) q
 ·rw [len] at hi hj
  obtain ⟨b1, r1⟩ := ReadsAll.at (ReadsAll.keep k ra) i hi
  obtain ⟨b2, r2⟩ := ReadsAll.at (ReadsAll.keep k ra) j hj
  exact am5 r1 r2 (ok.plain _ (mem i hi)) (ok.plain _ (mem j hj)) (ok.head _ (mem i hi)) (ok.head _ (mem j hj)) (ok.cmp _ (mem i hi) _ (mem j hj)) hu (ok.depth _ (mem i hi)) (ok.depth _ (mem j hj)) q
 ·rw [len]
  refine few.imp id fun pw i hi => ?_
  have h1 := aqF.mp pw i (i + 1) (by omega) hi (by omega)
  have g : ∀ j (hj : j < ds.length), ds.getD j .none = ds[j] := fun j hj => by rw [ao2, aoX hj]; rfl
  rw [g _ hi, g i (by omega)]
  have ne := lt_asymm (ok.plain _ (apz _)) (ok.plain _ (apz _)) h1
  have := afv _ _ (ok.plain _ (apz _)) (ok.plain _ (apz _)) ne
  rw [h1] at this
  revert this
  cases ltD ds[i + 1] ds[i] <;> simp
end
def pick {α : Type} (d : α) (p : Array Nat) (xs : List α) : List α := p.toList.map fun i => xs.getD i d
theorem agx : ∀ {xs : List V} {us : List Value}, Vals xs us -> ∀ i, RelV (xs.getD i .non) (us.getD i Value.none)
 | _, _, .nil, i => rfl
 | _, _, .cons r t, 0 => r
 | _, _, .cons r t, i + 1 => agx t i
theorem acp {xs : List V} {us : List Value} (r : Vals xs us) (p : Array Nat) : Vals (pick .non p xs) (pick Value.none p us) := by
 unfold pick
 induction p.toList with
 | nil => exact .nil
 | cons i l ih => exact .cons (agx r i) ih
theorem agy {K : ao0} {H : Hp} : ∀ {ds : List PyData} {xs : List V}, Reps K H ds xs -> ∀ i, Rep K H (ds.getD i .none) (xs.getD i .non)
 | [], xs, r, i => by
  rw [reps_nil.mp r]
  exact rep_none.mpr rfl
 | d :: ds, xs, r, i => by
  obtain ⟨x, xs', rfl, r1, r2⟩ := reps_cons.mp r
  cases i with
  | zero => exact r1
  | succ i => exact agy r2 i
theorem acq {K : ao0} {H : Hp} {ds : List PyData} {xs : List V} (r : Reps K H ds xs) (p : Array Nat) : Reps K H (pick .none p ds) (pick .non p xs) := by
 unfold pick
 induction p.toList with
 | nil => exact .nil'
 | cons i l ih => exact .cons' (agy r i) ih
theorem acr {α : Type} {d : α} {n : Nat} {p : Array Nat} {xs : List α} (h : Pm n p) (hn : n = xs.length) : (pick d p xs).Perm xs := by
 have e : (apo n).map (fun i => xs.getD i d) = xs := by
  subst hn
  refine aqK fun i => ?_
  rw [ao8]
  by_cases hi : i < xs.length
  ·rw [aqt hi, aoX hi]
   simp [hi]
  ·rw [apy (by simp; omega), apy (by omega)]
   rfl
 have := h.map fun i => xs.getD i d
 rw [e] at this
 exact this
theorem agz {n : Nat} {p : Array Nat} {ds : List PyData} (h : Pm n p) (u : Up (fun i j => ltD (ds.getD i .none) (ds.getD j .none)) p n) : (pick .none p ds).Pairwise fun d e => ltD d e = true := by
 unfold pick
 rw [ap7]
 refine aqF.mpr fun i j hi hj hij => ?_
 have hs := h.size
 rw [apg] at hi hj
 have := u i j hij (by omega)
 have g : ∀ k (hk : k < p.toList.length), p.getD k 0 = p.toList[k] := fun k hk => by
  rw [jG, ao2, aoX hk]
  rfl
 rw [g i (by simpa using hi), g j (by simpa using hj)] at this
 exact this
def ac3 (K : ao0) : List V -> Hp -> VK -> Prop := fun xs H Q => ∃ (a : Addr) (vs : List V) (ds : List PyData) (T : String), xs = [.ref a] /\ SqL K H a vs /\ Reps K H ds vs /\ SortOk T ds /\ ds.length <= 1000 /\ (ds.length < 64 \/ ds.Pairwise fun d e => ltD d e = true) /\
 ∀ l p, H l = none -> Pm ds.length p -> Up (fun i j => ltD (ds.getD i .none) (ds.getD j .none)) p ds.length -> Q (.ref l) (upd H l (.lst (pick .non p vs)))
theorem ac4 {X : Cx} (hu : X.A.units + 64 < cLine) : yn X (.builtin "sorted") (ac3 X.K) := by
 intro pins s σ H xs us Q I r h
 obtain ⟨a, vs, ds, T, rfl, ha, rd, ok, hl, few, q⟩ := h
 obtain ⟨u, rfl, rx⟩ := vals1 r
 cases rx
 obtain ⟨its, rv, pl, hz⟩ := I.list ha
 have le := rv.length
 have ld := rd.length
 obtain ⟨as, ra⟩ := yY I ds vs its rd rv
 have e2 : X.A.in1.in1.units = X.A.units + 1 + 1 := rfl
 have lt' : its.length = ds.length := by omega
 refine aek (by omega) pl.isList (agw ra ok (by omega) few) fun h' D p c x1 x2 x3 x4 x5 => ?_
 rw [lt'] at x1 x2
 have hD : H D = none := I.hok.fresh x3
 have lp : p.toList.length = ds.length := by rw [apg]; exact x1.size
 exact ⟨.ref D, upd H D (.lst (pick .non p vs)), I.laid (t' := s.toks) x4 x3 ⟨by unfold pick; rw [aoZ]; omega, pick Value.none p its, c, acp rv p, x5⟩, rfl, q D p hD x1 x2⟩
theorem ac5 {X : Cx} {K : ao0} (hK : X.K = K) (hu : X.A.units + 64 < cLine) : yn X (.builtin "sorted") (ac3 K) := hK ▸ ac4 hu
section
variable {K : ao0} {f : Fx} {ρ : zr} {P : List PyData -> Prop} {te : TE}
theorem ai7 (T : String) (h : PEd K f te ρ fun x => ∃ ds, x = .list ds /\ SortOk T ds /\ ds.length <= 1000 /\ (ds.length < 64 \/ ds.Pairwise fun d e => ltD d e = true) /\ ∀ es, es.Perm ds -> (es.Pairwise fun d e => ltD d e = true) -> P es) :
  PEdO K f (tCB (ac3 K) (yd te jS)) ρ P := fun σ H Q e q => h σ H _ e fun x v H1 g1 r1 ⟨ds, ex, ok, hl, few, p⟩ => by
 subst ex
 obtain ⟨a, xs, rfl, h1, h2⟩ := rep_list.mp r1
 refine ⟨a, xs, ds, T, rfl, (zl _ _).seq h1, Reps.mono (zl _ _) _ _ h2, ok, hl, few, fun l pm hn m u => ?_⟩
 have g2 : Goes f H1 (upd H1 l (.lst (pick .non pm xs))) := .of_same (zX hn _) g1.2
 refine q (pick .none pm ds) l _ _ (g1.trans g2) (g1.free e.fd hn) zy (Reps.mono (fun b o hb => ?_) _ _ (acq h2 pm)) (p _ (acr m rfl) (agz m u))
 have hb' := zP hb
 have hbl : b ≠ l := fun z => by
  have := hb'.2
  rw [z, hn] at this
  cases this
 refine zB (fun z => ?_) (by rw [zw hbl]; exact hb'.2)
 rcases z with z | z
 ·exact hb'.1 (.inl z)
 ·rcases ao7.mp z with z | z
  ·exact hbl z
  ·exact hb'.1 (.inr z)
end
end L2
end
section
namespace L2.ST
open PySem PySem.SetTable
def aem (xs : Array Nat) : Prop := ∀ i j, i < j -> j < xs.size -> xs.getD i 0 < xs.getD j 0
theorem ai8 {xs : Array Nat} {i d e : Nat} (h : i < xs.size) : xs.getD i d = xs.getD i e := by simp [aqX, h]
theorem abu {xs : Array Nat} {j : Nat} : ∀ f lo hi, hi - lo <= f -> lo <= hi -> hi <= xs.size -> (∀ i, i < lo -> xs.getD i 0 < j) -> (∀ i, hi <= i -> i < xs.size -> j <= xs.getD i 0) -> aem xs ->
  lo <= below.go xs j f lo hi /\ below.go xs j f lo hi <= hi /\ (∀ i, i < below.go xs j f lo hi -> xs.getD i 0 < j) /\ (∀ i, below.go xs j f lo hi <= i -> i < xs.size -> j <= xs.getD i 0)
 | 0, lo, hi, hf, hl, hh, a, b, r => by
  obtain rfl : lo = hi := by omega
  exact ⟨ao5 _, ao5 _, a, b⟩
 | f + 1, lo, hi, hf, hl, hh, a, b, r => by
  unfold below.go
  by_cases h : lo < hi
  ·rw [if_pos h]
   have hm : (lo + hi) / 2 < xs.size := by omega
   simp only
   rw [ai8 (e := 0) hm]
   by_cases h2 : xs.getD ((lo + hi) / 2) 0 < j
   ·rw [if_pos h2]
    have := abu f ((lo + hi) / 2 + 1) hi (by omega) (by omega) hh (fun i hi' => by
     by_cases e : i = (lo + hi) / 2
     ·rw [e]; exact h2
     ·exact as3 (r i _ (by omega) hm) h2) b r
    exact ⟨by omega, this.2.1, this.2.2⟩
   ·rw [if_neg h2]
    have := abu f lo ((lo + hi) / 2) (by omega) (by omega) (by omega) a (fun i hi' hs => by
     by_cases e : i = (lo + hi) / 2
     ·rw [e]; omega
     ·have := r ((lo + hi) / 2) i (by omega) hs; omega) r
    exact ⟨this.1, by omega, this.2.2⟩
  ·rw [if_neg h]
   obtain rfl : lo = hi := by omega
   exact ⟨ao5 _, ao5 _, a, b⟩
theorem aen {xs : Array Nat} (r : aem xs) (j : Nat) : below xs j <= xs.size /\ (∀ i, i < below xs j -> xs.getD i 0 < j) /\ (∀ i, below xs j <= i -> i < xs.size -> j <= xs.getD i 0) := by
 have := abu (xs := xs) (j := j) xs.size 0 xs.size (by omega) (apD _) (ao5 _) (fun i hi => absurd hi (aqj _)) (fun i a b => by omega) r
 exact this.2
theorem below_at {xs : Array Nat} (r : aem xs) {i : Nat} (hi : i < xs.size) : below xs (xs.getD i 0) = i := by
 obtain ⟨a, b, c⟩ := aen r (xs.getD i 0)
 by_cases h : below xs (xs.getD i 0) < i
 ·have h1 := c _ (ao5 _) (by omega)
  have h2 := r _ i h hi
  omega
 ·by_cases h2 : i < below xs (xs.getD i 0)
  ·have := b i h2; omega
  ·omega
def Tk (t : SetTable) (j : Nat) : Prop := ∃ i, i < t.place.size /\ t.place.getD i 0 = j
theorem slot_live {t : SetTable} (r : aem t.place) {i : Nat} (hi : i < t.place.size) : t.slot (t.place.getD i 0) = .live i := by
 unfold slot
 simp only
 rw [below_at r hi]
 have : (t.place[i]? == some (t.place.getD i 0)) = true := by simp [aqX, hi]
 rw [if_pos this]
theorem ahG {t : SetTable} (d : t.dummies = #[]) {j : Nat} (h : ¬ Tk t j) : t.slot j = .empty := by
 unfold slot
 simp only
 have h1 : ¬ (t.place[below t.place j]? == some j) = true := fun e => h (by
  have e2 := eq_of_beq e
  obtain ⟨hl, e3⟩ := Array.getElem?_eq_some_iff.mp e2
  exact ⟨_, hl, by simp [aqX, hl, e3]⟩)
 rw [if_neg h1]
 have h2 : has t.dummies j = false := by rw [d]; rfl
 rw [h2]
 rfl
def road (mask : Nat) (h : Int) : Nat -> Probe
 | 0 => { j := bits h % (mask + 1), more := runEnd mask (bits h % (mask + 1)) - bits h % (mask + 1), i := bits h % (mask + 1), perturb := bits h, dummy := none }
 | k + 1 => if (road mask h k).more > 0 then { road mask h k with j := (road mask h k).j + 1, more := (road mask h k).more - 1 } else
  { road mask h k with j := (leap mask (road mask h k).i (road mask h k).perturb).1, more := runEnd mask (leap mask (road mask h k).i (road mask h k).perturb).1 - (leap mask (road mask h k).i (road mask h k).perturb).1, i := (leap mask (road mask h k).i (road mask h k).perturb).1, perturb := (leap mask (road mask h k).i (road mask h k).perturb).2 }
theorem road_start (t : SetTable) (h : Int) : t.probeStart h = road t.mask h 0 := rfl
theorem vJ (mask : Nat) (h : Int) : ∀ k, (road mask h k).dummy = none
 | 0 => rfl
 | k + 1 => by
  unfold road
  split
  ·exact vJ mask h k
  ·exact vJ mask h k
abbrev pos (mask : Nat) (h : Int) (k : Nat) : Nat := (road mask h k).j
def lp (mask : Nat) (h : Int) : Nat -> Nat × Nat
 | 0 => (bits h % (mask + 1), bits h)
 | r + 1 => leap mask (lp mask h r).1 (lp mask h r).2
theorem aao (mask i : Nat) (h : i <= mask) : i <= runEnd mask i /\ runEnd mask i <= mask /\ runEnd mask i - i <= 9 := by
 unfold runEnd
 split <;> omega
theorem aeo (mask : Nat) (h : Int) : ∀ r, (lp mask h r).1 <= mask
 | 0 => arR.mp (Nat.mod_lt _ (arY _))
 | r + 1 => arR.mp (Nat.mod_lt _ (arY _))
def At (mask : Nat) (h : Int) (k r d : Nat) : Prop := d <= runEnd mask (lp mask h r).1 - (lp mask h r).1 /\ road mask h k = { j := (lp mask h r).1 + d, more := runEnd mask (lp mask h r).1 - (lp mask h r).1 - d, i := (lp mask h r).1, perturb := (lp mask h r).2, dummy := none }
theorem ac6 (mask : Nat) (h : Int) : At mask h 0 0 0 := ⟨apD _, rfl⟩
theorem agA {mask : Nat} {h : Int} {k r d : Nat} (a : At mask h k r d) (hd : d < runEnd mask (lp mask h r).1 - (lp mask h r).1) : At mask h (k + 1) r (d + 1) := by
 obtain ⟨a1, a2⟩ := a
 refine ⟨hd, ?_⟩
 unfold road
 rw [a2]
 simp only
 rw [if_pos (by omega)]
 simp only [Probe.mk.injEq, and_true]
 omega
theorem ac7 {mask : Nat} {h : Int} {k r d : Nat} (a : At mask h k r d) (hd : d = runEnd mask (lp mask h r).1 - (lp mask h r).1) : At mask h (k + 1) (r + 1) 0 := by
 obtain ⟨a1, a2⟩ := a
 refine ⟨apD _, ?_⟩
 unfold road
 rw [a2]
 simp only
 rw [if_neg (by omega)]
 rfl
theorem ac8 {mask : Nat} {h : Int} {k r : Nat} (a : At mask h k r 0) : ∀ d, d <= runEnd mask (lp mask h r).1 - (lp mask h r).1 -> At mask h (k + d) r d
 | 0, _ => a
 | d + 1, hd => agA (ac8 a d (by omega)) (by omega)
theorem aep (mask : Nat) (h : Int) : ∀ r, ∃ k, k <= 10 * r /\ At mask h k r 0
 | 0 => ⟨0, ao5 _, ac6 mask h⟩
 | r + 1 => by
  obtain ⟨k, hk, a⟩ := aep mask h r
  have := (aao mask _ (aeo mask h r)).2.2
  exact ⟨_, by omega, ac7 (ac8 a _ (ao5 _)) rfl⟩
theorem ai9 (mask : Nat) (h : Int) : ∀ k, ∃ r d, At mask h k r d
 | 0 => ⟨0, 0, ac6 mask h⟩
 | k + 1 => by
  obtain ⟨r, d, a⟩ := ai9 mask h k
  by_cases e : d < runEnd mask (lp mask h r).1 - (lp mask h r).1
  ·exact ⟨r, d + 1, agA a e⟩
  ·exact ⟨r + 1, 0, ac7 a (Nat.le_antisymm a.1 (by omega))⟩
theorem ac9 (mask : Nat) (h : Int) (k : Nat) : pos mask h k <= mask := by
 obtain ⟨r, d, a1, a2⟩ := ai9 mask h k
 unfold pos
 rw [a2]
 have := aao mask _ (aeo mask h r)
 show (lp mask h r).1 + d <= mask
 omega
def stp (m i : Nat) : Nat := (i * 5 + 1) % m
def itr (m : Nat) : Nat -> Nat -> Nat
 | 0, i => i
 | r + 1, i => stp m (itr m r i)
theorem vY (m : Nat) (a : Nat) : ∀ b i, itr m (a + b) i = itr m b (itr m a i)
 | 0, i => rfl
 | b + 1, i => by show stp m (itr m (a + b) i) = stp m (itr m b (itr m a i)); rw [vY m a b i]
def orb (m : Nat) : Nat -> Nat -> List Nat
 | 0, _ => []
 | f + 1, i => i :: orb m f (stp m i)
theorem aja (m : Nat) : ∀ f i r, r < f -> (orb m f i)[r]? = some (itr m r i)
 | 0, _, _, h => absurd h (aqj _)
 | f + 1, i, 0, _ => rfl
 | f + 1, i, r + 1, h => by
  show (orb m f (stp m i))[r]? = _
  rw [aja m f (stp m i) r (by omega), show r + 1 = 1 + r by omega, vY m 1 r i]
  rfl
def jA (m : Nat) : Bool := (apo m).all (fun j => (orb m m 0).contains j) && itr m m 0 == 0
theorem agB : jA 8 = true := by decide +kernel
theorem aeq : jA 32 = true := by decide +kernel
theorem acs : jA 128 = true := by decide +kernel
theorem acu : jA 512 = true := by decide +kernel
theorem ada (m : Nat) : ∀ f i, (orb m f i).length = f
 | 0, _ => rfl
 | f + 1, i => by show (orb m f (stp m i)).length + 1 = f + 1; rw [ada m f]
theorem aer {m : Nat} (h : jA m = true) {j : Nat} (hj : j < m) : ∃ r, r < m /\ itr m r 0 = j := by
 unfold jA at h
 rw [ao6] at h
 have := arK.mp h.1 j (apF.mpr hj)
 have hm : j ∈ orb m m 0 := by simpa using this
 obtain ⟨r, hr, e⟩ := aqR hm
 rw [ada] at hr
 have e2 := aja m m 0 r hr
 rw [aoX (by rw [ada]; exact hr), e] at e2
 exact ⟨r, hr, (Option.some.inj e2).symm⟩
theorem agC {m : Nat} (h : jA m = true) {i j : Nat} (hi : i < m) (hj : j < m) : ∃ r, r < m /\ itr m r i = j := by
 obtain ⟨a, ha, ea⟩ := aer h hi
 obtain ⟨b, hb, eb⟩ := aer h hj
 have e0 : itr m m 0 = 0 := by
  unfold jA at h
  rw [ao6] at h
  exact eq_of_beq h.2
 by_cases hab : a <= b
 ·exact ⟨b - a, by omega, by rw [<- ea, <- vY, show a + (b - a) = b by omega]; exact eb⟩
 ·refine ⟨m - a + b, by omega, ?_⟩
  rw [<- ea, <- vY, show a + (m - a + b) = m + b by omega, vY, e0]
  exact eb
theorem agD (mask : Nat) (h : Int) : ∀ r, (lp mask h r).2 = bits h / 32 ^ r
 | 0 => by simp [lp]
 | r + 1 => by
  show (lp mask h r).2 / 32 = _
  rw [agD mask h r, Nat.div_div_eq_div_mul, Nat.pow_succ]
theorem akN (h : Int) : bits h < 2 ^ 64 := by
 unfold bits
 have := aqA h (show (0 : Int) < 2 ^ 64 by decide)
 have := arS h (show (2 ^ 64 : Int) ≠ 0 by decide)
 omega
theorem akO (mask : Nat) (h : Int) (r : Nat) (hr : 13 <= r) : (lp mask h r).2 = 0 := by
 rw [agD]
 refine Nat.div_eq_of_lt (apr (akN h) ?_)
 exact apu (show 2 ^ 64 <= 32 ^ 13 by decide) (asP (by decide) hr)
theorem afw (mask : Nat) (h : Int) : ∀ r, (lp mask h (13 + r)).1 = itr (mask + 1) r (lp mask h 13).1
 | 0 => rfl
 | r + 1 => by
  show (leap mask (lp mask h (13 + r)).1 (lp mask h (13 + r)).2).1 = stp (mask + 1) (itr (mask + 1) r (lp mask h 13).1)
  rw [akO mask h (13 + r) (by omega), afw mask h r]
  rfl
theorem ajb {mask : Nat} (g : jA (mask + 1) = true) (h : Int) {j : Nat} (hj : j <= mask) : ∃ k, k < 10 * turns mask /\ pos mask h k = j := by
 obtain ⟨r, hr, e⟩ := agC g (i := (lp mask h 13).1) (j := j) (arx (aeo mask h 13)) (arx hj)
 obtain ⟨k, hk, a1, a2⟩ := aep mask h (13 + r)
 refine ⟨k, by unfold turns; omega, ?_⟩
 unfold pos
 rw [a2]
 show (lp mask h (13 + r)).1 + 0 = j
 rw [afw, e]
 rfl
end L2.ST
end
section
namespace L2.ST
open PySem PySem.SetTable
structure TB (t : SetTable) (hs : List Int) : Prop where
 mask : t.mask = 7 \/ t.mask = 31 \/ t.mask = 127 \/ t.mask = 511
 dum : t.dummies = #[]
 rise : aem t.place
 le : ∀ i, i < t.place.size -> t.place.getD i 0 <= t.mask
 size : t.place.size = hs.length
 most : hs.length <= t.mask
 reach : ∀ i, i < hs.length -> ∃ k, pos t.mask (hs.getD i 0) k = t.place.getD i 0 /\ ∀ k', k' < k -> Tk t (pos t.mask (hs.getD i 0) k')
structure TOk (t : SetTable) (hs : List Int) : Prop extends TB t hs where
 room : hs.length * 5 < t.mask * 3
theorem adb {t : SetTable} {hs : List Int} (o : TB t hs) : jA (t.mask + 1) = true := by
 rcases o.mask with e | e | e | e <;> rw [e]
 ·exact agB
 ·exact aeq
 ·exact acs
 ·exact acu
theorem ahH {t : SetTable} (r : aem t.place) (hs : t.place.size <= t.mask) : ∃ j, j <= t.mask /\ ¬ Tk t j := by
 refine apT fun no => ?_
 have all : ∀ j, j <= t.mask -> Tk t j := fun j hj => apT fun z => no ⟨j, hj, z⟩
 have up : ∀ j, j <= t.mask -> j <= below t.place j /\ below t.place j < t.place.size := fun j => by
  induction j with
  | zero =>
   intro hj
   obtain ⟨i, hi, e⟩ := all 0 hj
   have := below_at r hi
   rw [e] at this
   exact ⟨apD _, by omega⟩
  | succ j ih =>
   intro hj
   obtain ⟨i, hi, e⟩ := all (j + 1) hj
   obtain ⟨i', hi', e'⟩ := all j (by omega)
   have b1 := below_at r hi
   have b2 := below_at r hi'
   rw [e] at b1
   rw [e'] at b2
   have lt : i' < i := by
    by_cases h : i' < i
    ·exact h
    ·by_cases h2 : i' = i
     ·subst h2; omega
     ·have := r i i' (by omega) hi'; omega
   have := ih (by omega)
   omega
 have := up t.mask (ao5 _)
 omega
structure First (t : SetTable) (h : Int) (E : Nat) : Prop where
 lt : E < 10 * turns t.mask
 free : ¬ Tk t (pos t.mask h E)
 ahead : ∀ k, k < E -> Tk t (pos t.mask h k)
theorem least {p : Nat -> Prop} : ∀ n, p n -> ∃ m, m <= n /\ p m /\ ∀ k, k < m -> ¬ p k := fun n => by
 induction n using Nat.strongRecOn with
 | ind n ih =>
  intro h
  by_cases q : ∃ k, k < n /\ p k
  ·obtain ⟨k, hk, pk⟩ := q
   obtain ⟨m, a, b⟩ := ih k hk pk
   exact ⟨m, by omega, b⟩
  ·exact ⟨n, ao5 _, h, fun k hk z => q ⟨k, hk, z⟩⟩
theorem ahI {t : SetTable} (g : jA (t.mask + 1) = true) (r : aem t.place) (hs : t.place.size <= t.mask) (h : Int) : ∃ E, First t h E := by
 obtain ⟨j, hj, nj⟩ := ahH r hs
 obtain ⟨k, hk, e⟩ := ajb g h hj
 obtain ⟨m, a, b, c⟩ := least (p := fun k => ¬ Tk t (pos t.mask h k)) k (by show ¬ Tk t (pos t.mask h k); rw [e]; exact nj)
 exact ⟨m, by omega, b, fun q hq => apT (c q hq)⟩
theorem first_of {t : SetTable} {hs : List Int} (o : TB t hs) (h : Int) : ∃ E, First t h E := ahI (adb o) o.rise (by have := o.size; have := o.most; omega) h
theorem probe_go {t : SetTable} (d : t.dummies = #[]) (r : aem t.place) {hashAt : Nat -> Int} {h : Int} {E : Nat} (F : First t h E) : ∀ f k, k <= E -> E < k + f ->
  (probe.go t hashAt h f (road t.mask h k) = some (.empty (pos t.mask h E) none) /\ ∀ q i, k <= q -> q < E -> i < t.place.size -> pos t.mask h q = t.place.getD i 0 -> hashAt i ≠ h) \/
  ∃ q i, k <= q /\ q < E /\ i < t.place.size /\ pos t.mask h q = t.place.getD i 0 /\ hashAt i = h /\ probe.go t hashAt h f (road t.mask h k) = some (.candidate (pos t.mask h q) i (road t.mask h (q + 1))) /\ ∀ q' i', k <= q' -> q' < q -> i' < t.place.size -> pos t.mask h q' = t.place.getD i' 0 -> hashAt i' ≠ h
 | 0, k, h1, h2 => by omega
 | f + 1, k, h1, h2 => by
  unfold probe.go
  by_cases e : k = E
  ·subst e
   refine .inl ⟨?_, fun q i a b => by omega⟩
   rw [ahG d F.free]
   show some (Met.empty _ _) = _
   rw [vJ]
  ·obtain ⟨i, hi, ei⟩ := F.ahead k (by omega)
   have sl : t.slot (road t.mask h k).j = .live i := by
    have := slot_live r hi
    rw [ei] at this
    exact this
   rw [sl]
   show (if (hashAt i == h) = true then _ else _ : Option Met) = _ /\ _ \/ _
   have uniq : ∀ i', i' < t.place.size -> pos t.mask h k = t.place.getD i' 0 -> i' = i := fun i' hi' e' => by
    have b1 := below_at r hi
    have b2 := below_at r hi'
    rw [ei] at b1
    rw [<- e'] at b2
    omega
   by_cases hh : (hashAt i == h) = true
   ·rw [if_pos hh]
    refine .inr ⟨k, i, ao5 _, by omega, hi, ei.symm, eq_of_beq hh, ?_, fun q' i' a b => by omega⟩
    show (if (hashAt i == h) = true then _ else _ : Option Met) = _
    rw [if_pos hh]
    rfl
   ·rw [if_neg hh]
    have hne : hashAt i ≠ h := fun z => hh (by rw [z]; exact beq_self_eq_true _)
    rcases probe_go d r (hashAt := hashAt) F f (k + 1) (by omega) (by omega) with ⟨a, b⟩ | ⟨q, i2, a1, a2, a3, a4, a5, a6, a7⟩
    ·refine .inl ⟨a, fun q i' c1 c2 c3 c4 => ?_⟩
     by_cases eq : q = k
     ·subst eq; rw [uniq i' c3 c4]; exact hne
     ·exact b q i' (by omega) c2 c3 c4
    ·refine .inr ⟨q, i2, by omega, a2, a3, a4, a5, ?_, fun q' i' c1 c2 c3 c4 => ?_⟩
     ·show (if (hashAt i == h) = true then _ else _ : Option Met) = _
      rw [if_neg hh]
      exact a6
     ·by_cases eq : q' = k
      ·subst eq; rw [uniq i' c3 c4]; exact hne
      ·exact a7 q' i' (by omega) c2 c3 c4
end L2.ST
end
section
namespace L2.ST
open PySem PySem.SetTable
theorem vZ {α : Type} (xs : Array α) (i : Nat) (d : α) : xs.getD i d = xs.toList.getD i d := by
 by_cases h : i < xs.size <;> simp [aqX, h, List.getD]
theorem aes {α : Type} (l : List α) (p : Nat) (x d : α) (hp : p <= l.length) (i : Nat) : (l.take p ++ x :: l.drop p).getD i d = if i < p then l.getD i d else if i = p then x else l.getD (i - 1) d := by
 have lt : (l.take p).length = p := by rw [apP]; omega
 by_cases h1 : i < p
 ·rw [if_pos h1, ao2, ape (by omega), aqM h1, ao2]
 ·rw [if_neg h1, ao2, apl (by omega), lt]
  by_cases h2 : i = p
  ·rw [if_pos h2, h2, aq7]
   rfl
  ·rw [if_neg h2, show i - p = (i - p - 1) + 1 by omega, List.getElem?_cons_succ, List.getElem?_drop, show p + (i - p - 1) = i - 1 by omega, ao2]
section
variable {t : SetTable} {hs : List Int} {h : Int} {E : Nat}
theorem put_tb (o : TB t hs) (F : First t h E) (more : hs.length + 1 <= t.mask) : below t.place (pos t.mask h E) <= hs.length /\ TB (t.put (pos t.mask h E)).1 (hs.take (below t.place (pos t.mask h E)) ++ h :: hs.drop (below t.place (pos t.mask h E))) := by
 obtain ⟨b1, b2, b3⟩ := aen o.rise (pos t.mask h E)
 have sz := o.size
 generalize hp : below t.place (pos t.mask h E) = p at *
 have hpl : p <= t.place.toList.length := by rw [apg]; exact b1
 have pl : ∀ i, (t.put (pos t.mask h E)).1.place.getD i 0 = if i < p then t.place.getD i 0 else if i = p then pos t.mask h E else t.place.getD (i - 1) 0 := fun i => by
  show (insertAt t.place (below t.place (pos t.mask h E)) (pos t.mask h E)).getD i 0 = _
  rw [hp, vZ, arh, aes _ _ _ _ hpl, vZ, vZ]
 have psz : (t.put (pos t.mask h E)).1.place.size = t.place.size + 1 := by
  show (insertAt t.place (below t.place (pos t.mask h E)) (pos t.mask h E)).size = _
  rw [<- apg, arh, hp, aph, apn, apP, List.length_drop, apg]
  omega
 have ne : ∀ i, i < t.place.size -> t.place.getD i 0 ≠ pos t.mask h E := fun i hi e => F.free ⟨i, hi, e⟩
 have b3' : ∀ i, p <= i -> i < t.place.size -> pos t.mask h E < t.place.getD i 0 := fun i a b => by
  have := b3 i a b
  have := ne i b
  omega
 have hm : (t.put (pos t.mask h E)).1.mask = t.mask := rfl
 have tk : ∀ j, Tk t j -> Tk (t.put (pos t.mask h E)).1 j := fun j ⟨i, hi, e⟩ => by
  by_cases q : i < p
  ·exact ⟨i, by omega, by rw [pl, if_pos q]; exact e⟩
  ·exact ⟨i + 1, by omega, by rw [pl, if_neg (by omega), if_neg (by omega), Nat.add_sub_cancel]; exact e⟩
 have hl : ∀ i, (hs.take p ++ h :: hs.drop p).getD i 0 = if i < p then hs.getD i 0 else if i = p then h else hs.getD (i - 1) 0 := fun i => aes hs p h 0 (by omega) i
 have ln : (hs.take p ++ h :: hs.drop p).length = hs.length + 1 := by
  rw [aph, apn, apP, List.length_drop]
  omega
 refine ⟨by omega, ⟨o.mask, ?_, fun i j hij hj => ?_, fun i hi => ?_, by rw [psz, ln, sz], by rw [ln, hm]; exact more, fun i hi => ?_⟩⟩
 ·show (if has t.dummies (pos t.mask h E) = true then _ else t.dummies) = #[]
  rw [o.dum]
  rfl
 ·rw [pl, pl]
  rw [psz] at hj
  by_cases c1 : i < p
  ·rw [if_pos c1]
   by_cases c2 : j < p
   ·rw [if_pos c2]; exact o.rise i j hij (by omega)
   ·rw [if_neg c2]
    by_cases c3 : j = p
    ·rw [if_pos c3]; exact b2 i c1
    ·rw [if_neg c3]; exact o.rise i (j - 1) (by omega) (by omega)
  ·rw [if_neg c1, if_neg (show ¬ j < p by omega)]
   by_cases c3 : i = p
   ·rw [if_pos c3, if_neg (by omega)]; exact b3' (j - 1) (by omega) (by omega)
   ·rw [if_neg c3, if_neg (by omega)]; exact o.rise (i - 1) (j - 1) (by omega) (by omega)
 ·rw [pl, hm]
  rw [psz] at hi
  by_cases c1 : i < p
  ·rw [if_pos c1]; exact o.le i (by omega)
  ·rw [if_neg c1]
   by_cases c3 : i = p
   ·rw [if_pos c3]; exact ac9 _ _ _
   ·rw [if_neg c3]; exact o.le (i - 1) (by omega)
 ·rw [hl, pl, hm]
  rw [ln] at hi
  by_cases c1 : i < p
  ·rw [if_pos c1, if_pos c1]
   obtain ⟨k, e, a⟩ := o.reach i (by omega)
   exact ⟨k, e, fun k' hk => tk _ (a k' hk)⟩
  ·rw [if_neg c1, if_neg c1]
   by_cases c3 : i = p
   ·rw [if_pos c3, if_pos c3]
    exact ⟨E, rfl, fun k' hk => tk _ (F.ahead k' hk)⟩
   ·rw [if_neg c3, if_neg c3]
    obtain ⟨k, e, a⟩ := o.reach (i - 1) (by omega)
    exact ⟨k, e, fun k' hk => tk _ (a k' hk)⟩
end
def Occ (ow : Array (Option Nat)) (j : Nat) : Prop := ow.getD j (some 0) ≠ none
theorem agE {mask : Nat} {ow : Array (Option Nat)} {h : Int} : ∀ f r k, At mask h k r 0 -> (∃ r', r <= r' /\ r' < r + f /\ ¬ Occ ow (lp mask h r').1) ->
  ∃ E, k <= E /\ (∀ q, k <= q -> q < E -> Occ ow (pos mask h q)) /\ ¬ Occ ow (pos mask h E) /\ layClean.free mask ow f (lp mask h r).1 (lp mask h r).2 = some (pos mask h E)
 | 0, r, k, a, ⟨r', h1, h2, _⟩ => by omega
 | f + 1, r, k, a, ⟨r', h1, h2, h3⟩ => by
  have re := aao mask _ (aeo mask h r)
  have at_ : ∀ d, d <= runEnd mask (lp mask h r).1 - (lp mask h r).1 -> pos mask h (k + d) = (lp mask h r).1 + d := fun d hd => by
   have := (ac8 a d hd).2
   unfold pos
   rw [this]
  unfold layClean.free
  cases hf : (apo (runEnd mask (lp mask h r).1 + 1 - (lp mask h r).1)).find? fun k => (ow.getD ((lp mask h r).1 + k) (some 0)).isNone with
  | some d =>
   have hm := List.mem_of_find?_eq_some hf
   have hd := apF.mp hm
   have hs := List.find?_some hf
   have bef : ∀ d', d' < d -> ¬ (ow.getD ((lp mask h r).1 + d') (some 0)).isNone = true := fun d' hd' => by
    obtain ⟨_, as, bs, e, al⟩ := List.find?_eq_some_iff_append.mp hf
    have : as = apo d := by
     have l1 : (apo (runEnd mask (lp mask h r).1 + 1 - (lp mask h r).1))[as.length]? = some d := by
      rw [e, apl (ao5 _), aq7]
      rfl
     have lt : as.length < runEnd mask (lp mask h r).1 + 1 - (lp mask h r).1 := by
      have := congrArg List.length e
      simp at this
      omega
     rw [aqt lt] at l1
     have el : as.length = d := Option.some.inj l1
     have : as = (apo (runEnd mask (lp mask h r).1 + 1 - (lp mask h r).1)).take as.length := by
      rw [e, List.take_append_of_le_length (ao5 _), apM]
     rw [this, List.take_range, Nat.min_eq_left (by omega), el]
    have al2 := al d' (by rw [this]; exact apF.mpr hd')
    intro z
    have z2 : (!(ow.getD ((lp mask h r).1 + d') (some 0)).isNone) = true := al2
    rw [z] at z2
    cases z2
   refine ⟨k + d, by omega, fun q hq1 hq2 => ?_, ?_, ?_⟩
   ·have := bef (q - k) (by omega)
    rw [show q = k + (q - k) by omega, at_ (q - k) (by omega)]
    intro z
    rw [z] at this
    exact this rfl
   ·rw [at_ d (by omega)]
    intro z
    have hs' : (ow.getD ((lp mask h r).1 + d) (some 0)).isNone = true := hs
    exact z (Option.isNone_iff_eq_none.mp hs')
   ·rw [at_ d (by omega)]
  | none =>
   have all : ∀ d, d < runEnd mask (lp mask h r).1 + 1 - (lp mask h r).1 -> Occ ow ((lp mask h r).1 + d) := fun d hd z => by
    have := ar2.mp hf d (apF.mpr hd)
    simp [z] at this
   have ne : r' ≠ r := fun z => by
    rw [z] at h3
    exact h3 (by have := all 0 (by omega); rwa [Nat.add_zero] at this)
   have a2 := ac7 (ac8 a _ (ao5 _)) rfl
   obtain ⟨E, e1, e2, e3, e4⟩ := agE f (r + 1) _ a2 ⟨r', by omega, by omega, h3⟩
   refine ⟨E, by omega, fun q hq1 hq2 => ?_, e3, e4⟩
   by_cases hq : q < k + (runEnd mask (lp mask h r).1 - (lp mask h r).1) + 1
   ·rw [show q = k + (q - k) by omega, at_ (q - k) (by omega)]
    exact all _ (by omega)
   ·exact e2 q (by omega) hq2
end L2.ST
end
section
namespace L2.ST
open PySem PySem.SetTable
structure OwnT (mask : Nat) (ow : Array (Option Nat)) (hs : List Int) (sl : List Nat) : Prop where
 size : ow.size = mask + 1
 len : sl.length = hs.length
 nd : sl.Nodup
 le : ∀ j ∈ sl, j <= mask
 own : ∀ j, j <= mask -> ∀ i, ow.getD j none = some i ↔ sl[i]? = some j
 reach : ∀ i, i < hs.length -> ∃ q, pos mask (hs.getD i 0) q = sl.getD i 0 /\ ∀ q', q' < q -> pos mask (hs.getD i 0) q' ∈ sl
theorem OwnT.occ {mask : Nat} {ow : Array (Option Nat)} {hs : List Int} {sl : List Nat} (o : OwnT mask ow hs sl) {j : Nat} (hj : j <= mask) : Occ ow j ↔ j ∈ sl := by
 have hs' : j < ow.size := by rw [o.size]; omega
 have e : ow.getD j (some 0) = ow.getD j none := by simp [aqX, hs']
 unfold Occ
 rw [e]
 constructor
 ·intro h
  obtain ⟨i, hi⟩ := Option.ne_none_iff_exists'.mp h
  exact apc ((o.own j hj i).mp hi)
 ·intro h z
  obtain ⟨i, hi, e2⟩ := aqR h
  have := (o.own j hj i).mpr (by rw [aoX hi, e2])
  rw [z] at this
  cases this
def agF (mask : Nat) : Option (Array (Option Nat) × Nat) -> Int -> Option (Array (Option Nat) × Nat) := fun acc h => do
  let (owner, k) <- acc
  let j <- layClean.free mask owner (turns mask) (bits h % (mask + 1)) (bits h)
  pure (owner.setIfInBounds j (some k), k + 1)
theorem ajc {mask : Nat} (g : jA (mask + 1) = true) {ow : Array (Option Nat)} {hs : List Int} {sl : List Nat} (o : OwnT mask ow hs sl) (hm : hs.length <= mask) (h : Int) :
  ∃ ow' sl', agF mask (some (ow, hs.length)) h = some (ow', hs.length + 1) /\ OwnT mask ow' (hs ++ [h]) sl' := by
 obtain ⟨j, hj, nj⟩ : ∃ j, j <= mask /\ j ∉ sl := by
  refine apT fun no => ?_
  have sub : apo (mask + 1) ⊆ sl := fun j hj => apT fun z => no ⟨j, arR.mp (apF.mp hj), z⟩
  have := List.Nodup.length_le_of_subset asw sub
  rw [ap2, o.len] at this
  omega
 obtain ⟨r, hr, e⟩ := agC g (i := (lp mask h 13).1) (j := j) (arx (aeo mask h 13)) (arx hj)
 obtain ⟨E, _, e2, e3, e4⟩ := agE (ow := ow) (turns mask) 0 0 (ac6 mask h) ⟨13 + r, apD _, by unfold turns; omega, by rw [afw, e, o.occ hj]; exact nj⟩
 have e3' : pos mask h E ∉ sl := fun z => e3 ((o.occ (ac9 mask h E)).mpr z)
 have e2' : ∀ q, q < E -> pos mask h q ∈ sl := fun q hq => (o.occ (ac9 mask h q)).mp (e2 q (apD _) hq)
 have e4' : layClean.free mask ow (turns mask) (bits h % (mask + 1)) (bits h) = some (pos mask h E) := e4
 refine ⟨ow.setIfInBounds (pos mask h E) (some hs.length), sl ++ [pos mask h E], ?_, ?_⟩
 ·show (layClean.free mask ow (turns mask) (bits h % (mask + 1)) (bits h) >>= fun j => pure (ow.setIfInBounds j (some hs.length), hs.length + 1)) = _
  rw [e4']
  rfl
 ·have ls : ∀ i, (sl ++ [pos mask h E])[i]? = if i < sl.length then sl[i]? else if i = sl.length then some (pos mask h E) else none := fun i => by
   by_cases c : i < sl.length
   ·rw [if_pos c, ape c]
   ·rw [if_neg c, apl (by omega)]
    by_cases c2 : i = sl.length
    ·rw [if_pos c2, c2, aq7]; rfl
    ·rw [if_neg c2]; exact apy (by simp; omega)
  refine ⟨by rw [Array.size_setIfInBounds]; exact o.size, by simp [o.len], ?_, fun j hj => ?_, fun j hj i => ?_, fun i hi => ?_⟩
  ·rw [ap3]
   refine ⟨o.nd, by simp, fun a ha b hb => ?_⟩
   rw [apd.mp hb]
   intro z
   rw [z] at ha
   exact e3' ha
  ·rcases apj.mp hj with hj | hj
   ·exact o.le j hj
   ·rw [apd.mp hj]; exact ac9 _ _ _
  ·have hsz : j < ow.size := by rw [o.size]; omega
   rw [ls]
   by_cases c : j = pos mask h E
   ·subst c
    have : (ow.setIfInBounds (pos mask h E) (some hs.length)).getD (pos mask h E) none = some hs.length := by simp [aqX, hsz]
    rw [this]
    constructor
    ·intro z
     have z' : hs.length = i := Option.some.inj z
     rw [if_neg (by rw [o.len]; omega), if_pos (by rw [o.len]; omega)]
    ·intro z
     by_cases c2 : i < sl.length
     ·rw [if_pos c2] at z
      exact absurd (apc z) e3'
     ·rw [if_neg c2] at z
      by_cases c3 : i = sl.length
      ·rw [c3, o.len]
      ·rw [if_neg c3] at z; cases z
   ·have : (ow.setIfInBounds (pos mask h E) (some hs.length)).getD j none = ow.getD j none := by
     rw [aqv, aqv, arF (aqa c)]
    rw [this, o.own j hj i]
    by_cases c2 : i < sl.length
    ·rw [if_pos c2]
    ·rw [if_neg c2]
     constructor
     ·intro z
      rw [apy (by omega)] at z
      cases z
     ·intro z
      by_cases c3 : i = sl.length
      ·rw [if_pos c3] at z
       exact absurd (Option.some.inj z).symm c
      ·rw [if_neg c3] at z; cases z
  ·have gl : ∀ i, (hs ++ [h]).getD i 0 = if i < hs.length then hs.getD i 0 else if i = hs.length then h else 0 := fun i => by
    by_cases c : i < hs.length
    ·rw [if_pos c, ao2, ape c, ao2]
    ·rw [if_neg c, ao2, apl (by omega)]
     by_cases c2 : i = hs.length
     ·rw [if_pos c2, c2, aq7]; rfl
     ·rw [if_neg c2, apy (by simp; omega)]; rfl
   rw [aph, apO] at hi
   have gs : (sl ++ [pos mask h E]).getD i 0 = ((sl ++ [pos mask h E])[i]?).getD 0 := ao2 ..
   rw [gl, gs, ls]
   by_cases c : i < hs.length
   ·rw [if_pos c, if_pos (by rw [o.len]; exact c)]
    obtain ⟨q, a, b⟩ := o.reach i c
    exact ⟨q, by rw [<- ao2]; exact a, fun q' hq => apx _ (b q' hq)⟩
   ·rw [if_neg c, if_pos (by omega), if_neg (by rw [o.len]; omega), if_pos (by rw [o.len]; omega)]
    exact ⟨E, rfl, fun q' hq => apx _ (e2' q' hq)⟩
theorem agG {mask : Nat} (g : jA (mask + 1) = true) : ∀ (l : List Int) (ow : Array (Option Nat)) (hs : List Int) (sl : List Nat), OwnT mask ow hs sl -> hs.length + l.length <= mask + 1 ->
  ∃ ow' sl', l.foldl (agF mask) (some (ow, hs.length)) = some (ow', hs.length + l.length) /\ OwnT mask ow' (hs ++ l) sl'
 | [], ow, hs, sl, o, _ => ⟨ow, sl, rfl, by rw [apC]; exact o⟩
 | h :: l, ow, hs, sl, o, hm => by
  rw [apn] at hm
  obtain ⟨ow1, sl1, e1, o1⟩ := ajc g o (by omega) h
  obtain ⟨ow2, sl2, e2, o2⟩ := agG g l ow1 (hs ++ [h]) sl1 o1 (by rw [aph, apO]; omega)
  refine ⟨ow2, sl2, ?_, by rw [aqf] at o2; exact o2⟩
  rw [List.foldl_cons, e1]
  rw [aph, apO] at e2
  rw [e2, apn, asp, Nat.add_comm 1]
theorem akP (mask : Nat) : OwnT mask (arT (mask + 1) none) [] [] where
 size := by simp
 len := rfl
 nd := .nil
 le := fun _ h => nomatch h
 own := fun j hj i => by
  have : (arT (mask + 1) (none : Option Nat)).getD j none = none := by simp [aqX]
  rw [this]
  constructor <;> intro z <;> cases z
 reach := fun i hi => absurd hi (aqj _)
theorem ajd {mask : Nat} (g : jA (mask + 1) = true) (hs : Array Int) (hm : hs.size <= mask + 1) : ∃ ow sl, layClean mask hs = some ow /\ OwnT mask ow hs.toList sl := by
 obtain ⟨ow, sl, e, o⟩ := agG g hs.toList _ [] [] (akP mask) (by simpa using hm)
 refine ⟨ow, sl, ?_, by simpa using o⟩
 unfold layClean
 rw [<- Array.foldl_toList]
 have : hs.toList.foldl (agF mask) (some (arT (mask + 1) none, 0)) = some (ow, 0 + hs.toList.length) := e
 show Option.map _ (hs.toList.foldl (agF mask) (some (arT (mask + 1) none, 0))) = _
 rw [this]
 rfl
theorem laid_ok {mask : Nat} (mk : mask = 7 \/ mask = 31 \/ mask = 127 \/ mask = 511) (hs : Array Int) (hm : hs.size <= mask) (finger moves : Nat) (led plain : Bool) :
  ∃ t ord, laid mask finger moves led plain hs = some (t, ord) /\ t.mask = mask /\ t.plain = plain /\ t.led = led /\ ord.toList.Perm (apo hs.size) /\ TB t (ord.toList.map fun i => hs.toList.getD i 0) := by
 have g : jA (mask + 1) = true := by
  rcases mk with rfl | rfl | rfl | rfl
  ·exact agB
  ·exact aeq
  ·exact acs
  ·exact acu
 obtain ⟨ow, sl, e, o⟩ := ajd g hs (by omega)
 let live := (apo (mask + 1)).filterMap fun j => (ow.getD j none).map (j, ·)
 have mem : ∀ p : Nat × Nat, p ∈ live ↔ p.1 <= mask /\ sl[p.2]? = some p.1 := fun ⟨j, i⟩ => by
  show (j, i) ∈ List.filterMap _ _ ↔ _
  rw [arl]
  constructor
  ·rintro ⟨j', hj, e⟩
   have hj' := arR.mp (apF.mp hj)
   cases e2 : ow.getD j' none with
   | none => rw [e2] at e; cases e
   | some i' =>
    rw [e2] at e
    cases e
    exact ⟨hj', (o.own _ hj' _).mp e2⟩
  ·rintro ⟨h1, h2⟩
   refine ⟨j, apF.mpr (by omega), ?_⟩
   rw [(o.own j h1 i).mpr h2]
   rfl
 have up : (live.map (·.1)).Pairwise (· < ·) := by
  rw [ap7]
  show (List.filterMap _ _).Pairwise _
  rw [List.pairwise_filterMap]
  refine asC.imp fun {a b} hab p hp q hq => ?_
  cases e1 : ow.getD a none with
  | none => rw [e1] at hp; cases hp
  | some i =>
   cases e2 : ow.getD b none with
   | none => rw [e2] at hq; cases hq
   | some i2 =>
    rw [e1] at hp
    rw [e2] at hq
    cases hp
    cases hq
    exact hab
 have nd2 : (live.map (·.2)).Nodup := by
  show List.Pairwise _ _
  rw [ap7]
  have u2 := ap7.mp up
  refine u2.imp_of_mem fun {p q} hp hq hlt hz => ?_
  have a1 := ((mem p).mp hp).2
  have a2 := ((mem q).mp hq).2
  rw [hz, a2] at a1
  have := Option.some.inj a1
  omega
 have pm : (live.map (·.2)).Perm (apo hs.size) := by
  refine (List.perm_ext_iff_of_nodup nd2 asw).mpr fun i => ?_
  have ls : sl.length = hs.size := by rw [o.len, apg]
  constructor
  ·intro hi
   obtain ⟨p, hp, rfl⟩ := apm.mp hi
   have := (ao1.mp ((mem p).mp hp).2).1
   exact apF.mpr (by omega)
  ·intro hi
   have hi' := apF.mp hi
   have hl : i < sl.length := by omega
   exact apm.mpr ⟨(sl[i], i), (mem _).mpr ⟨o.le _ (apz hl), aoX hl⟩, rfl⟩
 refine ⟨_, _, by unfold laid; rw [e]; rfl, rfl, rfl, rfl, pm, ?_⟩
 have ln : live.length = hs.size := by have := pm.length_eq; rwa [aoZ, ap2] at this
 have tk : ∀ j, j ∈ sl -> ∃ i, i < live.length /\ (live.map (·.1)).getD i 0 = j := fun j hj => by
  obtain ⟨i, hi, e2⟩ := aqR hj
  have : (j, i) ∈ live := (mem _).mpr ⟨o.le j hj, by rw [aoX hi, e2]⟩
  obtain ⟨q, hq, e3⟩ := aqR this
  exact ⟨q, hq, by rw [ao2, ao8, aoX hq, e3]; rfl⟩
 have gd : ∀ i, (live.map (·.1)).toArray.getD i 0 = (live.map (·.1)).getD i 0 := fun i => by rw [vZ]
 refine ⟨mk, rfl, fun i j hij hj => ?_, fun i hi => ?_, ?_, ?_, fun i hi => ?_⟩
 ·show (live.map (·.1)).toArray.getD i 0 < (live.map (·.1)).toArray.getD j 0
  have hj' : j < (live.map (·.1)).length := by
   have h2 : j < (live.map (·.1)).toArray.size := hj
   rwa [apk] at h2
  rw [gd, gd, ao2, ao2, aoX hj', aoX (show i < (live.map (·.1)).length by omega)]
  exact aqF.mp up i j (by omega) hj' hij
 ·show (live.map (·.1)).toArray.getD i 0 <= mask
  have hi' : i < (live.map (·.1)).length := by
   have h2 : i < (live.map (·.1)).toArray.size := hi
   rwa [apk] at h2
  rw [gd, ao2, aoX hi']
  obtain ⟨p, hp, e2⟩ := apm.mp (apz hi')
  show (live.map (·.1))[i] <= mask
  rw [<- e2]
  exact ((mem p).mp hp).1
 ·show (live.map (·.1)).toArray.size = _
  simp
 ·show (asx _ (live.map (·.2))).length <= mask
  rw [aoZ, aoZ, ln]
  exact hm
 ·have hi' : i < live.length := by
   have hi2 : i < (asx (fun i => hs.toList.getD i 0) (live.map (·.2))).length := hi
   rwa [aoZ, aoZ] at hi2
  have pl : (live.map (·.1)).toArray.getD i 0 = live[i].1 := by
   rw [gd, ao2, ao8, aoX hi']
   rfl
  have hh : (asx (fun i => hs.toList.getD i 0) (live.map (·.2))).getD i 0 = hs.toList.getD live[i].2 0 := by
   rw [ao2, ao8, ao8, aoX hi']
   rfl
  have m2 := (mem live[i]).mp (apz hi')
  have l2 := (ao1.mp m2.2).1
  obtain ⟨q, a, b⟩ := o.reach live[i].2 (by rw [<- o.len]; exact l2)
  refine ⟨q, ?_, fun q' hq => ?_⟩
  ·show pos mask ((asx (fun i => hs.toList.getD i 0) (live.map (·.2))).getD i 0) q = (live.map (·.1)).toArray.getD i 0
   rw [hh, pl, a, ao2, m2.2]
   rfl
  ·show Tk _ (pos mask ((asx (fun i => hs.toList.getD i 0) (live.map (·.2))).getD i 0) q')
   rw [hh]
   obtain ⟨z, hz, ez⟩ := tk _ (b q' hq)
   exact ⟨z, by show z < (live.map (·.1)).toArray.size; simpa using hz, by show (live.map (·.1)).toArray.getD z 0 = _; rw [gd]; exact ez⟩
end L2.ST
end
section
namespace L2
open PySem PySem.Spec PyProof.Rows
mutual
def zv (w : World) : PyData -> Int
 | .int i => hashInt i
 | .str x => hashStr w x
 | .tuple xs => reduceHash (aqG (qE w xs))
 | _ => 0
def qE (w : World) : List PyData -> List Int
 | [] => []
 | x :: xs => zv w x :: qE w xs
end
mutual
def z5 : PyData -> Nat
 | .int _ => 1
 | .str _ => 1
 | .tuple xs => abv xs + 1
 | _ => 0
def abv : List PyData -> Nat
 | [] => 0
 | x :: xs => z5 x + abv xs
end
mutual
theorem abw {P : Program} {w : World} : ∀ (d : PyData) (A : Around) (s : Shared) (v : Value) (as : List Addr) (E : Value -> Shared -> Prop) (Q : Int -> Shared -> Prop), Reads s.heap v d as -> zA d = true -> A.units + 4 * d.depth < cLine ->
  Q (zv w d) { s with toks := s.toks + z5 d } -> wpAny (model P w) A (pyHash v) Q E s
 | .int i, A, s, _, _, E, Q, r, _, _, q => by
  cases r
  rw [zv, z5] at q
  exact wpAny_pyHash_int q
 | .str x, A, s, _, _, E, Q, r, _, _, q => by
  cases r
  rw [zv, z5] at q
  exact wpAny_pyHash_str q
 | .tuple xs, A, s, _, _, E, Q, r, p, hu, q => by
  cases r with
  | @tuple a o vs n _ as h1 h2 h3 h4 =>
   rw [zA] at p
   rw [zv, z5] at q
   have hT : s.TypeIs (.ref a) "tuple" := ⟨o, h1, h2⟩
   have e1 : (PyData.tuple xs).depth = ao9 xs + 1 := rfl
   rw [e1] at hu
   show wpAny _ A (pyHashByItsType (.ref a)) Q E s
   unfold pyHashByItsType
   apply wpAny_bind; apply wpAny_cRoomFor_or (.inr (by omega))
   apply wpAny_bind; apply wpAny_specialOf hT aqq.lookup
   show wpAny _ _ (if (some (Value.builtin "tuple.__hash__") == some Value.none) = true then _ else _) Q E s
   rw [if_neg (by rw [beq_builtin_none]; exact aoY)]
   apply wpAny_bind; apply wpAny_specialOf hT aqq.lookup
   show wpAny _ _ (callSpecialIfBoundUnlessNone? (.ref a) "__hash__" _ >>= _) Q E s
   apply wpAny_bind
   refine wpAny_callSpecialIfBoundUnlessNone?_slot hT aqq (wpAny_call_entry aqq hT PySem.F.entry_tuple_hash ?_ (PySem.F.args_tuple_hash_1 _))
   show wpAny _ _ (Builtin.Tuple.tupleItemsOf (.ref a) >>= _) _ _ s
   apply wpAny_bind; apply wpAny_tupleItemsOf h1 h3
   apply wpAny_bind
   rw [<- arn]
   have hu1 : A.in1.units = A.units + 1 := rfl
   refine abx xs A.in1 s vs.toList _ #[] _ _ h4 p (by omega) ?_
   simp only [apC, List.nil_append]
   show wpAny _ _ (retInt (aqG (#[] ++ (qE w xs).toArray).toList)) _ _ _
   rw [show (#[] ++ (qE w xs).toArray : Array Int).toList = qE w xs by simp]
   refine wpAny_ret_mkInt ?_
   show wpAny _ _ (pyHashByItsType.reduced _) Q E _
   unfold reduceHash at q
   unfold pyHashByItsType.reduced
   by_cases hr : (decide (-(2 : Int) ^ 63 <= aqG (qE w xs)) && decide (aqG (qE w xs) < 2 ^ 63)) = true
   ·rw [if_pos hr] at q ⊢
    exact wpAny_pure (by simpa [asp] using q)
   ·rw [if_neg hr] at q ⊢
    exact wpAny_bind (wpAny_rule (wpAny_pure (by simpa [asp] using q)))
 | .none, _, _, _, _, _, _, _, h, _, _ => by cases h
 | .bool _, _, _, _, _, _, _, _, h, _, _ => by cases h
 | .list _, _, _, _, _, _, _, _, h, _, _ => by cases h
 | .dict _, _, _, _, _, _, _, _, h, _, _ => by cases h
theorem abx {P : Program} {w : World} : ∀ (xs : List PyData) (A : Around) (s : Shared) (vs : List Value) (as : List Addr) (acc : Array Int) (E : Value -> Shared -> Prop) (Q : Array Int -> Shared -> Prop), ReadsAll s.heap vs xs as -> zK xs = true -> A.units + 4 * ao9 xs < cLine ->
  Q (acc ++ (qE w xs).toArray) { s with toks := s.toks + abv xs } -> wpAny (model P w) A (forIn vs acc fun x r => do
   let h <- pyHash x
   pure (ForInStep.yield (r.push h))) Q E s
 | [], A, s, _, _, acc, E, Q, r, _, _, q => by
  cases r
  rw [aq3]
  rw [qE, abv] at q
  exact wpAny_pure (by simpa using q)
 | x :: xs, A, s, _, _, acc, E, Q, r, p, hu, q => by
  cases r with
  | cons r1 r2 =>
   rw [zK, ao6] at p
   rw [qE, abv] at q
   have e1 : ao9 (x :: xs) = max x.depth (ao9 xs) := rfl
   rw [e1] at hu
   rw [aqZ]
   apply wpAny_bind; apply wpAny_bind
   refine abw x A s _ _ _ _ r1 p.1 (by omega) (wpAny_pure ?_)
   refine abx xs A { s with toks := s.toks + z5 x } _ _ _ _ _ r2 p.2 (by omega) ?_
   have e2 : acc.push (zv w x) ++ (qE w xs).toArray = acc ++ (zv w x :: qE w xs).toArray := by simp
   rw [e2]
   rw [<- asp] at q
   exact q
end
mutual
theorem jH {P : Program} {w : World} : ∀ (d : PyData) (n : Nat) (A : Around) (s : Shared) (v : Value) (as : List Addr) (E : Value -> Shared -> Prop) (Q : Bool -> Shared -> Prop), Reads s.heap v d as -> zA d = true -> d.depth <= n -> Q true s -> wpAny (model P w) A (eqIsQuiet n v) Q E s
 | .int i, n, A, s, _, _, E, Q, r, _, _, q => by
  cases r
  rw [eqIsQuiet_byValue n rfl]
  exact wpAny_pure q
 | .str x, n, A, s, _, _, E, Q, r, _, _, q => by
  cases r
  rw [eqIsQuiet_byValue n rfl]
  exact wpAny_pure q
 | .tuple xs, n, A, s, _, _, E, Q, r, p, hn, q => by
  cases r with
  | @tuple a o vs n' _ as h1 h2 h3 h4 =>
   rw [zA] at p
   have e1 : (PyData.tuple xs).depth = ao9 xs + 1 := rfl
   rw [e1] at hn
   obtain ⟨m, rfl⟩ : ∃ m, n = m + 1 := ⟨n - 1, by omega⟩
   have hT : s.TypeIs (.ref a) "tuple" := ⟨o, h1, h2⟩
   unfold eqIsQuiet
   apply wpAny_bind; apply wpAny_specialOf hT PySem.F.slot_tuple_eq.lookup
   show wpAny _ _ (isInstance (.ref a) (.type "tuple") >>= _) _ _ s
   apply wpAny_bind; apply wpAny_isInstance hT isSubtype_tuple_tuple
   simp only [apE, apI, if_false]
   apply wpAny_bind; apply wpAny_seqItems h1 h3
   apply wpAny_bind
   show wpAny _ _ (forIn vs _ _) _ _ s
   rw [<- arn]
   exact aaI xs m A s _ _ _ _ h4 p (by omega) (wpAny_pure q)
 | .none, _, _, _, _, _, _, _, _, h, _, _ => by cases h
 | .bool _, _, _, _, _, _, _, _, _, h, _, _ => by cases h
 | .list _, _, _, _, _, _, _, _, _, h, _, _ => by cases h
 | .dict _, _, _, _, _, _, _, _, _, h, _, _ => by cases h
theorem aaI {P : Program} {w : World} : ∀ (xs : List PyData) (m : Nat) (A : Around) (s : Shared) (vs : List Value) (as : List Addr) (E : Value -> Shared -> Prop) (Q : Option Bool × Unit -> Shared -> Prop), ReadsAll s.heap vs xs as -> zK xs = true -> ao9 xs <= m -> Q (none, ()) s ->
  wpAny (model P w) A (forIn vs ((none, ()) : Option Bool × Unit) fun y _ => do
   let b <- eqIsQuiet m y
   if (!b) = true then pure (ForInStep.done (some false, ())) else pure (ForInStep.yield (none, ()))) Q E s
 | [], m, A, s, _, _, E, Q, r, _, _, q => by
  cases r
  rw [aq3]
  exact wpAny_pure q
 | x :: xs, m, A, s, _, _, E, Q, r, p, hn, q => by
  cases r with
  | cons r1 r2 =>
   rw [zK, ao6] at p
   have e1 : ao9 (x :: xs) = max x.depth (ao9 xs) := rfl
   rw [e1] at hn
   rw [aqZ]
   apply wpAny_bind; apply wpAny_bind
   refine jH x m A s _ _ _ _ r1 p.1 (by omega) ?_
   simp only [apE, apI, if_false]
   exact wpAny_pure (aaI xs m A s _ _ _ _ r2 p.2 (by omega) q)
end
mutual
theorem aap {P : Program} {w : World} : ∀ (d : PyData) (n : Nat) (A : Around) (s : Shared) (v : Value) (as : List Addr) (E : Value -> Shared -> Prop) (Q : Bool -> Shared -> Prop), Reads s.heap v d as -> zA d = true -> d.depth <= n -> Q false s -> wpAny (model P w) A (ofAClassStatement n v) Q E s
 | .int i, n, A, s, _, _, E, Q, r, _, _, q => by
  cases r
  unfold ofAClassStatement
  exact wpAny_pure q
 | .str x, n, A, s, _, _, E, Q, r, _, _, q => by
  cases r
  unfold ofAClassStatement
  exact wpAny_pure q
 | .tuple xs, n, A, s, _, _, E, Q, r, p, hn, q => by
  cases r with
  | @tuple a o vs n' _ as h1 h2 h3 h4 =>
   rw [zA] at p
   have e1 : (PyData.tuple xs).depth = ao9 xs + 1 := rfl
   rw [e1] at hn
   obtain ⟨m, rfl⟩ : ∃ m, n = m + 1 := ⟨n - 1, by omega⟩
   have hT : s.TypeIs (.ref a) "tuple" := ⟨o, h1, h2⟩
   unfold ofAClassStatement
   apply wpAny_bind; apply wpAny_typeOf hT
   dsimp only
   rw [if_pos (show ("tuple" == "tuple") = true from rfl)]
   apply wpAny_bind; apply wpAny_pure
   simp only [apE, apI, if_false]
   apply wpAny_bind; apply wpAny_seqItems h1 h3
   dsimp only
   apply wpAny_bind
   rw [<- arn]
   exact acv xs m A s _ _ _ _ h4 p (by omega) (wpAny_pure q)
 | .none, _, _, _, _, _, _, _, _, h, _, _ => by cases h
 | .bool _, _, _, _, _, _, _, _, _, h, _, _ => by cases h
 | .list _, _, _, _, _, _, _, _, _, h, _, _ => by cases h
 | .dict _, _, _, _, _, _, _, _, _, h, _, _ => by cases h
theorem acv {P : Program} {w : World} : ∀ (xs : List PyData) (m : Nat) (A : Around) (s : Shared) (vs : List Value) (as : List Addr) (E : Value -> Shared -> Prop) (Q : Option Bool × Unit -> Shared -> Prop), ReadsAll s.heap vs xs as -> zK xs = true -> ao9 xs <= m -> Q (none, ()) s ->
  wpAny (model P w) A (forIn vs ((none, ()) : Option Bool × Unit) fun y _ => do
   let b <- ofAClassStatement m y
   if b = true then pure (ForInStep.done (some true, ())) else pure (ForInStep.yield (none, ()))) Q E s
 | [], m, A, s, _, _, E, Q, r, _, _, q => by
  cases r
  rw [aq3]
  exact wpAny_pure q
 | x :: xs, m, A, s, _, _, E, Q, r, p, hn, q => by
  cases r with
  | cons r1 r2 =>
   rw [zK, ao6] at p
   have e1 : ao9 (x :: xs) = max x.depth (ao9 xs) := rfl
   rw [e1] at hn
   rw [aqZ]
   apply wpAny_bind; apply wpAny_bind
   refine aap x m A s _ _ _ _ r1 p.1 (by omega) ?_
   simp only [apI, if_false]
   exact wpAny_pure (acv xs m A s _ _ _ _ r2 p.2 (by omega) q)
end
mutual
theorem aaJ {P : Program} {w : World} : ∀ (d : PyData) (n : Nat) (A : Around) (s : Shared) (v : Value) (as : List Addr) (E : Value -> Shared -> Prop) (Q : Bool -> Shared -> Prop), Reads s.heap v d as -> zA d = true -> (∀ b, Q b s) -> wpAny (model P w) A (hashByValue n v) Q E s
 | .int i, n, A, s, _, _, E, Q, r, _, q => by
  cases r
  unfold hashByValue
  exact wpAny_pure (q _)
 | .str x, n, A, s, _, _, E, Q, r, _, q => by
  cases r
  unfold hashByValue
  exact wpAny_pure (q _)
 | .tuple xs, n, A, s, _, _, E, Q, r, p, q => by
  cases r with
  | @tuple a o vs n' _ as h1 h2 h3 h4 =>
   rw [zA] at p
   have hT : s.TypeIs (.ref a) "tuple" := ⟨o, h1, h2⟩
   cases n with
   | zero =>
    unfold hashByValue
    exact wpAny_pure (q _)
   | succ m =>
    unfold hashByValue
    apply wpAny_bind; apply wpAny_specialOf hT aqq.lookup
    show wpAny _ _ (seqItems? (.ref a) >>= _) _ _ s
    apply wpAny_bind; apply wpAny_seqItems h1 h3
    apply wpAny_bind
    show wpAny _ _ (forIn vs _ _) _ _ s
    rw [<- arn]
    exact aaK xs m A s _ _ _ _ h4 p (wpAny_pure (q _)) fun b => wpAny_pure (q b)
 | .none, _, _, _, _, _, _, _, _, h, _ => by cases h
 | .bool _, _, _, _, _, _, _, _, _, h, _ => by cases h
 | .list _, _, _, _, _, _, _, _, _, h, _ => by cases h
 | .dict _, _, _, _, _, _, _, _, _, h, _ => by cases h
theorem aaK {P : Program} {w : World} : ∀ (xs : List PyData) (m : Nat) (A : Around) (s : Shared) (vs : List Value) (as : List Addr) (E : Value -> Shared -> Prop) (Q : Option Bool × Unit -> Shared -> Prop), ReadsAll s.heap vs xs as -> zK xs = true -> Q (none, ()) s -> (∀ b, Q (some b, ()) s) ->
  wpAny (model P w) A (forIn vs ((none, ()) : Option Bool × Unit) fun y _ => do
   let b <- hashByValue m y
   if (!b) = true then pure (ForInStep.done (some false, ())) else pure (ForInStep.yield (none, ()))) Q E s
 | [], m, A, s, _, _, E, Q, r, _, q, _ => by
  cases r
  rw [aq3]
  exact wpAny_pure q
 | x :: xs, m, A, s, _, _, E, Q, r, p, q, q2 => by
  cases r with
  | cons r1 r2 =>
   rw [zK, ao6] at p
   rw [aqZ]
   apply wpAny_bind; apply wpAny_bind
   refine aaJ x m A s _ _ _ _ r1 p.1 fun b => ?_
   cases b with
   | true =>
    simp only [apE, apI, if_false]
    exact wpAny_pure (aaK xs m A s _ _ _ _ r2 p.2 q q2)
   | false =>
    simp only [aqB, if_true]
    exact wpAny_pure (wpAny_pure (q2 false))
end
noncomputable instance decPy : DecidableEq PyData := fun a b => ap4 _
structure KeyAt (h : Heap) (d : PyData) (a : Addr) : Prop where
 rd : ∃ as, Reads h (.ref a) d as
 pl : zA d = true
 dp : d.depth <= 8
theorem KeyAt.keep {h h' : Heap} {d : PyData} {a : Addr} (x : KeyAt h d a) (k : ∀ b o, h.get? b = some o -> (∀ es ep, o.data ≠ .dict es ep) -> (∀ es ep t, o.data ≠ .set es ep t) -> h'.get? b = some o) : KeyAt h' d a := by
 obtain ⟨⟨as, r⟩, p, q⟩ := x
 refine ⟨?_, p, q⟩
 have go : (∀ (d : PyData) (v : Value) (as : List Addr), Reads h v d as -> zA d = true -> Reads h' v d as) := by
  intro d v as r
  refine Reads.rec (motive_1 := fun v d as _ => zA d = true -> Reads h' v d as) (motive_2 := fun vs ds as _ => zK ds = true -> ReadsAll h' vs ds as) ?_ ?_ ?_ ?_ ?_ ?_ ?_ ?_ ?_ r
  ·intro p; cases p
  ·intro b p; cases p
  ·intro i t p; exact .int i t
  ·intro x t p; exact .str x t
  ·intro a o vs n xs as h1 h2 h3 h4 ih p; cases p
  ·intro a o vs n xs as h1 h2 h3 h4 ih p
   rw [zA] at p
   exact .tuple (k a o h1 (fun es ep z => by rw [h3] at z; cases z) (fun es ep t z => by rw [h3] at z; cases z)) h2 h3 (ih p)
  ·intros; rename_i p; cases p
  ·intro p; exact .nil
  ·intro v vs d ds as bs r rs ih1 ih2 p
   rw [zK, ao6] at p
   exact .cons (ih1 p.1) (ih2 p.2)
 exact ⟨as, go d _ as r p⟩
noncomputable def aaZ (P : Program) (w : World) : HeapKind P w PyData where
 is := KeyAt
 hash := zv w
 draws := z5
 room := fun A => A.units + 40 < cLine
 inj := fun {h a x y} hx hy => by
  obtain ⟨⟨as, r⟩, p, _⟩ := hx
  obtain ⟨⟨bs, r'⟩, p', _⟩ := hy
  exact SeqAt.Reads.unique _ _ _ _ _ (yC x p) r r'
 keeps := fun {h h' k a d o es ep} x ho hd sb => x.keep fun b u hb n1 n2 => by
  have : b ≠ d := fun z => by
   rw [z, ho] at hb
   cases hb
   exact n1 es ep hd
  exact (sb.2 b this).trans hb
 pyHash := fun {A E s k a Q} hu x q => by
  obtain ⟨⟨as, r⟩, p, hd⟩ := x
  exact abw k A s _ as E Q r p (by omega) q
 eqBool := fun {A E s x y a b Q} hu hx hy q => by
  obtain ⟨⟨as, r⟩, p, hd⟩ := hx
  obtain ⟨⟨bs, r'⟩, p', hd'⟩ := hy
  refine SeqAt.eqAt_reads x y A s _ _ _ _ r r' (yC x p) (yC y p') (by omega) P w E Q ?_
  have : apw x y = decide (x = y) := by
   by_cases e : x = y
   ·rw [decide_eq_true e]; exact (aaY p p').mpr e
   ·rw [decide_eq_false e]
    cases z : apw x y with
    | false => rfl
    | true => exact absurd ((aaY p p').mp z) e
  rw [this]
  exact q
 quiet := fun {A E s k a Q} x q => by
  obtain ⟨⟨as, r⟩, p, hd⟩ := x
  exact jH k 8 A s _ as E Q r p hd q
end L2
end
section
namespace L2
open PySem PySem.Spec PyProof.Rows PySem.SetTable
section
variable {P : Program} {w : World} {A : Around} {E : Value -> Shared -> Prop} {s : Shared}
theorem akQ {b : Addr} {d : PyData} {Q : Bool -> Shared -> Prop} (kb : KeyAt s.heap d b) : ∀ l : List Value, (∀ y ∈ l, ∃ d' b', y = .ref b' /\ KeyAt s.heap d' b') -> Q false s -> wpAny (model P w) A (searchCouldBeSeen (.ref b) l) Q E s := by
 intro l hl q
 unfold searchCouldBeSeen
 apply wpAny_bind
 refine wpAny_forIn_list _ (fun rest r s' => r = (none, ()) /\ s' = s /\ ∀ y ∈ rest, y ∈ l) _ ?_ ?_ _ _ ⟨rfl, rfl, fun _ h => h⟩
 ·rintro y rest r s' ⟨rfl, rfl, hm⟩
  obtain ⟨d', b', rfl, kb'⟩ := hl y (hm y ao4)
  obtain ⟨⟨as, rd⟩, pd, dd⟩ := id kb
  obtain ⟨⟨bs, rd'⟩, pd', dd'⟩ := id kb'
  have more : ∀ z ∈ rest, z ∈ l := fun z hz => hm z (ao3 _ hz)
  dsimp only
  split
  ·exact wpAny_pure ⟨rfl, rfl, more⟩
  ·apply wpAny_bind
   refine jH d 8 A _ _ as _ _ rd pd dd ?_
   simp only [apE, apI, if_false]
   apply wpAny_bind
   refine jH d' 8 A _ _ bs _ _ rd' pd' dd' ?_
   simp only [apE, apI, if_false]
   apply wpAny_bind
   refine aap d 8 A _ _ as _ _ rd pd dd ?_
   simp only [apI, if_false]
   apply wpAny_bind
   refine aap d' 8 A _ _ bs _ _ rd' pd' dd' ?_
   simp only [apI, if_false]
   exact wpAny_pure ⟨rfl, rfl, more⟩
 ·rintro r s' ⟨rfl, rfl, _⟩
  exact wpAny_pure q
structure SetObj (w : World) (h : Heap) (a : Addr) (xs : List (PyData × Addr)) (o : Obj) (es : Array (Int × Value)) (ep : Nat) (t : SetTable) : Prop where
 ob : h.get? a = some o
 ex : o.ExactSet
 da : o.data = .set es ep t
 el : es.toList = xs.map fun x => (zv w x.1, Value.ref x.2)
 ok : ST.TOk t (xs.map fun x => zv w x.1)
theorem SetObj.size {h : Heap} {a : Addr} {xs : List (PyData × Addr)} {o : Obj} {es : Array (Int × Value)} {ep : Nat} {t : SetTable} (x : SetObj w h a xs o es ep t) : es.size = xs.length := by
 rw [<- apg, x.el, aoZ]
theorem SetObj.fits {h : Heap} {a : Addr} {xs : List (PyData × Addr)} {o : Obj} {es : Array (Int × Value)} {ep : Nat} {t : SetTable} (x : SetObj w h a xs o es ep t) : t.fits es.size = true := by
 unfold SetTable.fits asZ
 have h1 := x.ok.size
 have h2 := x.ok.most
 rw [aoZ] at h1 h2
 rw [x.size, h1, x.ok.dum]
 simp
 exact h2
theorem SetObj.at {h : Heap} {a : Addr} {xs : List (PyData × Addr)} {o : Obj} {es : Array (Int × Value)} {ep : Nat} {t : SetTable} (x : SetObj w h a xs o es ep t) {i : Nat} (hi : i < xs.length) : es[i]? = some (zv w xs[i].1, Value.ref xs[i].2) := by
 rw [<- aqE, x.el, ao8, aoX hi]
 rfl
theorem aje {t : SetTable} {hs : List Int} (o : ST.TOk t hs) : t.gaveWay = false := by
 unfold SetTable.gaveWay
 rcases o.mask with e | e | e | e <;> rw [e] <;> rfl
theorem ajf {α : Type} {M : Model} {c : Bool} {m : Sem Bool} {u : Sem Unit} {r : Sem α} {Q : α -> Shared -> Prop} (hr : wpAny M A r Q E s) (hm : ∀ R : Bool -> Shared -> Prop, R false s -> wpAny M A m R E s) :
  wpAny M A (if c = true then (do
   let b <- m
   if b = true then do
    u
    r
   else r) else r) Q E s := by
 cases c with
 | false => rw [if_neg aoY]; exact hr
 | true =>
  rw [if_pos rfl]
  apply wpAny_bind
  refine hm _ ?_
  rw [if_neg aoY]
  exact hr
theorem aet {M : Model} {a : Addr} {Q : Bool -> Shared -> Prop} (q : Q true s) : wpAny M A (isSame (.ref a) (.ref a)) Q E s := by
 unfold isSame
 simp only [beq_self_eq_true]
 exact wpAny_pure q
theorem aaq {a b : Addr} {d : PyData} {xs : List (PyData × Addr)} {o : Obj} {es : Array (Int × Value)} {ep : Nat} {t : SetTable} {adding : Bool} {Q : SetFound -> Shared -> Prop} (S : SetObj w s.heap a xs o es ep t) (ks : ∀ x ∈ xs, KeyAt s.heap x.1 x.2)
  (kb : KeyAt s.heap d b) (hu : A.units + 40 < cLine) {F : Nat} (hF : ST.First t (zv w d) F) (yes : d ∈ xs.map (·.1) -> ∀ r : Option Nat, (adding = false -> r.isSome = true) -> Q (.there r) s) (no : d ∉ xs.map (·.1) -> Q (.free (ST.pos t.mask (zv w d) F) false) s) :
  ∀ f k stand, k <= F -> F < k + f -> stand.getD (t.probeStart (zv w d)) = ST.road t.mask (zv w d) k ->
   (∀ q i, q < k -> i < xs.length -> ST.pos t.mask (zv w d) q = t.place.getD i 0 -> (xs.getD i (.none, 0)).1 ≠ d) ->
   wpAny (model P w) A (setSearchFrom a (.ref b) (zv w d) adding f stand) Q E s
 | 0, k, stand, h1, h2, _, _ => by omega
 | f + 1, k, stand, h1, h2, hst, past => by
  have sz := S.ok.size
  rw [aoZ] at sz
  have key : ∀ g : Nat -> Int, (∀ i, g i = (es[i]?.map (·.1)).getD 0) ->
    (t.probe g (zv w d) (ST.road t.mask (zv w d) k) = some (.empty (ST.pos t.mask (zv w d) F) none) /\ ∀ q i, k <= q -> q < F -> i < t.place.size -> ST.pos t.mask (zv w d) q = t.place.getD i 0 -> g i ≠ zv w d) \/
    ∃ q i, k <= q /\ q < F /\ i < t.place.size /\ ST.pos t.mask (zv w d) q = t.place.getD i 0 /\ g i = zv w d /\ t.probe g (zv w d) (ST.road t.mask (zv w d) k) = some (.candidate (ST.pos t.mask (zv w d) q) i (ST.road t.mask (zv w d) (q + 1))) /\ ∀ q' i', k <= q' -> q' < q -> i' < t.place.size -> ST.pos t.mask (zv w d) q' = t.place.getD i' 0 -> g i' ≠ zv w d :=
   fun g _ => ST.probe_go S.ok.dum S.ok.rise hF (10 * turns t.mask) k h1 (by have := hF.lt; omega)
  have gat : ∀ i (hi : i < xs.length), (es[i]?.map (·.1)).getD 0 = zv w xs[i].1 := fun i hi => by rw [S.at hi]; rfl
  unfold setSearchFrom
  apply wpAny_bind
  refine wpAny_setState_of S.ob S.da S.fits ?_
  dsimp only
  rw [aje S.ok, if_neg aoY, hst]
  have reach : ∀ i (hi : i < xs.length), xs[i].1 = d -> ∃ q, q < F /\ ST.pos t.mask (zv w d) q = t.place.getD i 0 := fun i hi ed => by
   obtain ⟨q, a1, a2⟩ := S.ok.reach i (by rw [aoZ]; exact hi)
   have eh : (xs.map fun x => zv w x.1).getD i 0 = zv w d := by
    rw [ao2, ao8, aoX hi, <- ed]
    rfl
   rw [eh] at a1 a2
   refine ⟨q, ?_, a1⟩
   by_cases c : q < F
   ·exact c
   ·by_cases c2 : q = F
    ·subst c2
     exact absurd ⟨i, by omega, a1.symm⟩ hF.free
    ·exact absurd (a2 F (by omega)) hF.free
  have ggd : ∀ i (hi : i < xs.length), xs.getD i (.none, 0) = xs[i] := fun i hi => by rw [ao2, aoX hi]; rfl
  rcases key (fun i => (es[i]?.map (·.1)).getD 0) (fun i => rfl) with ⟨e, none_⟩ | ⟨q, i, q1, q2, q3, q4, q5, e, none_⟩
  ·have ee : ∀ g : Nat -> Int, (∀ i, g i = (es[i]?.map (·.1)).getD 0) -> t.probe g (zv w d) (ST.road t.mask (zv w d) k) = some (.empty (ST.pos t.mask (zv w d) F) none) := fun g hg => by
    rw [show g = fun i => (es[i]?.map (·.1)).getD 0 from funext hg]
    exact e
   rw [ee]
   rotate_left
   ·exact fun i => rfl
   dsimp only
   refine wpAny_pure (no fun hd => ?_)
   obtain ⟨x, hx, ex⟩ := apm.mp hd
   obtain ⟨i, hi, ei⟩ := aqR hx
   have ed : xs[i].1 = d := by rw [ei]; exact ex
   obtain ⟨q, qF, qp⟩ := reach i hi ed
   by_cases c : q < k
   ·exact past q i c hi qp (by rw [ggd i hi]; exact ed)
   ·exact none_ q i (by omega) qF (by omega) qp (by rw [gat i hi, ed])
  ·have ee : ∀ g : Nat -> Int, (∀ i, g i = (es[i]?.map (·.1)).getD 0) -> t.probe g (zv w d) (ST.road t.mask (zv w d) k) = some (.candidate (ST.pos t.mask (zv w d) q) i (ST.road t.mask (zv w d) (q + 1))) := fun g hg => by
    rw [show g = fun i => (es[i]?.map (·.1)).getD 0 from funext hg]
    exact e
   have hi : i < xs.length := by omega
   have mi : xs[i] ∈ xs := apz hi
   have ki := ks _ mi
   rw [ee]
   rotate_left
   ·exact fun i => rfl
   dsimp only
   refine ajf ?_ fun R hR => akQ kb _ (fun y hy => ?_) hR
   rotate_left
   ·obtain ⟨p, hp, rfl⟩ := apm.mp hy
    have hp2 : p ∈ es.toList := by
     have := arM.mp hp
     exact arM.mpr (Array.mem_filter.mp this).1
    rw [S.el] at hp2
    obtain ⟨x, hx, rfl⟩ := apm.mp hp2
    exact ⟨x.1, x.2, rfl, ks x hx⟩
   rw [S.at hi]
   dsimp only
   apply wpAny_bind; apply wpAny_holding
   refine (aaZ P w).eqBool (A := A) hu ki kb ?_
   apply wpAny_bind
   refine wpAny_setState_of S.ob S.da S.fits ?_
   dsimp only
   have same : t.sameMemory t.moves t.mask = some true := by
    unfold SetTable.sameMemory
    rw [if_pos (beq_self_eq_true _)]
   have live : t.slot (ST.pos t.mask (zv w d) q) = .live i := by rw [q4]; exact ST.slot_live S.ok.rise q3
   by_cases ed : xs[i].1 = d
   ·have y2 := yes (apm.mpr ⟨_, mi, ed⟩)
    rw [decide_eq_true ed]
    cases adding with
    | true => exact wpAny_pure (y2 _ fun z => nomatch z)
    | false =>
     rw [aqS, if_neg aoY, same]
     dsimp only
     rw [if_pos rfl, live]
     dsimp only
     rw [S.at hi]
     dsimp only
     apply wpAny_bind
     refine aet ?_
     apply wpAny_bind; apply wpAny_pure
     rw [if_pos rfl]
     dsimp only
     rw [if_pos rfl]
     exact wpAny_pure (y2 _ fun _ => rfl)
   ·rw [decide_eq_false ed, arv, if_neg aoY, same]
    dsimp only
    rw [if_pos rfl, live]
    dsimp only
    rw [S.at hi]
    dsimp only
    apply wpAny_bind
    refine aet ?_
    apply wpAny_bind; apply wpAny_pure
    rw [if_pos rfl]
    dsimp only
    rw [if_neg aoY]
    refine aaq S ks kb hu hF yes no f (q + 1) _ (by omega) (by omega) rfl fun q' i' c1 c2 c3 => ?_
    rw [ggd i' c2]
    intro z
    by_cases c4 : q' < k
    ·exact past q' i' c4 c2 c3 (by rw [ggd i' c2]; exact z)
    ·by_cases c5 : q' = q
     ·subst c5
      have ii : i' = i := by
       have b1 := ST.below_at S.ok.rise (i := i) (by omega)
       have b2 := ST.below_at S.ok.rise (i := i') (by omega)
       rw [<- q4] at b1
       rw [<- c3] at b2
       omega
      subst ii
      exact ed z
     ·exact none_ q' i' (by omega) (by omega) (by omega) c3 (by rw [gat i' c2, z])
end
end L2
end
section
namespace L2
open PySem PySem.Spec PyProof.Rows PySem.SetTable
section
variable {P : Program} {w : World} {A : Around} {E : Value -> Shared -> Prop} {s : Shared} {a b : Addr} {d : PyData} {xs : List (PyData × Addr)} {o : Obj} {es : Array (Int × Value)} {ep : Nat} {t : SetTable}
theorem SetObj.type (S : SetObj w s.heap a xs o es ep t) : s.TypeIs (.ref a) "set" := ⟨o, S.ob, S.ex.1⟩
theorem agH (b : Addr) (es : Array (Int × Value)) : byScan (.ref b) es = false := rfl
theorem aeu {Q : Bool -> Shared -> Prop} (S : SetObj w s.heap a xs o es ep t) (ks : ∀ x ∈ xs, KeyAt s.heap x.1 x.2) (kb : KeyAt s.heap d b) (hu : A.units + 60 < cLine) (q : Q (decide (d ∈ xs.map (·.1))) { s with toks := s.toks + z5 d }) :
  wpAny (model P w) A (contains (.ref a) (.ref b)) Q E s := by
 obtain ⟨F, hF⟩ := ST.first_of S.ok.toTB (zv w d)
 have hl := hF.lt
 have ht : turns t.mask <= 526 := by
  unfold turns
  rcases S.ok.mask with e | e | e | e <;> omega
 unfold contains
 try with_reducible refine wpAny_holding ?_
 apply wpAny_bind; apply wpAny_specialOf S.type aq8.lookup
 show wpAny _ _ (if (some (Value.builtin "set.__contains__") == some Value.none) = true then _ else _) _ E s
 rw [if_neg (by rw [beq_builtin_none]; exact aoY)]
 apply wpAny_bind
 refine wpAny_callSpecialUnlessNone?_slot (name := arw "__contains__") S.type aq8 (wpAny_call_entry aq8 S.type entry_set_contains ?_ (PySem.F.args_set_contains_2 _ _))
 unfold Builtin.«frozenset.__contains__» ar3
 simp only [List.isEmpty_nil, bind_assoc]
 unfold asq Builtin.Frozenset.withSetAsKey setContains
 apply wpAny_bind; apply wpAny_pure
 dsimp only
 apply wpAny_bind; apply wpAny_pure
 dsimp only
 apply wpAny_bind; apply wpAny_tryCatch; apply wpAny_holding
 apply wpAny_bind
 have hu1 : A.in1.units = A.units + 1 := rfl
 have hu2 : A.in1.in1.units = A.units + 1 + 1 := rfl
 refine (aaZ P w).pyHash (by show _ + 40 < cLine; omega) kb ?_
 apply wpAny_bind
 unfold setFind setFindIn
 apply wpAny_bind
 refine wpAny_setState_of (s := { s with toks := s.toks + z5 d }) S.ob S.da S.fits ?_
 dsimp only
 rw [agH, if_neg aoY]
 apply wpAny_bind
 unfold setSearch
 have fin : ∀ r : Option Nat, r.isSome = decide (d ∈ xs.map (·.1)) -> ∀ R : Value -> Shared -> Prop, R (.bool (decide (d ∈ xs.map (·.1)))) { s with toks := s.toks + z5 d } -> R (.bool r.isSome) { s with toks := s.toks + z5 d } := fun r e R hR => by rw [e]; exact hR
 refine aaq (s := { s with toks := s.toks + z5 d }) (adding := false) S ks kb (by omega) hF (fun hd r hr => ?_) (fun hd => ?_) 100000 0 none (apD _) (by omega) (ST.road_start t _) (fun q i c => by omega)
 ·refine wpAny_pure (wpAny_pure ?_)
  show wpAny _ _ (ret (Value.bool r.isSome)) _ _ _
  rw [hr rfl]
  rw [decide_eq_true hd] at q
  exact wpAny_pure ⟨_, rfl, wpAny_truthy_bool q⟩
 ·refine wpAny_pure (wpAny_pure ?_)
  show wpAny _ _ (ret (Value.bool false)) _ _ _
  rw [decide_eq_false hd] at q
  exact wpAny_pure ⟨_, rfl, wpAny_truthy_bool q⟩
def agI (es : Array (Int × Value)) (laid : Option (SetTable × Array Nat)) : Sem (Array (Int × Value) × SetTable) := do
 let some (t, order) := laid | unsupported "internal:set-table-without-room"
 let es' := order.filterMap (es[·]?)
 if es'.size != es.size then unsupported "internal:set-table-lost-an-element"
 pure (es', t)
theorem ajg (a : Addr) (wanted : Nat) : setRelay a wanted = (do
  let (es, _, t) <- setState a
  if ar4 wanted > sizeLine then unsupported "set:memory"
  let (es, t) <- agI es (t.relaid (es.map (·.1)) wanted)
  storeSet a es t) := rfl
theorem vw {α : Type} (es : Array α) : ∀ l : List Nat, (∀ i ∈ l, i < es.size) -> ∀ dflt : α, l.filterMap (fun i => es[i]?) = l.map fun i => es.toList.getD i dflt
 | [], _, _ => rfl
 | i :: l, h, dflt => by
  have hi := h i ao4
  rw [aqh, aql hi, apq, vw es l (fun j hj => h j (ao3 _ hj)) dflt]
  simp [hi]
theorem ajh {Q : Unit -> Shared -> Prop} {mask wanted : Nat} (S0 : s.heap.get? a = some o) (ex : o.ExactSet) (da : o.data = .set es ep t) (el : es.toList = xs.map fun x => (zv w x.1, Value.ref x.2)) (tb : ST.TB t (xs.map fun x => zv w x.1)) (mk : mask = 31 \/ mask = 127 \/ mask = 511) (hw : ar4 wanted = mask + 1)
  (room : xs.length * 5 < mask * 3) (q : ∀ xs' o' es' ep' t' h', xs'.Perm xs -> aqJ a s.heap h' -> SetObj w h' a xs' o' es' ep' t' -> Q () { s with heap := h' }) : wpAny (model P w) A (setRelay a wanted) Q E s := by
 have sz : es.size = xs.length := by rw [<- apg, el, aoZ]
 have fits : t.fits es.size = true := by
  unfold SetTable.fits asZ
  have h1 := tb.size
  have h2 := tb.most
  rw [aoZ] at h1 h2
  rw [sz, h1, tb.dum]
  simp
  exact h2
 have mk2 : mask = 7 \/ mask = 31 \/ mask = 127 \/ mask = 511 := .inr mk
 obtain ⟨t2, ord, e1, e2, _, _, pm, tb2⟩ := ST.laid_ok mk2 (es.map (·.1)) (by rw [asO, sz]; omega) t.finger (t.movedTo mask) t.led t.plain
 rw [asO] at pm
 have hlt : ∀ i ∈ ord.toList, i < es.size := fun i hi => apF.mp (pm.mem_iff.mp hi)
 let xs' := ord.toList.map fun i => xs.getD i (.none, 0)
 have px : xs'.Perm xs := by
  have e : (apo es.size).map (fun i => xs.getD i (.none, 0)) = xs := by
   rw [sz]
   refine aqK fun i => ?_
   rw [ao8]
   by_cases hi : i < xs.length
   ·rw [aqt hi, aoX hi]
    simp [hi]
   ·rw [apy (by simp; omega), apy (by omega)]
    rfl
  have := pm.map fun i => xs.getD i (.none, 0)
  rw [e] at this
  exact this
 have ee : (ord.filterMap (es[·]?)).toList = xs'.map fun x => (zv w x.1, Value.ref x.2) := by
  rw [Array.toList_filterMap, vw es ord.toList hlt (0, Value.none), aqL]
  refine ara fun i hi => ?_
  have h2 := hlt i hi
  have h3 : i < xs.length := by omega
  rw [el, ao2, ao8, aoX h3]
  show _ = (zv w (xs.getD i (.none, 0)).1, Value.ref (xs.getD i (.none, 0)).2)
  rw [ao2, aoX h3]
  rfl
 have es_sz : (ord.filterMap (es[·]?)).size = es.size := by
  rw [<- apg, ee, aoZ, px.length_eq, sz]
 have tok : ST.TOk t2 (xs'.map fun x => zv w x.1) := by
  have eh : (ord.toList.map fun i => (es.map (·.1)).toList.getD i 0) = xs'.map fun x => zv w x.1 := by
   rw [aqL]
   refine ara fun i hi => ?_
   have h3 : i < xs.length := by have := hlt i hi; omega
   rw [Array.toList_map, el, aqL, ao2, ao8, aoX h3]
   show zv w xs[i].1 = zv w (xs.getD i (.none, 0)).1
   rw [ao2, aoX h3]
   rfl
  rw [eh] at tb2
  refine ⟨tb2, ?_⟩
  rw [aoZ, px.length_eq, e2]
  exact room
 rw [ajg]
 apply wpAny_bind
 refine wpAny_setState_of S0 da fits ?_
 dsimp only
 rw [hw, if_neg (by rw [sizeLine_eq]; omega)]
 have e1' : t.relaid (es.map (·.1)) wanted = some (t2, ord) := by
  unfold SetTable.relaid
  rw [hw]
  exact e1
 unfold agI
 rw [e1']
 apply wpAny_bind
 dsimp only
 rw [es_sz, bne_self_eq_false, if_neg aoY]
 apply wpAny_pure
 dsimp only
 refine wpAny_storeSet_of S0 da ?_ (by rw [es_sz, sz, sizeLine_eq]; omega)
 refine q xs' { o with data := .set (ord.filterMap (es[·]?)) (ep + 1) t2 } (ord.filterMap (es[·]?)) (ep + 1) t2 _ px (arb _ _ _) ⟨?_, ex, rfl, ee, tok⟩
 have := aqD (asD (ord.filterMap (es[·]?)) t2) S0 (by rw [putSet_of _ _ da]; rfl)
 rw [putSet_of _ _ da] at this
 exact this
theorem aji {t : SetTable} {hs : List Int} {p : Bool} (x : ST.TB t hs) : ST.TB { t with plain := p } hs := ⟨x.mask, x.dum, x.rise, x.le, x.size, x.most, x.reach⟩
theorem akR {Q : Shared -> Prop} (S : SetObj w s.heap a xs o es ep t) (ks : ∀ x ∈ xs, KeyAt s.heap x.1 x.2) (kb : KeyAt s.heap d b) (hu : A.units + 59 < cLine) (few : xs.length < 300)
  (old : d ∈ xs.map (·.1) -> Q { s with toks := s.toks + z5 d })
  (new : d ∉ xs.map (·.1) -> ∀ xs' o' es' ep' t' h', xs'.Perm ((d, b) :: xs) -> aqJ a s.heap h' -> SetObj w h' a xs' o' es' ep' t' -> Q { s with heap := h', toks := s.toks + z5 d }) :
  wpAny (model P w) A (setAdd a (.ref b)) (fun _ s' => Q s') E s := by
 obtain ⟨F, hF⟩ := ST.first_of S.ok.toTB (zv w d)
 have hl := hF.lt
 have ht : turns t.mask <= 526 := by
  unfold turns
  rcases S.ok.mask with e | e | e | e <;> omega
 have room := S.ok.room
 rw [aoZ] at room
 unfold setAdd
 apply wpAny_holding
 apply wpAny_bind
 refine (aaZ P w).pyHash (by show _ + 40 < cLine; omega) kb ?_
 show wpAny _ _ (setAddHashed a (.ref b) (zv w d)) _ _ _
 unfold setAddHashed setAddHashedIn
 apply wpAny_holding
 apply wpAny_bind
 refine wpAny_setState_of (s := { s with toks := s.toks + z5 d }) S.ob S.da S.fits ?_
 dsimp only
 rw [agH, if_neg aoY]
 apply wpAny_bind
 unfold setSearch
 refine aaq (s := { s with toks := s.toks + z5 d }) (adding := true) S ks kb (by omega) hF (fun hd r _ => ?_) (fun hd => ?_) 100000 0 none (apD _) (by omega) (ST.road_start t _) (fun q i c => by omega)
 ·exact wpAny_pure (old hd)
 ·dsimp only
  apply wpAny_bind
  refine wpAny_setState_of (s := { s with toks := s.toks + z5 d }) S.ob S.da S.fits ?_
  dsimp only
  obtain ⟨hp, tb⟩ := ST.put_tb S.ok.toTB hF (by rw [aoZ]; rcases S.ok.mask with e | e | e | e <;> rw [e] at room ⊢ <;> omega)
  rw [aoZ] at hp
  have ep2 : (t.put (ST.pos t.mask (zv w d) F)).2 = below t.place (ST.pos t.mask (zv w d) F) := rfl
  rw [ep2]
  generalize below t.place (ST.pos t.mask (zv w d) F) = p at *
  have pm : (xs.take p ++ (d, b) :: xs.drop p).Perm ((d, b) :: xs) := by
   refine List.perm_middle.trans ?_
   rw [aq0]
  have el : (insertAt es p (zv w d, Value.ref b)).toList = (xs.take p ++ (d, b) :: xs.drop p).map fun x => (zv w x.1, Value.ref x.2) := by
   rw [arh, S.el, aps, apq, List.map_take, List.map_drop]
  have eh : (xs.map fun x => zv w x.1).take p ++ zv w d :: (xs.map fun x => zv w x.1).drop p = (xs.take p ++ (d, b) :: xs.drop p).map fun x => zv w x.1 := by
   rw [aps, apq, List.map_take, List.map_drop]
  rw [eh] at tb
  have ln : (xs.take p ++ (d, b) :: xs.drop p).length = xs.length + 1 := by rw [pm.length_eq]; rfl
  have sze : (insertAt es p (zv w d, Value.ref b)).size = xs.length + 1 := by rw [<- apg, el, aoZ, ln]
  have step : ∀ bv : Bool, ∀ t2, t2 = (if bv = true then (t.put (ST.pos t.mask (zv w d) F)).1 else { (t.put (ST.pos t.mask (zv w d) F)).1 with plain := false }) ->
    ST.TB t2 ((xs.take p ++ (d, b) :: xs.drop p).map fun x => zv w x.1) /\ t2.mask = t.mask := fun bv t2 e => by
   subst e
   cases bv with
   | true => exact ⟨tb, rfl⟩
   | false => exact ⟨aji tb, rfl⟩
  have tail : ∀ bv : Bool, wpAny (model P w) A (do
    storeSet a (insertAt es p (zv w d, Value.ref b)) (if bv = true then (t.put (ST.pos t.mask (zv w d) F)).1 else { (t.put (ST.pos t.mask (zv w d) F)).1 with plain := false })
    if (!false && (if bv = true then (t.put (ST.pos t.mask (zv w d) F)).1 else { (t.put (ST.pos t.mask (zv w d) F)).1 with plain := false }).tooFull) = true then do
     setRelay a (SetTable.grown (es.size + 1))
     pure true
    else pure true) (fun _ s' => Q s') E { s with toks := s.toks + z5 d } := fun bv => by
   obtain ⟨tb2, em⟩ := step bv _ rfl
   generalize (if bv = true then (t.put (ST.pos t.mask (zv w d) F)).1 else { (t.put (ST.pos t.mask (zv w d) F)).1 with plain := false }) = t2 at *
   apply wpAny_bind
   refine wpAny_storeSet_of (s := { s with toks := s.toks + z5 d }) S.ob S.da ?_ (by rw [sze, sizeLine_eq]; omega)
   have g : (s.heap.update a (asD (insertAt es p (zv w d, Value.ref b)) t2)).get? a = some { o with data := .set (insertAt es p (zv w d, Value.ref b)) (ep + 1) t2 } := by
    have := aqD (asD (insertAt es p (zv w d, Value.ref b)) t2) S.ob (by rw [putSet_of _ _ S.da]; rfl)
    rw [putSet_of _ _ S.da] at this
    exact this
   have sb := arb s.heap a (asD (insertAt es p (zv w d, Value.ref b)) t2)
   have fill : t2.tooFull = decide ((xs.length + 1) * 5 >= t.mask * 3) := by
    unfold SetTable.tooFull asZ
    have h1 := tb2.size
    rw [aoZ, ln] at h1
    rw [h1, tb2.dum, em]
    rfl
   rw [aqB, ari, fill]
   by_cases full : (xs.length + 1) * 5 >= t.mask * 3
   ·rw [if_pos (decide_eq_true full), S.size]
    have : ∃ mask, (mask = 31 \/ mask = 127 \/ mask = 511) /\ ar4 (SetTable.grown (xs.length + 1)) = mask + 1 /\ (xs.length + 1) * 5 < mask * 3 := by
     rcases S.ok.mask with e | e | e | e
     ·rw [e] at room full
      have : xs.length = 4 := by omega
      rw [this]
      exact ⟨31, .inl rfl, by decide, by decide⟩
     ·rw [e] at room full
      have : xs.length = 18 := by omega
      rw [this]
      exact ⟨127, .inr (.inl rfl), by decide, by decide⟩
     ·rw [e] at room full
      have : xs.length = 76 := by omega
      rw [this]
      exact ⟨511, .inr (.inr rfl), by decide, by decide⟩
     ·rw [e] at room full
      omega
    obtain ⟨mask, mk, hw, rm⟩ := this
    apply wpAny_bind
    refine ajh (s := { s with heap := s.heap.update a (asD (insertAt es p (zv w d, Value.ref b)) t2), toks := s.toks + z5 d }) (o := { o with data := .set (insertAt es p (zv w d, Value.ref b)) (ep + 1) t2 }) g S.ex rfl el tb2 mk hw (by rw [ln]; exact rm) fun xs' o' es' ep' t' h' px sb' S' => wpAny_pure ?_
    exact new hd xs' o' es' ep' t' h' (px.trans pm) (sb.trans sb') S'
   ·rw [if_neg (by rw [decide_eq_false full]; exact aoY)]
    refine wpAny_pure (new hd _ _ _ _ _ _ pm sb ⟨g, S.ex, rfl, el, ⟨tb2, ?_⟩⟩)
    rw [aoZ, ln, em]
    omega
  obtain ⟨as, rd⟩ := kb.rd
  split
  ·apply wpAny_bind
   exact aaJ d 8 _ { s with toks := s.toks + z5 d } _ as _ _ rd kb.pl fun bv => tail bv
  ·apply wpAny_bind; apply wpAny_pure
   exact tail true
theorem am7 {Q : Value -> Shared -> Prop} (S : SetObj w s.heap a xs o es ep t) (ks : ∀ x ∈ xs, KeyAt s.heap x.1 x.2) (kb : KeyAt s.heap d b) (hu : A.units + 60 < cLine) (few : xs.length < 300)
  (old : d ∈ xs.map (·.1) -> Q .none { s with toks := s.toks + z5 d })
  (new : d ∉ xs.map (·.1) -> ∀ xs' o' es' ep' t' h', xs'.Perm ((d, b) :: xs) -> aqJ a s.heap h' -> SetObj w h' a xs' o' es' ep' t' -> Q .none { s with heap := h', toks := s.toks + z5 d }) :
  wpAny (model P w) A (call (.builtin "set.add") [.ref a, .ref b]) Q E s := by
 refine wpAny_call_entry arN S.type PySem.F.entry_set_add ?_ (PySem.F.args_set_add_2 _ _)
 unfold Builtin.«set.add» ar3
 simp only [List.isEmpty_nil, bind_assoc]
 unfold asq
 apply wpAny_bind; apply wpAny_pure
 try dsimp only
 apply wpAny_bind; apply wpAny_pure
 try dsimp only
 apply wpAny_bind
 have hu1 : A.in1.units = A.units + 1 := rfl
 refine akR (Q := fun s' => wpAny (model P w) A.in1 (ret Value.none) (fun fin s' => ∃ r, fin = .done (.ret r) /\ Q r s') E s') S ks kb (by omega) few (fun hd => wpAny_pure ⟨_, rfl, old hd⟩) fun hd xs' o' es' ep' t' h' p1 p2 p3 => wpAny_pure ⟨_, rfl, new hd xs' o' es' ep' t' h' p1 p2 p3⟩
end
inductive OC where
 | lst (es : List PyData)
 | set (ks : List PyData)
 | dic (kvs : List (PyData × PyData))
def SetO (w : World) (a : Addr) (xs : List (PyData × Addr)) : HO := .ext fun h => ∃ o es ep t, SetObj w h a xs o es ep t
structure DicObj (w : World) (h : Heap) (a : Addr) (xs : List (PyData × Addr × Value)) (o : Obj) (es : Array DictEntry) (ep : Nat) : Prop where
 ob : h.get? a = some o
 ex : o.ExactDict
 da : o.data = .dict es ep
 el : es.toList = xs.map fun x => (⟨zv w x.1, .ref x.2.1, x.2.2⟩ : DictEntry)
 nd : (xs.map (·.1)).Nodup
 ns : (a == sysModules) = false
def DicO (w : World) (a : Addr) (xs : List (PyData × Addr × Value)) : HO := .ext fun h => ∃ o es ep, DicObj w h a xs o es ep
def vK (d : PyData) : Prop := zA d = true /\ d.depth <= 8
def EntR (K : ao0) (Hh : Hp) (x : PyData × Addr × Value) (p : PyData × PyData) : Prop := x.1 = p.1 /\ vK x.1 /\ Rep K Hh x.1 (.ref x.2.1) /\ ∃ v, Rep K Hh p.2 v /\ RelV v x.2.2
theorem EntR.mono {K : ao0} {Hh Hh' : Hp} (s : Same Hh Hh') : ∀ {xs : List (PyData × Addr × Value)} {kvs : List (PyData × PyData)}, Paired (EntR K Hh) xs kvs -> Paired (EntR K Hh') xs kvs
 | _, _, .nil => .nil
 | _, _, .cons ⟨h1, h2, h3, v, h4, h5⟩ t => .cons ⟨h1, h2, Rep.mono s _ _ h3, v, Rep.mono s _ _ h4, h5⟩ (EntR.mono s t)
def OwnAt (w : World) (K : ao0) (Hh H : Hp) (D : Addr) : OC -> Prop
 | .lst es => ∃ vs, H D = some (.lst vs) /\ Reps K Hh es vs
 | .set ks => ∃ xs : List (PyData × Addr), H D = some (SetO w D xs) /\ (∀ x ∈ xs, vK x.1 /\ Rep K Hh x.1 (.ref x.2)) /\ (∀ d, d ∈ xs.map (·.1) ↔ d ∈ ks) /\ xs.length <= ks.length
 | .dic kvs => ∃ xs : List (PyData × Addr × Value), H D = some (DicO w D xs) /\ Paired (EntR K Hh) xs kvs
theorem OwnAt.mono {w : World} {K : ao0} {Hh Hh' H H' : Hp} {D : Addr} (e : H' D = H D) (s : Same Hh Hh') : ∀ {c : OC}, OwnAt w K Hh H D c -> OwnAt w K Hh' H' D c
 | .lst es, ⟨vs, h1, h2⟩ => ⟨vs, e.trans h1, Reps.mono s es vs h2⟩
 | .set ks, ⟨xs, h1, h2, h3⟩ => ⟨xs, e.trans h1, fun x hx => ⟨(h2 x hx).1, Rep.mono s _ _ (h2 x hx).2⟩, h3⟩
 | .dic kvs, ⟨xs, h1, h2⟩ => ⟨xs, e.trans h1, EntR.mono s h2⟩
def Fx.withs (f : Fx) (Ds : List Addr) : Fx := { f with M := Ds.reverse ++ f.M }
theorem yu (f : Fx) (Ds : List Addr) (D : Addr) : f.withs (Ds ++ [D]) = (f.withs Ds).with D := by
 unfold Fx.withs Fx.with
 rw [arc]
 rfl
structure CM (w : World) (K : ao0) (f : Fx) (Ds : List Addr) (H2 : Hp) (ρ : zr) (cs : List OC) (σ : St) (H : Hp) : Prop where
 env : EnvOk K (f.withs Ds) ρ σ H
 sm : Same (hide H2 (f.withs Ds)) (hide H (f.withs Ds))
 kp : ∀ b ∈ f.M, H b = H2 b
 len : cs.length = Ds.length
 own : ∀ (i : Nat) D c, Ds[i]? = some D -> cs[i]? = some c -> OwnAt w K (hide H (f.withs Ds)) H D c
structure Sep (f : Fx) (Ds : List Addr) : Prop where
 nd : Ds.Nodup
 nf : ∀ D ∈ Ds, f.f ≠ some D
 nm : ∀ D ∈ Ds, D ∉ f.M
section
variable {w : World} {K : ao0} {f : Fx} {Ds : List Addr} {H H' H2 : Hp} {ρ ρ2 : zr} {cs : List OC} {σ σ2 : St} {i : Nat} {D : Addr} {c : OC} {o : HO}
theorem jn (hD : D ∈ Ds) : D ∈ (f.withs Ds).M := apx _ (aqy.mpr hD)
theorem yo (hD : D ∈ Ds) : hide (upd H D o) (f.withs Ds) = hide H (f.withs Ds) := by
 funext b
 unfold hide
 by_cases h : (f.withs Ds).f = some b \/ b ∈ (f.withs Ds).M
 ·rw [if_pos h, if_pos h]
 ·rw [if_neg h, if_neg h, zw fun (z : b = D) => h (.inr (z ▸ jn hD))]
theorem CM.go (x : CM w K f Ds H2 ρ cs σ H) (g : Goes (f.withs Ds) H H') (e2 : EnvOk K (f.withs Ds) ρ2 σ2 H') : CM w K f Ds H2 ρ2 cs σ2 H' :=
 ⟨e2, x.sm.trans g.sm, fun b hb => (g.kp b (api _ hb)).trans (x.kp b hb), x.len, fun i D c h1 h2 => (x.own i D c h1 h2).mono (g.kp D (jn (apc h1))) g.sm⟩
theorem CM.self (x : CM w K f Ds H2 ρ cs σ H) : CM w K f Ds H ρ cs σ H := ⟨x.env, Same.refl _, fun _ _ => rfl, x.len, x.own⟩
theorem CM.trans {cs' : List OC} {ρ' : zr} {σ' : St} (x : CM w K f Ds H2 ρ cs σ H) (y : CM w K f Ds H ρ' cs' σ' H') : CM w K f Ds H2 ρ' cs' σ' H' := ⟨y.env, x.sm.trans y.sm, fun b hb => (y.kp b hb).trans (x.kp b hb), y.len, y.own⟩
theorem akS (se : Sep f Ds) (hD : D ∈ Ds) (h : FOk (f.withs Ds) H) : FOk (f.withs Ds) (upd H D o) :=
 ⟨fun p e => let ⟨a, b, h1, h2⟩ := h.fd p e; ⟨a, b, by rw [zw (fun (z : p = D) => se.nf D hD (z ▸ e))]; exact h1, h2⟩, fun b hb => by
  by_cases e : b = D
  ·exact ⟨o, by rw [e]; exact zy⟩
  ·obtain ⟨u, hu⟩ := h.mm b hb
   exact ⟨u, by rw [zw e]; exact hu⟩, h.nm⟩
theorem akT (se : Sep f Ds) (hD : D ∈ Ds) (e : EnvOk K (f.withs Ds) ρ σ H) : EnvOk K (f.withs Ds) ρ σ (upd H D o) :=
 ⟨e.len, fun i x h => by
  obtain ⟨v, h1, h2⟩ := e.get i x h
  refine ⟨v, h1, ?_⟩
  cases x with
  | dat d =>
   show Rep K (hide (upd H D o) (f.withs Ds)) d v
   rw [yo hD]
   exact h2
  | feed => exact h2
  | own k => exact h2
  | exc C =>
   obtain ⟨a, e1, q⟩ := h2
   exact ⟨a, e1, by rw [yo hD]; exact q⟩
  | mon φ =>
   intro H' s
   rw [yo hD] at s
   exact h2 H' s, akS se hD e.fd⟩
theorem CM.put {c' : OC} (se : Sep f Ds) (x : CM w K f Ds H2 ρ cs σ H) (hi : Ds[i]? = some D) (ho : OwnAt w K (hide H (f.withs Ds)) (upd H D o) D c') : CM w K f Ds H2 ρ (cs.set i c') σ (upd H D o) := by
 have hD := apc hi
 refine ⟨akT se hD x.env, by rw [yo hD]; exact x.sm, fun b hb => (zw (fun (z : b = D) => se.nm D hD (z ▸ hb))).trans (x.kp b hb), by rw [aqs]; exact x.len, fun j D' c h1 h2 => ?_⟩
 rw [yo hD]
 by_cases e : i = j
 ·subst e
  rw [hi] at h1
  cases h1
  have hl : i < cs.length := by rw [x.len]; exact (ao1.mp hi).1
  rw [aqb hl] at h2
  cases h2
  exact ho
 ·rw [aqo e] at h2
  have ne : D' ≠ D := fun z => by
   subst z
   obtain ⟨l1, e1⟩ := ao1.mp hi
   obtain ⟨l2, e2⟩ := ao1.mp h1
   exact e ((arJ se.nd).mp (e1.trans e2.symm))
  exact (x.own j D' c h1 h2).mono (zw ne) (Same.refl _)
end
structure MEnds where
 nx : zr -> List OC -> Prop
 rt : PyData -> Prop
 bk : zr -> List OC -> Prop := fun _ _ => False
 ct : zr -> List OC -> Prop := fun _ _ => False
def PSm (w : World) (K : ao0) (f : Fx) (Ds : List Addr) (ts : TS) (ρ : zr) (cs : List OC) (O : MEnds) : Prop := Sep f Ds -> ∀ (σ : St) (H H2 : Hp) (E : Ends), CM w K f Ds H2 ρ cs σ H ->
 (∀ ρ' cs' σ' H', CM w K f Ds H2 ρ' cs' σ' H' -> O.nx ρ' cs' -> E.nx σ' H') -> (∀ d v ρ' cs' σ' H', CM w K f Ds H2 ρ' cs' σ' H' -> Rep K (hide H' f) d v -> O.rt d -> E.rt v H') ->
 (∀ ρ' cs' σ' H', CM w K f Ds H2 ρ' cs' σ' H' -> O.bk ρ' cs' -> E.bk σ' H') -> (∀ ρ' cs' σ' H', CM w K f Ds H2 ρ' cs' σ' H' -> O.ct ρ' cs' -> E.ct σ' H') -> ts E σ H
def PTm (w : World) (K : ao0) (f : Fx) (Ds : List Addr) (tt : TT) (ρ : zr) (cs : List OC) (B : Bool -> Prop) : Prop := Sep f Ds -> ∀ (σ : St) (H H2 : Hp) (Q : Bool -> Hp -> Prop), CM w K f Ds H2 ρ cs σ H -> (∀ b H', Goes (f.withs Ds) H H' -> B b -> Q b H') -> tt σ H Q
def PEm (w : World) (K : ao0) (f : Fx) (Ds : List Addr) (te : TE) (ρ : zr) (cs : List OC) (P : PyData -> Prop) : Prop := Sep f Ds -> ∀ (σ : St) (H H2 : Hp) (Q : VK), CM w K f Ds H2 ρ cs σ H -> (∀ d v H', Goes (f.withs Ds) H H' -> Rep K (hide H' (f.withs Ds)) d v -> P d -> Q v H') -> te σ H Q
def ade (w : World) (K : ao0) (f : Fx) (te : TE) (ρ : zr) (P : OC -> Prop) : Prop := ∀ (σ : St) (H : Hp) (Q : VK), EnvOk K f ρ σ H ->
 (∀ c D H', Goes f H H' -> H D = none -> OwnAt w K (hide H' (f.with D)) H' D c -> P c -> Q (.ref D) H') -> te σ H Q
section
variable {w : World} {K : ao0} {f : Fx} {Ds : List Addr} {ρ : zr} {cs : List OC} {ts tu : TS} {tt : TT} {te : TE} {wi : TI} {g : TG} {O : MEnds} {i j : Nat}
theorem same_withs {H : Hp} : Same (hide H (f.withs Ds)) (hide H f) := fun b o h => by
 obtain ⟨h1, h2⟩ := zP h
 exact zB (fun z => h1 (z.elim .inl fun z => .inr (api _ z))) h2
theorem afx {D : DEnds} (h : PSm w K f [] ts ρ [] { nx := fun ρ' _ => D.nx ρ', rt := D.rt, bk := fun ρ' _ => D.bk ρ', ct := fun ρ' _ => D.ct ρ' }) : PSd K f ts ρ D := fun σ H E e n r b k => by
 have gg : ∀ {ρ' : zr} {cs' : List OC} {σ' : St} {H' : Hp}, CM w K f [] H ρ' cs' σ' H' -> Goes f H H' := fun x => ⟨x.sm, x.env.fd, x.kp⟩
 exact h ⟨ap8, (fun _ z => nomatch z), (fun _ z => nomatch z)⟩ σ H H E ⟨e, Same.refl _, fun _ _ => rfl, rfl, (fun i D c z => nomatch z)⟩
  (fun ρ' cs' σ' H' x p => n ρ' σ' H' (gg x) x.env p) (fun d v ρ' cs' σ' H' x r' p => r d v H' (gg x) r' p) (fun ρ' cs' σ' H' x p => b ρ' σ' H' (gg x) x.env p) (fun ρ' cs' σ' H' x p => k ρ' σ' H' (gg x) x.env p)
theorem adf (h : PSd K (f.withs Ds) ts ρ { nx := fun ρ' => O.nx ρ' cs, rt := O.rt, bk := fun ρ' => O.bk ρ' cs, ct := fun ρ' => O.ct ρ' cs }) : PSm w K f Ds ts ρ cs O := fun se σ H H2 E x n r b k =>
 h σ H E x.env (fun ρ' σ' H' g' e' p => n ρ' cs σ' H' (x.go g' e') p) (fun d v H' g' r' p => r d v ρ cs σ H' (x.go g' (x.env.mono g')) (Rep.mono same_withs d v r') p) (fun ρ' σ' H' g' e' p => b ρ' cs σ' H' (x.go g' e') p) (fun ρ' σ' H' g' e' p => k ρ' cs σ' H' (x.go g' e') p)
theorem vy (h : PSm w K f Ds ts ρ cs { O with nx := fun ρ' cs' => PSm w K f Ds tu ρ' cs' O }) : PSm w K f Ds (qH ts tu) ρ cs O := fun se σ H H2 E x n r b k =>
 h se σ H H2 _ x (fun ρ' cs' σ' H' x' p => p se σ' H' H2 E x' n r b k) r b k
theorem afy (h : O.nx ρ cs) : PSm w K f Ds af6 ρ cs O := fun _ σ H H2 E x n r b k => n ρ cs σ H x h
theorem aoT {B : Bool -> Prop} (h : PTd K (f.withs Ds) tt ρ B) : PTm w K f Ds tt ρ cs B := fun se σ H H2 Q x q => h σ H Q x.env q
theorem ab0 {P : PyData -> Prop} (h : PEd K (f.withs Ds) te ρ P) : PEm w K f Ds te ρ cs P := fun se σ H H2 Q x q => h σ H Q x.env q
theorem am8 (h : PTm w K f Ds tt ρ cs fun b => if b = true then PSm w K f Ds ts ρ cs O else PSm w K f Ds tu ρ cs O) : PSm w K f Ds (ahk tt ts tu) ρ cs O := fun se σ H H2 E x n r b k =>
 h se σ H H2 _ x fun q H1 g1 p => by
  have x1 := x.go g1 (x.env.mono g1)
  cases q with
  | false =>
   rw [if_neg aoY] at p ⊢
   exact p se σ H1 H2 E x1 n r b k
  | true =>
   rw [if_pos rfl] at p ⊢
   exact p se σ H1 H2 E x1 n r b k
theorem aaL (h : PId K (f.withs Ds) wi ρ fun ds => ∃ J : Nat -> zr -> List OC -> Prop, J 0 ρ cs /\
   (∀ (i : Nat) d ρ' cs', ds[i]? = some d -> J i ρ' cs' -> PGd K (f.withs Ds) g d ρ' fun ρ2 => PSm w K f Ds ts ρ2 cs' { O with nx := J (i + 1), ct := J (i + 1), bk := O.nx }) /\ ∀ ρ' cs', J ds.length ρ' cs' -> O.nx ρ' cs') :
  PSm w K f Ds (akx wi g ts) ρ cs O := fun se σ H H2 E x n r b k => h σ H _ x.env fun ds J H1 g1 it ⟨Jv, j0, js, jd⟩ => by
 have x1 := x.go g1 (x.env.mono g1)
 refine ⟨fun i m σ' H' => ∃ ρ' cs', CM w K f Ds H2 ρ' cs' σ' H' /\ Same (hide H1 (f.withs Ds)) (hide H' (f.withs Ds)) /\ Jv i ρ' cs' /\ m + i = ds.length, ⟨ds.length, ρ, cs, x1, Same.refl _, j0, rfl⟩, fun i m σ' H' ⟨ρ', cs', x', sm', p, hm⟩ => ?_⟩
 by_cases hi : i < ds.length
 ·obtain ⟨hgo, hy⟩ := it.go (f.withs Ds) H' i _ x'.env.fd sm' (aoX hi)
  refine .inr ⟨hgo, fun σ2 H3 => ∃ ρ2 cs2, CM w K f Ds H2 ρ2 cs2 σ2 H3 /\ Same (hide H1 (f.withs Ds)) (hide H3 (f.withs Ds)) /\ Jv (i + 1) ρ2 cs2, fun σ2 H3 ⟨ρ2, cs2, e2, g2, p2⟩ => ⟨m - 1, by omega, ρ2, cs2, e2, g2, p2, by omega⟩, fun v H3 hx => ?_⟩
  obtain ⟨g3, r3⟩ := hy v H3 hx
  have x3 := x'.go g3 (x'.env.mono g3)
  refine js i _ ρ' cs' (aoX hi) p σ' H3 v _ x3.env r3 fun ρ2 σ2 H4 g4 e4 p4 => ?_
  have x4 := x3.go g4 e4
  have sm4 := (sm'.trans g3.sm).trans g4.sm
  exact p4 se σ2 H4 H4 _ x4.self (fun ρ5 cs5 σ5 H5 x5 p5 => ⟨ρ5, cs5, x4.trans x5, sm4.trans x5.sm, p5⟩) (fun d v ρ5 cs5 σ5 H5 x5 r5 p5 => r d v ρ5 cs5 σ5 H5 (x4.trans x5) r5 p5) (fun ρ5 cs5 σ5 H5 x5 p5 => n ρ5 cs5 σ5 H5 (x4.trans x5) p5) (fun ρ5 cs5 σ5 H5 x5 p5 => ⟨ρ5, cs5, x4.trans x5, sm4.trans x5.sm, p5⟩)
 ·have ei : i = ds.length := by omega
  subst ei
  exact .inl ⟨it.st (f.withs Ds) H' x'.env.fd sm', n ρ' cs' σ' H' x' (jd ρ' cs' p)⟩
theorem agJ {tb : TS} (J : zr -> List OC -> Prop) (μ : zr -> List OC -> Nat) (h0 : J ρ cs)
  (hs : ∀ ρ' cs', J ρ' cs' -> PTm w K f Ds tt ρ' cs' fun b => if b = true then PSm w K f Ds tb ρ' cs' { O with nx := fun r c => J r c /\ μ r c < μ ρ' cs', ct := fun r c => J r c /\ μ r c < μ ρ' cs', bk := O.nx } else O.nx ρ' cs') : PSm w K f Ds (aff tt tb) ρ cs O := fun se σ H H2 E x n r b k => by
 refine ⟨fun m σ' H' => ∃ ρ' cs', CM w K f Ds H2 ρ' cs' σ' H' /\ J ρ' cs' /\ m = μ ρ' cs', ⟨_, ρ, cs, x, h0, rfl⟩, ?_⟩
 rintro m σ1 H1 ⟨ρ1, cs1, x1, j1, rfl⟩
 refine hs ρ1 cs1 j1 se σ1 H1 H2 _ x1 fun t H3 g3 p => ?_
 have x3 := x1.go g3 (x1.env.mono g3)
 cases t with
 | true =>
  rw [if_pos rfl] at p ⊢
  refine ⟨fun σ' H' => ∃ ρ' cs', CM w K f Ds H2 ρ' cs' σ' H' /\ J ρ' cs' /\ μ ρ' cs' < μ ρ1 cs1, fun σ' H' ⟨ρ', cs', x', j', l'⟩ => ⟨_, l', ρ', cs', x', j', rfl⟩, ?_⟩
  exact p se σ1 H3 H2 _ x3 (fun ρ5 cs5 σ5 H5 x5 p5 => ⟨ρ5, cs5, x5, p5⟩) r (fun ρ5 cs5 σ5 H5 x5 p5 => n ρ5 cs5 σ5 H5 x5 p5) (fun ρ5 cs5 σ5 H5 x5 p5 => ⟨ρ5, cs5, x5, p5⟩)
 | false =>
  rw [if_neg aoY] at p ⊢
  exact n ρ1 cs1 σ1 H3 x3 p
theorem yU {σ : St} {H H2 : Hp} {D : Addr} (hi : ρ[i]? = some (some (.own (f.M.length + j)))) (x : CM w K f Ds H2 ρ cs σ H) (hD : Ds[j]? = some D) : σ[i]? = some (some (.ref D)) := by
 obtain ⟨v, h1, p, h2, rfl⟩ := x.env.get i _ hi
 have e : (f.withs Ds).M.reverse[f.M.length + j]? = some D := by
  show (Ds.reverse ++ f.M).reverse[f.M.length + j]? = some D
  rw [arc, asQ, apl (by simp)]
  simpa using hD
 rw [e] at h2
 cases h2
 exact h1
theorem agK {es : List PyData} (hi : ρ[i]? = some (some (.own (f.M.length + j)))) (hc : cs[j]? = some (.lst es)) (hl : es.length < 1000) (h : PEm w K f Ds te ρ cs fun d => O.nx ρ (cs.set j (.lst (es ++ [d])))) : PSm w K f Ds (adU (tBM K "list" age (yf i) (yd te jS))) ρ cs O := fun se σ H H2 E x n r b k => by
 have hj : j < Ds.length := by rw [<- x.len]; exact (ao1.mp hc).1
 have hD : Ds[j]? = some Ds[j] := aoX hj
 obtain ⟨vs0, h0, _⟩ := x.own j _ _ hD hc
 refine ⟨_, yU hi x hD, Or.inl ⟨rfl, vs0, .of h0⟩, ?_⟩
 refine h se σ H H2 _ x fun d v H1 g1 r1 p1 => ?_
 have x1 := x.go g1 (x.env.mono g1)
 obtain ⟨vs, h1, h2⟩ := x1.own j _ _ hD hc
 refine ⟨_, vs, v, rfl, rfl, h1, z4 (by rw [h2.length]; omega), n _ _ _ _ (x1.put se hD (o := .lst (vs ++ [v])) (c' := .lst (es ++ [d])) ⟨vs ++ [v], zy, h2.snoc r1⟩) p1⟩
theorem CM.more {σ : St} {H H1 H2 : Hp} {D : Addr} {c : OC} (x : CM w K f Ds H2 ρ cs σ H) (g : Goes (f.withs Ds) H H1) (hn : H D = none) (ho : OwnAt w K (hide H1 ((f.withs Ds).with D)) H1 D c) (hi : i < ρ.length) :
  CM w K f (Ds ++ [D]) H1 (ρ.set i (some (.own (f.M.length + Ds.length)))) (cs ++ [c]) (σ.set i (some (.ref D))) H1 := by
 have nD : ¬ ((f.withs Ds).f = some D \/ D ∈ (f.withs Ds).M) := fresh_ne x.env.fd hn
 have sm0 : Same (hide H (f.withs Ds)) (hide H1 (f.withs (Ds ++ [D]))) := fun b o hb => by
  have hb1 := g.sm b o hb
  rw [yu]
  refine zB (fun z => ?_) (zP hb1).2
  rcases z with z | z
  ·exact (zP hb1).1 (.inl z)
  ·rcases ao7.mp z with rfl | z
   ·have := (zP hb).2
    rw [hn] at this
    cases this
   ·exact (zP hb1).1 (.inr z)
 have hD1 : ∃ o, H1 D = some o := by
  cases c with
  | lst es => exact ⟨_, ho.choose_spec.1⟩
  | set ks => exact ⟨_, ho.choose_spec.1⟩
  | dic kvs => exact ⟨_, ho.choose_spec.1⟩
 have fo1 : FOk (f.withs (Ds ++ [D])) H1 := by
  rw [yu]
  refine ⟨g.ok.fd, fun b hb => ?_, fun q eq hq => ?_⟩
  ·rcases ao7.mp hb with rfl | hb
   ·exact hD1
   ·exact g.ok.mm b hb
  ·rcases ao7.mp hq with rfl | hq
   ·exact nD (.inl eq)
   ·exact g.ok.nm q eq hq
 have rev : (f.withs (Ds ++ [D])).M.reverse = (f.withs Ds).M.reverse ++ [D] := by
  rw [yu]
  show (D :: (f.withs Ds).M).reverse = _
  rw [asf]
 have lenr : (f.withs Ds).M.reverse.length = f.M.length + Ds.length := by
  show (Ds.reverse ++ f.M).reverse.length = _
  simp
 have e1 : EnvOk K (f.withs (Ds ++ [D])) ρ σ H1 := ⟨x.env.len, fun q y hy => by
  obtain ⟨v, a1, a2⟩ := x.env.get q y hy
  refine ⟨v, a1, ?_⟩
  cases y with
  | dat d => exact Rep.mono sm0 d v a2
  | feed => exact a2
  | exc C =>
   obtain ⟨b, h3, h4⟩ := a2
   exact ⟨b, h3, sm0 _ _ h4⟩
  | mon φ => exact fun H' s => a2 H' (sm0.trans s)
  | own k =>
   obtain ⟨b, h3, h4⟩ := a2
   refine ⟨b, ?_, h4⟩
   rw [rev, ape (ao1.mp h3).1]
   exact h3, fo1⟩
 have rv : RepV K (f.withs (Ds ++ [D])) H1 (.own (f.M.length + Ds.length)) (.ref D) := ⟨D, by
  rw [rev, apl (by omega), lenr, aq7]
  rfl, rfl⟩
 refine ⟨e1.set i rv, Same.refl _, fun _ _ => rfl, by simp [x.len], fun q D' c' h1 h2 => ?_⟩
 by_cases hq : q < Ds.length
 ·rw [ape hq] at h1
  rw [ape (by rw [x.len]; exact hq)] at h2
  exact (x.own q D' c' h1 h2).mono (g.kp D' (jn (apc h1))) sm0
 ·by_cases hq2 : q = Ds.length
  ·subst hq2
   rw [apl (ao5 _), aq7] at h1
   rw [apl (by rw [x.len]; exact ao5 _), x.len, aq7] at h2
   cases h1
   cases h2
   rw [yu]
   exact ho
  ·rw [apy (by simp; omega)] at h1
   cases h1
theorem Sep.more {H : Hp} {D : Addr} (se : Sep f Ds) (fo : FOk (f.withs Ds) H) (hn : H D = none) : Sep f (Ds ++ [D]) := by
 have nD := fresh_ne fo hn
 refine ⟨ap3.mpr ⟨se.nd, by simp, fun a ha b hb => ?_⟩, fun D' h => ?_, fun D' h => ?_⟩
 ·rw [apd.mp hb]
  intro z
  exact nD (.inr (jn (z ▸ ha)))
 ·rcases apj.mp h with h | h
  ·exact se.nf D' h
  ·rw [apd.mp h]; exact fun z => nD (.inl z)
 ·rcases apj.mp h with h | h
  ·exact se.nm D' h
  ·rw [apd.mp h]; exact fun z => nD (.inr (api _ z))
theorem CM.less {σ σ' : St} {H H1 H2 H' : Hp} {D : Addr} {ρ' : zr} {cs' : List OC} (x : CM w K f Ds H2 ρ cs σ H) (g : Goes (f.withs Ds) H H1) (hn : H D = none) (y : CM w K f (Ds ++ [D]) H1 ρ' cs' σ' H') :
  CM w K f Ds H2 (ρ'.map (aaW (f.M.length + Ds.length))) (cs'.take Ds.length) σ' H' := by
 have sub : Same (hide H' (f.withs (Ds ++ [D]))) (hide H' (f.withs Ds)) := by rw [yu]; exact jZ
 have sm1 : Same (hide H (f.withs Ds)) (hide H1 (f.withs (Ds ++ [D]))) := fun b o hb => by
  have hb1 := g.sm b o hb
  rw [yu]
  refine zB (fun z => ?_) (zP hb1).2
  rcases z with z | z
  ·exact (zP hb1).1 (.inl z)
  ·rcases ao7.mp z with rfl | z
   ·have := (zP hb).2
    rw [hn] at this
    cases this
   ·exact (zP hb1).1 (.inr z)
 have lenr : (f.withs Ds).M.reverse.length = f.M.length + Ds.length := by
  show (Ds.reverse ++ f.M).reverse.length = _
  simp
 have rev : (f.withs (Ds ++ [D])).M.reverse = (f.withs Ds).M.reverse ++ [D] := by
  rw [yu]
  show (D :: (f.withs Ds).M).reverse = _
  rw [asf]
 have fo : FOk (f.withs Ds) H' := by
  have h := y.env.fd
  rw [yu] at h
  exact ⟨h.fd, fun b hb => h.mm b (ao3 _ hb), fun p e hp => h.nm p e (ao3 _ hp)⟩
 refine ⟨⟨by rw [aoZ]; exact y.env.len, fun q z hz => ?_, fo⟩, (x.sm.trans sm1).trans (y.sm.trans sub), fun b hb => (y.kp b hb).trans ((g.kp b (api _ hb)).trans (x.kp b hb)), ?_, fun q D' c' h1 h2 => ?_⟩
 ·rw [ao8] at hz
  cases e : ρ'[q]? with
  | none => rw [e] at hz; cases hz
  | some z0 =>
   rw [e] at hz
   cases z0 with
   | none => cases hz
   | some z0 =>
    obtain ⟨v, a1, a2⟩ := y.env.get q z0 e
    cases z0 with
    | dat d =>
     cases hz
     exact ⟨v, a1, Rep.mono sub d v a2⟩
    | feed =>
     cases hz
     rw [yu] at a2
     exact ⟨v, a1, a2⟩
    | exc C =>
     cases hz
     obtain ⟨b, h3, h4⟩ := a2
     exact ⟨v, a1, b, h3, sub _ _ h4⟩
    | mon φ =>
     cases hz
     exact ⟨v, a1, fun H' s => a2 H' (sub.trans s)⟩
    | own k =>
     have hz' : (if k < f.M.length + Ds.length then some (DV.own k) else none) = some z := Option.some.inj hz
     by_cases hk : k < f.M.length + Ds.length
     ·rw [if_pos hk] at hz'
      cases hz'
      obtain ⟨b, h3, h4⟩ := a2
      refine ⟨v, a1, b, ?_, h4⟩
      rw [rev, ape (by omega)] at h3
      exact h3
     ·rw [if_neg hk] at hz'
      cases hz'
 ·rw [apP, y.len]
  simp
 ·have hq : q < Ds.length := (ao1.mp h1).1
  rw [aqM hq] at h2
  exact (y.own q D' c' (by rw [ape hq]; exact h1) h2).mono rfl sub
theorem agL (h : ade w K (f.withs Ds) te ρ fun c => i < ρ.length /\ ∀ D, PSm w K f (Ds ++ [D]) ts (ρ.set i (some (.own (f.M.length + Ds.length)))) (cs ++ [c]) { nx := fun ρ' cs' => O.nx (ρ'.map (aaW (f.M.length + Ds.length))) (cs'.take Ds.length), rt := O.rt, bk := fun ρ' cs' => O.bk (ρ'.map (aaW (f.M.length + Ds.length))) (cs'.take Ds.length), ct := fun ρ' cs' => O.ct (ρ'.map (aaW (f.M.length + Ds.length))) (cs'.take Ds.length) }) :
  PSm w K f Ds (qH (jV te (y6 i)) ts) ρ cs O := fun se σ H H2 E x n r b k =>
 h σ H _ x.env fun c D H1 g1 hn ho ⟨hi, p⟩ =>
  p D (se.more x.env.fd hn) _ H1 H1 E (x.more g1 hn ho hi) (fun ρ' cs' σ' H' y q => n _ _ σ' H' (x.less g1 hn y) q) (fun d v ρ' cs' σ' H' y r' q => r d v _ _ σ' H' (x.less g1 hn y) r' q) (fun ρ' cs' σ' H' y q => b _ _ σ' H' (x.less g1 hn y) q) (fun ρ' cs' σ' H' y q => k _ _ σ' H' (x.less g1 hn y) q)
theorem aa0 {P : OC -> Prop} (h : PEdO K f te ρ fun es => P (.lst es)) : ade w K f te ρ P := fun σ H Q e q => h σ H Q e fun es D vs H' g hn h1 rs p => q (.lst es) D H' g hn ⟨vs, h1, rs⟩ p
def freed (n : Nat) (cs : List OC) : Option DV -> Option DV
 | some (.own k) => if k < n then some (.own k) else match cs[k - n]? with
  | some (.lst es) => some (.dat (.list es))
  | _ => none
 | x => x
theorem CM.free {σ : St} {H H2 : Hp} (se : Sep f Ds) (x : CM w K f Ds H2 ρ cs σ H) : EnvOk K f (ρ.map (freed f.M.length cs)) σ H := by
 have fo : FOk f H := ⟨x.env.fd.fd, fun b hb => x.env.fd.mm b (api _ hb), fun p e hp => x.env.fd.nm p e (api _ hp)⟩
 refine ⟨by rw [aoZ]; exact x.env.len, fun q z hz => ?_, fo⟩
 rw [ao8] at hz
 cases e : ρ[q]? with
 | none => rw [e] at hz; cases hz
 | some z0 =>
  rw [e] at hz
  cases z0 with
  | none => cases hz
  | some z0 =>
   obtain ⟨v, a1, a2⟩ := x.env.get q z0 e
   cases z0 with
   | dat d =>
    cases hz
    exact ⟨v, a1, Rep.mono same_withs d v a2⟩
   | feed =>
    cases hz
    exact ⟨v, a1, a2⟩
   | exc C =>
    cases hz
    obtain ⟨b, h3, h4⟩ := a2
    exact ⟨v, a1, b, h3, same_withs _ _ h4⟩
   | mon φ =>
    cases hz
    exact ⟨v, a1, fun H' s => a2 H' (same_withs.trans s)⟩
   | own k =>
    obtain ⟨b, h3, h4⟩ := a2
    have h3' : (Ds.reverse ++ f.M).reverse[k]? = some b := h3
    rw [arc, asQ] at h3'
    have hz' : (if k < f.M.length then some (DV.own k) else match cs[k - f.M.length]? with | some (.lst es) => some (.dat (.list es)) | _ => none) = some z := Option.some.inj hz
    by_cases hk : k < f.M.length
    ·rw [if_pos hk] at hz'
     cases hz'
     rw [ape (by simpa using hk)] at h3'
     exact ⟨v, a1, b, h3', h4⟩
    ·rw [if_neg hk] at hz'
     rw [apl (by simpa using as1.mp hk), asW] at h3'
     cases ec : cs[k - f.M.length]? with
     | none => rw [ec] at hz'; cases hz'
     | some c =>
      rw [ec] at hz'
      cases c with
      | lst es =>
       cases hz'
       obtain ⟨vs, h5, h6⟩ := x.own _ _ _ h3' ec
       have hb := apc h3'
       exact ⟨v, a1, rep_list.mpr ⟨b, vs, h4, .of (zB (fun z => z.elim (se.nf b hb) (se.nm b hb)) h5), Reps.mono same_withs es vs h6⟩⟩
      | set ks => cases hz'
      | dic kvs => cases hz'
theorem CM.goF {σ : St} {H H2 H' : Hp} (se : Sep f Ds) (x : CM w K f Ds H2 ρ cs σ H) (g : Goes f H H') : CM w K f Ds H2 ρ cs σ H' := by
 have keep : ∀ b ∈ Ds, H' b = H b := fun b hb => by
  obtain ⟨o, ho⟩ := x.env.fd.mm b (jn hb)
  rw [ho]
  exact (zP (g.sm b o (zB (fun z => z.elim (se.nf b hb) (se.nm b hb)) ho))).2
 have g2 : Goes (f.withs Ds) H H' := ⟨fun b o hb => by
   have hb' := zP hb
   have := zP (g.sm b o (same_withs b o hb))
   exact zB hb'.1 this.2, ⟨g.ok.fd, fun b hb => by
   rcases apj.mp hb with hb | hb
   ·obtain ⟨o, ho⟩ := x.env.fd.mm b (apx _ hb)
    exact ⟨o, by rw [keep b (aqy.mp hb)]; exact ho⟩
   ·exact g.ok.mm b hb, x.env.fd.nm⟩, fun b hb => by
   rcases apj.mp hb with hb | hb
   ·exact keep b (aqy.mp hb)
   ·exact g.kp b hb⟩
 exact x.go g2 (x.env.mono g2)
theorem ajj (h : PSd K f ts (ρ.map (freed f.M.length cs)) { nx := fun _ => False, rt := O.rt }) : PSm w K f Ds ts ρ cs O := fun se σ H H2 E x n r b k =>
 h σ H E (x.free se) (fun _ _ _ _ _ z => z.elim) (fun d v H' g' r' p => r d v ρ cs σ H' (x.goF se g') r' p) (fun _ _ _ _ _ z => z.elim) (fun _ _ _ _ _ z => z.elim)
end
def ahJ (w : World) (K : ao0) (f : Fx) (Ds : List Addr) (ts : TS) (ρ : zr) (cs : List OC) (R : List PyData -> Prop) : Prop := Sep f Ds -> ∀ (σ : St) (H H2 : Hp) (E : Ends), CM w K f Ds H2 ρ cs σ H ->
 (∀ es D vs ρ' cs' σ' H0 H', CM w K f Ds H2 ρ' cs' σ' H0 -> Goes f H0 H' -> H0 D = none -> H' D = some (.lst vs) -> Reps K (hide H' (f.with D)) es vs -> R es -> E.rt (.ref D) H') -> ts E σ H
section
variable {w : World} {K : ao0} {f : Fx} {Ds : List Addr} {ρ : zr} {cs : List OC} {ts tu : TS} {te : TE} {R : List PyData -> Prop} {i : Nat}
theorem akU (h : ahJ w K f [] ts ρ [] R) : PSn K f ts ρ R := fun σ H E e q => by
 refine h ⟨ap8, (fun _ z => nomatch z), (fun _ z => nomatch z)⟩ σ H H E ⟨e, Same.refl _, fun _ _ => rfl, rfl, (fun i D c z => nomatch z)⟩ fun es D vs ρ' cs' σ' H0 H' x g hn h1 rs p => ?_
 have g0 : Goes f H H0 := ⟨x.sm, x.env.fd, x.kp⟩
 exact q es D vs H' (g0.trans g) (g0.free e.fd hn) h1 rs p
theorem am9 (h : PSm w K f Ds ts ρ cs { nx := fun ρ' cs' => ahJ w K f Ds tu ρ' cs' R, rt := fun _ => False }) : ahJ w K f Ds (qH ts tu) ρ cs R := fun se σ H H2 E x q =>
 h se σ H H2 _ x (fun ρ' cs' σ' H' x' p => p se σ' H' H2 E x' q) (fun _ _ _ _ _ _ _ _ z => z.elim) (fun _ _ _ _ _ z => z.elim) (fun _ _ _ _ _ z => z.elim)
theorem ajk (h : ade w K (f.withs Ds) te ρ fun c => i < ρ.length /\ ∀ D, ahJ w K f (Ds ++ [D]) ts (ρ.set i (some (.own (f.M.length + Ds.length)))) (cs ++ [c]) R) :
  ahJ w K f Ds (qH (jV te (y6 i)) ts) ρ cs R := fun se σ H H2 E x q =>
 h σ H _ x.env fun c D H1 g1 hn ho ⟨hi, p⟩ =>
  p D (se.more x.env.fd hn) _ H1 H1 E (x.more g1 hn ho hi) fun es D' vs ρ' cs' σ' H0 H' y g hn' h1 rs pr => q es D' vs _ _ σ' H0 H' (x.less g1 hn y) g hn' h1 rs pr
theorem akV (h : PSn K f ts (ρ.map (freed f.M.length cs)) R) : ahJ w K f Ds ts ρ cs R := fun se σ H H2 E x q =>
 h σ H E (x.free se) fun es D vs H' g hn h1 rs p => q es D vs ρ cs σ H H' x g hn h1 rs p
end
theorem SetO.ok {P : Program} {w : World} {H : Hp} {h : Heap} {a : Addr} {xs : List (PyData × Addr)} {o : Obj} {es : Array (Int × Value)} {ep : Nat} {t : SetTable} (S : SetObj w h a xs o es ep t) : ObjOk P w H h a (SetO w a xs) :=
 ⟨⟨o, es, ep, t, S⟩, ⟨o, S.ob⟩, fun h1 h2 ⟨o, es, ep, t, S⟩ k => ⟨o, es, ep, t, ⟨k o S.ob, S.ex, S.da, S.el, S.ok⟩⟩⟩
theorem ahK (led : Bool) : ST.TOk (SetTable.fresh 0 0 led) [] where
 mask := .inl rfl
 dum := rfl
 rise := fun i j _ hj => absurd hj (aqj _)
 le := fun i hi => absurd hi (aqj _)
 size := rfl
 most := apD _
 reach := fun i hi => absurd hi (aqj _)
 room := by show 0 * 5 < 7 * 3; decide
def adg (w : World) : List V -> Hp -> VK -> Prop := fun xs H Q => xs = [] /\ ∀ a, H a = none -> Q (.ref a) (upd H a (SetO w a []))
theorem aev {X : Cx} : yn X (.type "set") (adg X.w) := by
 intro pins s σ H xs us Q I r h
 obtain ⟨rfl, q⟩ := h
 cases r
 refine call_set_0 fun led => ?_
 refine ⟨.ref s.heap.objs.size, _, I.laid (t' := s.toks) (fun b u e => apb _ e) (ao5 _) (SetO.ok (xs := []) (o := { cls := .type "set", dict := none, data := .set #[] 0 (.fresh 0 0 led) }) (es := #[]) (ep := 0) (t := .fresh 0 0 led) ⟨apA _ rfl, ⟨rfl, rfl, rfl⟩, rfl, rfl, ahK led⟩), rfl, q _ (I.hok.fresh (ao5 _))⟩
def ab1 (d : PyData) : Prop := vK d /\ ∃ xs, d = .tuple xs
theorem ql {K : ao0} {H : Hp} {d : PyData} {v : V} (k : ab1 d) (r : Rep K H d v) : ∃ b, v = .ref b := by
 obtain ⟨_, xs, rfl⟩ := k
 obtain ⟨a, _, e, _⟩ := rep_tuple.mp r
 exact ⟨a, e⟩
theorem qm {X : Cx} {pins : List (Addr × Obj)} {σ : St} {H : Hp} {s : Shared} {d : PyData} {b : Addr} (I : Inv X pins σ H s) (k : vK d) (r : Rep X.K H d (.ref b)) : KeyAt s.heap d b := by
 obtain ⟨as, ra⟩ := yM I d (.ref b) (.ref b) r rfl
 exact ⟨⟨as, ra⟩, k.1, k.2⟩
def ana (w : World) (K : ao0) (neg : Bool) : R2 := fun x y H Q => ∃ a b d xs, x = .ref b /\ y = .ref a /\ H a = some (SetO w a xs) /\ (∀ z ∈ xs, vK z.1 /\ Rep K H z.1 (.ref z.2)) /\ vK d /\ Rep K H d (.ref b) /\ Q (.bl (if neg then !decide (d ∈ xs.map (·.1)) else decide (d ∈ xs.map (·.1)))) H
theorem akW {X : Cx} (hu : X.A.units + 64 < cLine) {pins : List (Addr × Obj)} {s : Shared} {σ : St} {H : Hp} {a b : Addr} {d : PyData} {xs : List (PyData × Addr)} (I : Inv X pins σ H s) (hS : H a = some (SetO X.w a xs)) (ks : ∀ z ∈ xs, vK z.1 /\ Rep X.K H z.1 (.ref z.2)) (kd : vK d) (rd : Rep X.K H d (.ref b)) {Q : Bool -> Shared -> Prop} {E : Value -> Shared -> Prop}
  (q : Q (decide (d ∈ xs.map (·.1))) { s with toks := s.toks + z5 d }) : wpAny (model X.prog X.w) X.A (contains (.ref a) (.ref b)) Q E s := by
 obtain ⟨⟨o, es, ep, t, S⟩, _⟩ := I.hok a _ hS
 exact aeu S (fun x hx => qm I (ks x hx).1 (ks x hx).2) (qm I kd rd) (by omega) q
theorem ahL {X : Cx} (hu : X.A.units + 64 < cLine) : OpR X (compareOp .NotIn) (ana X.w X.K true) := by
 intro pins s σ H x y v u Q I rx ry h
 obtain ⟨a, b, d, xs, rfl, rfl, hS, ks, kd, rd, q⟩ := h
 cases rx
 cases ry
 show wpAny _ _ (do return Value.bool (!(<- contains (.ref a) (.ref b)))) _ _ s
 apply wpAny_bind
 exact akW hu I hS ks kd rd (wpAny_pure ⟨.bl _, H, I.tok _, rfl, q⟩)
theorem aby {X : Cx} {K : ao0} {w : World} (hw : X.w = w) (hK : X.K = K) (hu : X.A.units + 64 < cLine) : OpR X (compareOp .NotIn) (ana w K true) := hw ▸ hK ▸ ahL hu
def ajl (w : World) (K : ao0) : V -> List V -> Hp -> VK -> Prop := fun x ys H Q => ∃ a b d xs, x = .ref a /\ ys = [.ref b] /\ H a = some (SetO w a xs) /\ (∀ z ∈ xs, vK z.1 /\ Rep K H z.1 (.ref z.2)) /\ vK d /\ Rep K H d (.ref b) /\ xs.length < 300 /\
 (d ∈ xs.map (·.1) -> Q .non H) /\ (d ∉ xs.map (·.1) -> ∀ xs', xs'.Perm ((d, b) :: xs) -> Q .non (upd H a (SetO w a xs')))
theorem akX {X : Cx} (hu : X.A.units + 64 < cLine) : MtR X "set.add" (ajl X.w X.K) := by
 intro pins s σ H x ys v us Q I rx ry h
 obtain ⟨a, b, d, xs, rfl, rfl, hS, ks, kd, rd, few, q1, q2⟩ := h
 obtain ⟨u, rfl, ru⟩ := vals1 ry
 cases rx
 cases ru
 obtain ⟨⟨o, es, ep, t, S⟩, _⟩ := I.hok a _ hS
 refine am7 S (fun x hx => qm I (ks x hx).1 (ks x hx).2) (qm I kd rd) (by omega) few (fun hd => ⟨.non, H, I.tok _, rfl, q1 hd⟩) fun hd xs' o' es' ep' t' h' pm sb S' => ?_
 refine ⟨.non, _, I.write (t' := s.toks + z5 d) (x := a) (e := a) (by rw [hS]; exact trivial) (.inl rfl) (fun b u nb e => (sb.2 b nb).trans e) ⟨o', S'.ob⟩ (SetO.ok S'), rfl, q2 hd xs' pm⟩
theorem aew {X : Cx} {K : ao0} {w : World} (hw : X.w = w) (hK : X.K = K) (hu : X.A.units + 64 < cLine) : MtR X "set.add" (ajl w K) := hw ▸ hK ▸ akX hu
theorem v3 {X : Cx} {w : World} (hw : X.w = w) : yn X (.type "set") (adg w) := hw ▸ aev
def aos (w : World) (r : V -> List V -> Hp -> VK -> Prop) (to : TE) (t : TA) : TE := fun σ H Q => to σ H fun x H1 => (∃ a xs, x = .ref a /\ H1 a = some (SetO w a xs)) /\ t σ H1 fun xs H2 => r x xs H2 Q
theorem ajm {X : Cx} {w : World} {o e : Expr} {es : List Expr} {to : TE} {t : TA} {name : Str} {apos cpos : Pos} {id : String} {r : V -> List V -> Hp -> VK -> Prop} (hw : X.w = w) (slot : Slot "set" name id) (hty : typeOf (.builtin id) = pure (.type "method_descriptor")) (hm : MtR X id r) (ho : PE X o to) (ha : PA X (e :: es) t)
  (hbase : attributeBase o name X.env (eval o X.env) = eval o X.env := by rfl)
  (hfew : ((backTo cpos (starEach (e :: es) X.env)).all (fun x => !x.1) && (backToKw cpos (keywordEach [] X.env)).all (fun x => x.1.isSome)
   && decide ((e :: es).length + ([] : List Keyword).length + (if ([] : List Keyword).isEmpty then 0 else 1) < 30)) = true := by rfl)
  (hline : (apos.endLine == cpos.line) = true := by rfl) (hs : starEach (e :: es) X.env = (false, eval e X.env) :: starEach es X.env := by rfl) (hplain : (backTo cpos (starEach es X.env)).any (·.1) = false := by rfl) :
  PE X (.Call (.Attribute o name apos) (e :: es) [] cpos) (aos w r to t) := by
 subst hw
 intro pins s σ H Q I h
 refine wpAny_Call_method_late hbase hfew hline rfl (thn (ho pins s σ H _ I h) fun v s1 ⟨x, H1, I1, r1, ty, q1⟩ => ?_)
 obtain ⟨a, xs, rfl, hS⟩ := ty
 cases r1
 obtain ⟨⟨ob, es', ep, t', S⟩, _⟩ := I1.hok a _ hS
 refine ⟨"set", id, PySem.F.plainAttrs_set, slot, hty, ⟨ob, S.ob, S.ex.1⟩, fun b e => ?_, ?_⟩
 ·cases e
  exact ⟨ob, S.ob, S.ex.2.1⟩
 have hA := ha cpos pins s1 σ H1 _ I1 q1
 rw [hs] at hA ⊢
 refine art (by show (false || (backTo cpos (starEach es X.env)).any (·.1)) = false; rw [hplain] <;> rfl) (arL ?_)
 exact thn hA fun us s2 ⟨vs, H2, I2, r2, q2⟩ => hm pins s2 σ H2 (.ref a) vs (.ref a) us Q I2 rfl r2 q2
section
variable {w : World} {K : ao0} {f : Fx} {Ds : List Addr} {ρ : zr} {cs : List OC} {te : TE} {O : MEnds} {i j : Nat} {ks : List PyData}
theorem ajn {P : OC -> Prop} (p : P (.set [])) : ade w K f (tCB (adg w) jS) ρ P := fun σ H Q e q =>
 ⟨rfl, fun a hn => q (.set []) a _ (.of_same (zX hn _) e.fd) hn ⟨[], zy, (fun _ z => nomatch z), (fun d => Iff.rfl), ao5 0⟩ p⟩
theorem ame {neg : Bool} {B : Bool -> Prop} (hi : ρ[i]? = some (some (.own (f.M.length + j)))) (hc : cs[j]? = some (.set ks)) (h : PEm w K f Ds te ρ cs fun d => ab1 d /\ B (if neg then !decide (d ∈ ks) else decide (d ∈ ks))) :
  PTm w K f Ds (adZ (tOp (ana w K neg) te (yf i))) ρ cs B := fun se σ H H2 Q x q => by
 have hj : j < Ds.length := by rw [<- x.len]; exact (ao1.mp hc).1
 have hD : Ds[j]? = some Ds[j] := aoX hj
 refine h se σ H H2 _ x fun d v H1 g1 r1 ⟨kd, p⟩ => ?_
 have x1 := x.go g1 (x.env.mono g1)
 obtain ⟨b, rfl⟩ := ql kd r1
 obtain ⟨xs, h1, h2, h3, _⟩ := x1.own j _ _ hD hc
 refine ⟨_, yU hi x1 hD, Ds[j], b, d, xs, rfl, rfl, h1, fun z hz => ⟨(h2 z hz).1, Rep.mono (zl _ _) _ _ (h2 z hz).2⟩, kd.1, Rep.mono (zl _ _) _ _ r1, _, rfl, ?_⟩
 have : decide (d ∈ xs.map (·.1)) = decide (d ∈ ks) := decide_eq_decide.mpr (h3 d)
 rw [this]
 exact q _ H1 g1 p
theorem amf (hi : ρ[i]? = some (some (.own (f.M.length + j)))) (hc : cs[j]? = some (.set ks)) (hl : ks.length < 300) (h : PEm w K f Ds te ρ cs fun d => ab1 d /\ (d ∈ ks -> O.nx ρ cs) /\ (d ∉ ks -> O.nx ρ (cs.set j (.set (d :: ks))))) :
  PSm w K f Ds (adU (aos w (ajl w K) (yf i) (yd te jS))) ρ cs O := fun se σ H H2 E x n r b k => by
 have hj : j < Ds.length := by rw [<- x.len]; exact (ao1.mp hc).1
 have hD : Ds[j]? = some Ds[j] := aoX hj
 obtain ⟨xs0, h0, _⟩ := x.own j _ _ hD hc
 refine ⟨_, yU hi x hD, ⟨Ds[j], xs0, rfl, h0⟩, ?_⟩
 refine h se σ H H2 _ x fun d v H1 g1 r1 ⟨kd, p1, p2⟩ => ?_
 have x1 := x.go g1 (x.env.mono g1)
 obtain ⟨b, rfl⟩ := ql kd r1
 obtain ⟨xs, h1, h2, h3, h4⟩ := x1.own j _ _ hD hc
 refine ⟨Ds[j], b, d, xs, rfl, rfl, h1, fun z hz => ⟨(h2 z hz).1, Rep.mono (zl _ _) _ _ (h2 z hz).2⟩, kd.1, Rep.mono (zl _ _) _ _ r1, by omega, fun hd => n _ _ _ _ x1 (p1 ((h3 d).mp hd)), fun hd xs' pm => n _ _ _ _ (x1.put se hD (c' := .set (d :: ks)) ⟨xs', zy, fun z hz => ?_, fun e => ?_, ?_⟩) (p2 fun z => hd ((h3 d).mpr z))⟩
 ·rcases ao7.mp (pm.mem_iff.mp hz) with rfl | hz
  ·exact ⟨kd.1, r1⟩
  ·exact h2 z hz
 ·rw [(pm.map (·.1)).mem_iff, apq, ao7, ao7, h3 e]
 ·rw [pm.length_eq, apn, apn]
  omega
end
theorem DicO.ok {P : Program} {w : World} {H : Hp} {h : Heap} {a : Addr} {xs : List (PyData × Addr × Value)} {o : Obj} {es : Array DictEntry} {ep : Nat} (S : DicObj w h a xs o es ep) : ObjOk P w H h a (DicO w a xs) :=
 ⟨⟨o, es, ep, S⟩, ⟨o, S.ob⟩, fun h1 h2 ⟨o, es, ep, S⟩ k => ⟨o, es, ep, ⟨k o S.ob, S.ex, S.da, S.el, S.nd, S.ns⟩⟩⟩
theorem agM {X : Cx} {pins : List (Addr × Obj)} {σ : St} {H : Hp} {s : Shared} (I : Inv X pins σ H s) : sysModules < s.heap.objs.size :=
 as3 (by decide) (I.ok.mod.glob.keeps I.bk).lt
def agN (w : World) : TE := fun _ H Q => ∀ p, H p = none -> Q (.ref p) (upd H p (DicO w p []))
theorem acw {X : Cx} {w : World} {pos : Pos} (hw : X.w = w) : PE X (.Dict [] [] pos) (agN w) := by
 subst hw
 intro pins s σ H Q I h
 refine wpAny_Dict_empty ⟨.ref s.heap.objs.size, _, I.laid (a := s.heap.objs.size) (t' := s.toks) (fun _ _ q => apb _ q) (ao5 _) (DicO.ok (xs := []) (o := { cls := .type "dict", data := .dict #[] }) (es := #[]) (ep := 0) ⟨apA _ rfl, ⟨rfl, rfl, rfl⟩, rfl, rfl, ap8, beq_eq_false_iff_ne.mpr (aqa (apB (agM I)))⟩), rfl, h _ (I.hok.fresh (ao5 _))⟩
abbrev vL (K : ao0) (H : Hp) (xs : List (PyData × Addr × Value)) : Prop := ∀ z ∈ xs, vK z.1 /\ Rep K H z.1 (.ref z.2.1)
theorem adh {X : Cx} {pins : List (Addr × Obj)} {σ : St} {H : Hp} {s : Shared} {a : Addr} {xs : List (PyData × Addr × Value)} (I : Inv X pins σ H s) (hS : H a = some (DicO X.w a xs)) (ks : vL X.K H xs) : s.heap.DictOfH (aaZ X.prog X.w) a xs /\ (a == sysModules) = false := by
 obtain ⟨⟨o, es, ep, S⟩, _⟩ := I.hok a _ hS
 exact ⟨⟨o, es, ep, S.ob, S.ex, S.da, S.el, fun x hx => qm I (ks x hx).1 (ks x hx).2, S.nd⟩, S.ns⟩
def aa1 (w : World) (K : ao0) : V -> V -> V -> Hp -> (Hp -> Prop) -> Prop := fun o i v H Q => ∃ a b d xs, o = .ref a /\ i = .ref b /\ H a = some (DicO w a xs) /\ vL K H xs /\ vK d /\ Rep K H d (.ref b) /\ xs.length <= 1000 /\ ∀ u, RelV v u -> Q (upd H a (DicO w a (storedH xs d b u)))
theorem akY {X : Cx} (hu : X.A.units + 64 < cLine) : akv X (aa1 X.w X.K) := by
 intro pins s σ H o i v ov iv u Q I ro ri rv h
 obtain ⟨a, b, d, xs, rfl, rfl, hS, ks, kd, rd, hl, q⟩ := h
 cases ro
 cases ri
 obtain ⟨hm, ns⟩ := adh I hS ks
 have hu1 : X.A.in1.units = X.A.units + 1 := rfl
 refine wpAny_setItem_heap (by show _ + 40 < cLine; omega) (qm I kd rd) hm (fun h' hm' sb => ?_) (ap1 (z4 hl))
 obtain ⟨o', es', ep', x1, x2, x3, x4, x5, x6⟩ := hm'
 exact ⟨_, I.write (t' := s.toks + z5 d) (x := a) (e := a) (by rw [hS]; exact trivial) (.inl rfl) (fun b u nb e => (sb.2 b nb).trans e) ⟨o', x1⟩ (DicO.ok ⟨x1, x2, x3, x4, x6, ns⟩), q u rv⟩
theorem v5 {X : Cx} {K : ao0} {w : World} (hw : X.w = w) (hK : X.K = K) (hu : X.A.units + 64 < cLine) : akv X (aa1 w K) := hw ▸ hK ▸ akY hu
def adi (w : World) (K : ao0) : R2 := fun x y H Q => ∃ a b d xs p v, x = .ref a /\ y = .ref b /\ H a = some (DicO w a xs) /\ vL K H xs /\ vK d /\ Rep K H d (.ref b) /\ atKey xs d = some p /\ RelV v p.2 /\ Q v H
theorem anb {X : Cx} (hu : X.A.units + 64 < cLine) : IxR X (adi X.w X.K) := by
 intro value slice pins s σ H x y v u Q I rx ry h hs
 obtain ⟨a, b, d, xs, p, z, rfl, rfl, hS, ks, kd, rd, hp, rz, q⟩ := h
 cases rx
 cases ry
 obtain ⟨hm, ns⟩ := adh I hS ks
 have hu1 : X.A.in1.units = X.A.units + 1 := rfl
 refine subscriptTail_builtinR (x := p.2) hm.typeIs asa.lookup ?_ hs
 exact wpAny_getItem_heap (by show _ + 40 < cLine; omega) (qm I kd rd) hm hp ⟨rfl, z, H, I.tok _, rz, q⟩
theorem agO {X : Cx} {K : ao0} {w : World} (hw : X.w = w) (hK : X.K = K) (hu : X.A.units + 64 < cLine) : IxR X (adi w K) := hw ▸ hK ▸ anb hu
def afz (w : World) (K : ao0) (neg : Bool) : R2 := fun x y H Q => ∃ a b d xs, x = .ref b /\ y = .ref a /\ H a = some (DicO w a xs) /\ vL K H xs /\ vK d /\ Rep K H d (.ref b) /\ Q (.bl (if neg then !(atKey xs d).isSome else (atKey xs d).isSome)) H
noncomputable def dput (k v : PyData) (kvs : List (PyData × PyData)) : List (PyData × PyData) := if k ∈ kvs.map (·.1) then kvs.map (fun p => if p.1 = k then (p.1, v) else p) else kvs ++ [(k, v)]
noncomputable def jf (k : PyData) (kvs : List (PyData × PyData)) : Option PyData := (kvs.find? fun p => decide (p.1 = k)).map (·.2)
section
variable {K : ao0} {Hh : Hp}
theorem adj : ∀ {xs : List (PyData × Addr × Value)} {kvs : List (PyData × PyData)}, Paired (EntR K Hh) xs kvs -> xs.length = kvs.length
 | _, _, .nil => rfl
 | _, _, .cons _ t => by rw [apn, apn, adj t]
theorem yI : ∀ {xs : List (PyData × Addr × Value)} {kvs : List (PyData × PyData)}, Paired (EntR K Hh) xs kvs -> vL K Hh xs
 | _, _, .nil => fun z hz => nomatch hz
 | _, _, .cons h t => fun z hz => by
  rcases ao7.mp hz with rfl | hz
  ·exact ⟨h.2.1, h.2.2.1⟩
  ·exact yI t z hz
theorem v7 (k : PyData) : ∀ {xs : List (PyData × Addr × Value)} {kvs : List (PyData × PyData)}, Paired (EntR K Hh) xs kvs -> (atKey xs k = none /\ jf k kvs = none /\ k ∉ kvs.map (·.1)) \/ ∃ p d v, atKey xs k = some p /\ jf k kvs = some d /\ Rep K Hh d v /\ RelV v p.2 /\ k ∈ kvs.map (·.1)
 | _, _, .nil => .inl ⟨rfl, rfl, fun z => nomatch z⟩
 | x :: xs, p :: kvs, .cons ⟨h1, h2, h3, v, h4, h5⟩ t => by
  by_cases e : x.1 = k
  ·refine .inr ⟨x.2, p.2, v, ?_, ?_, h4, h5, ?_⟩
   ·unfold atKey; rw [aqk, decide_eq_true e]; rfl
   ·unfold jf; rw [aqk, decide_eq_true (h1 ▸ e)]; rfl
   ·rw [apq]; exact ao7.mpr (.inl (h1 ▸ e).symm)
  ·have e' : ¬ p.1 = k := fun z => e (h1.trans z)
   have a1 : atKey (x :: xs) k = atKey xs k := by unfold atKey; rw [aqk, decide_eq_false e]
   have a2 : jf k (p :: kvs) = jf k kvs := by unfold jf; rw [aqk, decide_eq_false e']
   rw [a1, a2, apq]
   rcases v7 k t with ⟨b1, b2, b3⟩ | ⟨q, d, u, b1, b2, b3, b4, b5⟩
   ·exact .inl ⟨b1, b2, fun z => (ao7.mp z).elim (fun z => e' z.symm) b3⟩
   ·exact .inr ⟨q, d, u, b1, b2, b3, b4, ao3 _ b5⟩
theorem agP (k : PyData) {d : PyData} {v : V} {u : Value} (rd : Rep K Hh d v) (rv : RelV v u) : ∀ {xs : List (PyData × Addr × Value)} {kvs : List (PyData × PyData)}, Paired (EntR K Hh) xs kvs -> Paired (EntR K Hh) (xs.map (putAt k u)) (kvs.map fun p => if p.1 = k then (p.1, d) else p)
 | _, _, .nil => .nil
 | x :: xs, p :: kvs, .cons ⟨h1, h2, h3, w, h4, h5⟩ t => by
  rw [apq, apq]
  refine .cons ?_ (agP k rd rv t)
  unfold putAt
  by_cases e : x.1 = k
  ·rw [if_pos e, if_pos (h1 ▸ e)]
   exact ⟨h1, h2, h3, v, rd, rv⟩
  ·rw [if_neg e, if_neg (fun z => e (h1.trans z))]
   exact ⟨h1, h2, h3, w, h4, h5⟩
theorem agQ {x : PyData × Addr × Value} {p : PyData × PyData} (h : EntR K Hh x p) : ∀ {xs : List (PyData × Addr × Value)} {kvs : List (PyData × PyData)}, Paired (EntR K Hh) xs kvs -> Paired (EntR K Hh) (xs ++ [x]) (kvs ++ [p])
 | _, _, .nil => .cons h .nil
 | _, _, .cons h' t => .cons h' (agQ h t)
theorem agR {k d : PyData} {b : Addr} {v : V} {u : Value} (kk : vK k) (rk : Rep K Hh k (.ref b)) (rd : Rep K Hh d v) (rv : RelV v u) {xs : List (PyData × Addr × Value)} {kvs : List (PyData × PyData)} (t : Paired (EntR K Hh) xs kvs) : Paired (EntR K Hh) (storedH xs k b u) (dput k d kvs) := by
 unfold storedH dput
 rcases v7 k t with ⟨b1, b2, b3⟩ | ⟨q, d', v', b1, b2, b3, b4, b5⟩
 ·rw [b1, if_neg (by simp), if_neg b3]
  exact agQ ⟨rfl, kk, rk, v, rd, rv⟩ t
 ·rw [b1, if_pos (show (some q).isSome = true from rfl), if_pos b5]
  exact agP k rd rv t
end
section
variable {w : World} {K : ao0} {f : Fx} {Ds : List Addr} {ρ : zr} {cs : List OC} {te tk : TE} {O : MEnds} {i j : Nat} {kvs : List (PyData × PyData)}
theorem ajo {P : OC -> Prop} (p : P (.dic [])) : ade w K f (agN w) ρ P := fun σ H Q e q =>
 fun a hn => q (.dic []) a _ (.of_same (zX hn _) e.fd) hn ⟨[], zy, .nil⟩ p
theorem agS (hi : ρ[i]? = some (some (.own (f.M.length + j)))) (hc : cs[j]? = some (.dic kvs)) (hl : kvs.length <= 1000)
  (h : PEd K (f.withs Ds) te ρ fun v => PEd K (f.withs Ds) tk ρ fun k => ab1 k /\ O.nx ρ (cs.set j (.dic (dput k v kvs)))) :
  PSm w K f Ds (jV te (adW (yf i) tk (aa1 w K))) ρ cs O := fun se σ H H2 E x n r b k => by
 have hj : j < Ds.length := by rw [<- x.len]; exact (ao1.mp hc).1
 have hD : Ds[j]? = some Ds[j] := aoX hj
 refine h σ H _ x.env fun v vv H1 g1 r1 p1 => ?_
 have x1 := x.go g1 (x.env.mono g1)
 refine ⟨_, yU hi x1 hD, ?_⟩
 refine p1 σ H1 _ x1.env fun kd kv H3 g3 r3 ⟨kt, p3⟩ => ?_
 have x3 := x1.go g3 (x1.env.mono g3)
 obtain ⟨b', rfl⟩ := ql kt r3
 obtain ⟨xs, h1, h2⟩ := x3.own j _ _ hD hc
 have rv := Rep.mono g3.sm _ _ r1
 refine ⟨Ds[j], b', kd, xs, rfl, rfl, h1, fun z hz => ⟨(yI h2 z hz).1, Rep.mono (zl _ _) _ _ (yI h2 z hz).2⟩, kt.1, Rep.mono (zl _ _) _ _ r3, by rw [adj h2]; exact hl, fun u ru => ?_⟩
 exact n _ _ _ _ (x3.put se hD (c' := .dic (dput kd v kvs)) ⟨_, zy, agR kt.1 r3 rv ru h2⟩) p3
theorem aot {P : PyData -> Prop} (hi : ρ[i]? = some (some (.own (f.M.length + j)))) (hc : cs[j]? = some (.dic kvs)) (h : PEm w K f Ds tk ρ cs fun k => ab1 k /\ ∃ d, jf k kvs = some d /\ P d) : PEm w K f Ds (tOp (adi w K) (yf i) tk) ρ cs P := fun se σ H H2 Q x q => by
 have hj : j < Ds.length := by rw [<- x.len]; exact (ao1.mp hc).1
 have hD : Ds[j]? = some Ds[j] := aoX hj
 refine ⟨_, yU hi x hD, ?_⟩
 refine h se σ H H2 _ x fun k v H1 g1 r1 ⟨kt, d, hd, p⟩ => ?_
 have x1 := x.go g1 (x.env.mono g1)
 obtain ⟨b, rfl⟩ := ql kt r1
 obtain ⟨xs, h1, h2⟩ := x1.own j _ _ hD hc
 rcases v7 k h2 with ⟨b1, b2, b3⟩ | ⟨pp, d', v', b1, b2, b3, b4, b5⟩
 ·rw [b2] at hd; cases hd
 ·rw [b2] at hd
  cases hd
  exact ⟨Ds[j], b, k, xs, pp, v', rfl, rfl, h1, fun z hz => ⟨(yI h2 z hz).1, Rep.mono (zl _ _) _ _ (yI h2 z hz).2⟩, kt.1, Rep.mono (zl _ _) _ _ r1, b1, b4, q _ _ H1 g1 b3 p⟩
theorem amg (h : PEm w K f Ds te ρ cs O.rt) : PSm w K f Ds (acP te) ρ cs O := fun se σ H H2 E x n r b k =>
 h se σ H H2 _ x fun d v H' g' r' p => r d v ρ cs σ H' (x.go g' (x.env.mono g')) (Rep.mono same_withs d v r') p
end
def akZ (K : ao0) (ns : List Int) (v : Value) : Bool := match v with
 | .ref t => (match K.lookup t with
  | some o => o.cls == .type "tuple" && (match o.data with
   | .seq its _ => KTD.intsLook its.toList ns && decide (its.size <= 1000)
   | _ => false)
  | none => false)
 | _ => false
def ahM (K : ao0) (a : Addr) (D : List (Str × List Int)) : Bool := !(a == sysModules) && (match K.lookup a with
 | some o => o.cls == .type "dict" && o.dict.isNone && o.slots.isEmpty && (match o.data with
  | .dict es _ => KTD.rowsLook (akZ K) es.toList D
  | _ => false)
 | none => false)
theorem acx : ∀ {vs : List Value} {ns : List Int}, IntsAre vs ns -> Vals (ns.map V.int) vs
 | _, _, .nil => .nil
 | _, _, .cons n t h => .cons ⟨t, rfl⟩ (acx h)
theorem anc {K : ao0} {ns : List Int} {v : Value} (h : akZ K ns v = true) : ∃ t, v = .ref t /\ ∀ H, SqT K H t (ns.map V.int) := by
 unfold akZ at h
 split at h
 ·rename_i t
  split at h
  ·rename_i o ho
   rw [ao6] at h
   obtain ⟨h1, h2⟩ := h
   split at h2
   ·rename_i its n hd
    rw [ao6] at h2
    exact ⟨t, rfl, fun H => .inr ⟨o, its, n, ho, beq_iff_eq.mp h1, hd, ap1 (z4 (of_decide_eq_true h2.2)), acx (KTD.ints_of_look h2.1)⟩⟩
   ·cases h2
  ·cases h
 ·cases h
def aou (K : ao0) (D : List (Str × List Int)) (tk : TE) : TE := fun σ H Q => tk σ H fun y H1 => ∃ x ns, y = .str x /\ asR x D = some ns /\ ∀ t, (∀ H', SqT K H' t (ns.map V.int)) -> Q (.ref t) H1
theorem ajp {X : Cx} {K : ao0} {x : Str} {a : Addr} {D : List (Str × List Int)} {key : Expr} {tk : TE} {p pos : Pos} (hK : X.K = K) (hg : Gl X x) (hm : X.mg x = some (.ref a)) (hT : ahM K a D = true) (hk : PE X key tk) (hs : agc key) (hd : (x == ("__debug__" : Str)) = false := by decide) :
  PE X (.Subscript (.Name x p) key pos) (aou K D tk) := by
 subst hK
 intro pins s σ H Q I h
 unfold ahM at hT
 rw [ao6] at hT
 obtain ⟨h0, hT⟩ := hT
 split at hT
 case h_2 => cases hT
 case h_1 o ho =>
  simp only [ao6] at hT
  obtain ⟨⟨⟨e1, e2⟩, e3⟩, e4⟩ := hT
  split at e4
  case h_2 => cases e4
  case h_1 es ep hdat =>
   have rows : KTD.Rows (fun ns v => akZ X.K ns v = true) es.toList D := KTD.rows_of_look (fun _ _ z => z) e4
   refine Subscript_ (qS I hg hm ?_ hd)
   refine thn (hk pins s σ H _ I h) fun u s1 ⟨y, H1, I1, ry, z, ns, ey, dat, q⟩ => ?_
   subst ey
   obtain ⟨tk', rfl⟩ := ry
   have ho1 : s1.heap.get? a = some o := I1.kIn a o ho
   have hT1 : s1.TypeIs (.ref a) "dict" := ⟨o, ho1, beq_iff_eq.mp e1⟩
   obtain ⟨v, hv, hr⟩ := rows.find_some dat
   obtain ⟨t, rfl, sq⟩ := anc hr
   refine subscriptTail_builtinR (x := .ref t) hT1 asa.lookup ?_ (hs _ _)
   unfold getItem
   try with_reducible refine wpAny_holding ?_
   apply wpAny_bind; refine wpAny_sequenceKey hT1 (by decide) ?_
   apply wpAny_bind
   refine wpAny_callSpecial?_slot (name := arw "__getitem__") hT1 slot_dict_getitem (wpAny_call_entry slot_dict_getitem hT1 entry_dict_getitem ?_ (args_dict_getitem _ _))
   show wpAny _ _ (dictGet a (.str z tk') >>= _) _ _ s1
   apply wpAny_bind
   unfold dictGet
   try with_reducible refine wpAny_holding ?_
   apply wpAny_bind; apply wpAny_pyHash_str
   apply wpAny_bind
   refine KTD.kt_dictFind_strs (s := { s1 with toks := s1.toks + 1 }) ho1 hdat (by obtain ⟨l⟩ := es; simpa using rows.exact) ?_
   cases hi : es.findIdx? fun e => e.key.isStr z with
   | none =>
    exfalso
    have hn : es.toList.find? (fun e => e.key.isStr z) = none := by
     rw [ar2]
     intro e he
     have := Array.findIdx?_eq_none_iff.mp hi e (arM.mp he)
     simpa using this
    rw [hn] at hv
    cases hv
   | some i =>
    obtain ⟨hlt, hi1, hi2⟩ := Array.findIdx?_eq_some_iff_getElem.mp hi
    have hval : es[i].val = .ref t := by
     have hf : es.toList.find? (fun e => e.key.isStr z) = some es[i] := by
      rw [List.find?_eq_some_iff_getElem]
      refine ⟨hi1, i, by simpa using hlt, by simp, fun j hj => ?_⟩
      have := hi2 j hj
      simpa using this
     rw [hf] at hv
     exact Option.some.inj hv
    apply wpAny_bind
    refine wpAny_dictEntries (s := { s1 with toks := s1.toks + 1 }) ho1 hdat (wpAny_pure ?_)
    rw [aql hlt]
    refine wpAny_pure ⟨es[i].val, rfl, wpAny_pure ?_⟩
    rw [hval]
    exact ⟨rfl, .ref t, H1, I1.tok _, rfl, q t sq⟩
section
variable {K : ao0} {f : Fx} {ρ : zr} {P : PyData -> Prop} {tk : TE} {D : List (Str × List Int)}
theorem amh (h : PEd K f tk ρ fun y => ∃ x ns, y = .str x /\ asR x D = some ns /\ P (.tuple (ns.map .int))) : PEd K f (aou K D tk) ρ P := fun σ H Q e q =>
 h σ H _ e fun y v H1 g1 r1 ⟨x, ns, ey, hd, p⟩ => by
  subst ey
  exact ⟨x, ns, rep_str.mp r1, hd, fun t sq => q _ _ H1 g1 (rep_tuple.mpr ⟨t, ns.map V.int, rfl, sq _, Reps.ints' ns⟩) p⟩
end
structure MinAt (h0 : Heap) (its : List Value) (ds : List PyData) (as : List Addr) : Prop where
 ra : ReadsAll h0 its ds as
 pl : ∀ d ∈ ds, zA d = true
 cp : ∀ d ∈ ds, ∀ e ∈ ds, vW d e = true
 dp : ∀ d ∈ ds, d.depth <= 50
section
variable {w : World} {K : ao0} {f : Fx} {Ds : List Addr} {ρ : zr} {cs : List OC} {O : MEnds} {tt : TT} {te : TE} {i j n : Nat}
theorem ahN {H H' H2 : Hp} {σ : St} (se : Sep f Ds) (x : CM w K f Ds H2 ρ cs σ H) (g : Goes f H H') : Goes (f.withs Ds) H H' := by
 have kp : ∀ D ∈ Ds, H' D = H D := fun D hD => by
  obtain ⟨o, ho⟩ := x.env.fd.mm D (jn hD)
  have h1 : hide H f D = some o := zB (fun z => z.elim (se.nf D hD) (se.nm D hD)) ho
  rw [ho, (zP (g.sm D o h1)).2]
 refine ⟨fun b o hb => ?_, ⟨fun p e => ?_, fun b hb => ?_, x.env.fd.nm⟩, fun b hb => ?_⟩
 ·obtain ⟨n1, n2⟩ := zP hb
  have h1 : hide H f b = some o := zB (fun z => n1 (z.elim .inl fun z => .inr (api _ z))) n2
  exact zB n1 (zP (g.sm b o h1)).2
 ·exact g.2.fd p e
 ·rcases apj.mp hb with h | h
  ·rw [kp b (aqy.mp h)]
   exact x.env.fd.mm b hb
  ·exact g.2.mm b h
 ·rcases apj.mp hb with h | h
  ·exact kp b (aqy.mp h)
  ·exact g.kp b h
theorem agT {B : Bool -> Prop} (h : PTd K f tt (ρ.map (freed f.M.length cs)) B) : PTm w K f Ds tt ρ cs B := fun se σ H H2 Q x q =>
 h σ H Q (x.free se) fun b H' g p => q b H' (ahN se x g) p
end
end L2
end
section
namespace L2
open PySem PySem.Spec PyProof.Rows
structure TM (K : ao0) (f : Fx) (a : Addr) (as : List Addr) (H2 : Hp) (ρ : zr) (rows : List (List Int)) (σ : St) (H : Hp) : Prop where
 env : EnvOk K (f.withs (a :: as)) ρ σ H
 sm : Same (hide H2 (f.withs (a :: as))) (hide H (f.withs (a :: as)))
 kp : ∀ b ∈ f.M, H b = H2 b
 tab : TabAt H a as rows
section
variable {P : Program} {w : World} {A : Around} {E : Value -> Shared -> Prop} {s : Shared} {I d : Addr} {o : Obj} {es : Array DictEntry} {ep i : Nat}
theorem afA {Q : Value -> Shared -> Prop} (nd : (d == sysModules) = false) (g : s.heap.get? d = some o) (x : o.ExactDict) (y : o.data = .dict es ep)
  (q : Q (.ref s.heap.objs.size) { s with heap := s.heap.push { cls := .type "dict_keyiterator", data := .fields #[.ref d, .int 0 0, .int es.size 0, .int ep 0] } }) : wpAny (model P w) A (pyIter (.ref d)) Q E s := by
 have T : s.TypeIs (.ref d) "dict" := ⟨o, g, x.1⟩
 refine wpAny_pyIter_slot T asE (wpAny_call_entry asE T PySem.F.entry_dict_iter ?_ (PySem.F.args_dict_iter_1 _))
 unfold Builtin.«dict.__iter__» Builtin.Dict.dictSlotNone Builtin.Dict.showsAll
 apply wpAny_bind
 apply wpAny_bind
 apply wpAny_notOrdered_dict T
 apply wpAny_pure
 apply wpAny_bind
 refine wpAny_pure (a := d) ?_
 apply wpAny_bind
 rw [if_neg (fun z => aoY (nd.symm.trans z))]
 apply wpAny_pure
 apply wpAny_bind
 apply wpAny_dictEntries g y
 apply wpAny_bind
 apply wpAny_dictEpoch g y
 apply wpAny_bind
 refine wpAny_newObj_type ?_ (by size_fits)
 exact wpAny_pure ⟨_, rfl, "dict_keyiterator", _, ⟨_, apA _ rfl, rfl⟩, aqC.lookup, q⟩
theorem acy {Q : Option Value -> Shared -> Prop} (hh : A.handled = none) (t : s.heap.IsKeyIter I d i es.size ep) (g : s.heap.get? d = some o) (y : o.data = .dict es ep)
  (q1 : ∀ e h', es[i]? = some e -> h'.IsKeyIter I d (i + 1) es.size ep -> aqJ I s.heap h' -> Q (some e.key) { s with heap := h' })
  (q2 : es[i]? = none -> ∀ h', Heap.ExtBut I s.heap h' -> Q none { s with heap := h' }) : wpAny (model P w) A (pyNext (.ref I)) Q E s := by
 obtain ⟨oi, gi, ci, di⟩ := id t
 have T := t.typeIs
 have own : Builtin.Dict_items.ownsTuple "dict_keyiterator" = false := by decide
 have nn : ¬ ((Value.ref d == Value.none) = true) := aoY
 have pos : ¬ ((i : Int) < 0) := by omega
 unfold pyNext
 apply wpAny_bind
 apply wpAny_attempt
 refine wpAny_callSpecial?_slot (name := arw "__next__") T aqC (wpAny_call_entry aqC T PySem.F.entry_dict_keyiterator_next ?_ (PySem.F.args_dict_keyiterator_next_1 _))
 apply wpAny_bind
 apply wpAny_pure
 apply wpAny_bind
 apply wpAny_bind
 apply wpAny_bind
 apply wpAny_typeNameOfWhole_keyiter T
 apply wpAny_pure
 apply wpAny_bind
 apply wpAny_fieldsOf gi di
 simp only [own, apI, if_false]
 show wpAny _ _ (if (Value.ref d == Value.none) = true then _ else _) _ _ s
 rw [if_neg nn]
 apply wpAny_bind
 apply wpAny_pure
 apply wpAny_bind
 apply wpAny_dictEntries g y
 rw [if_neg (by simp)]
 apply wpAny_bind
 apply wpAny_pure
 apply wpAny_bind
 apply wpAny_dictEpoch g y
 rw [if_neg (by simp)]
 apply wpAny_pure
 cases hx : es[i]? with
 | some e =>
  simp only [pos, if_false, ary, hx]
  apply wpAny_bind
  apply wpAny_bind
  apply wpAny_typeNameOfWhole_keyiter T
  apply wpAny_pure
  apply wpAny_bind
  apply wpAny_isOneOf_keyiter T
  apply wpAny_bind (m := setField (.ref I) 1 (rawInt ((i : Int) + 1)))
  refine wpAny_setField gi di (by simp) ?_
  have t' : (s.heap.update I (Obj.mapFields (·.setIfInBounds 1 (rawInt ((i : Int) + 1))))).IsKeyIter I d (i + 1) es.size ep := by
   refine ⟨_, aqD _ gi (Obj.isFreed_of_fields (Obj.data_mapFields di _)), ?_, ?_⟩
   ·rw [Obj.cls_mapFields]; exact ci
   ·rw [Obj.data_mapFields di]; simp [rawInt]
  apply wpAny_bind
  apply wpAny_holding
  apply wpAny_bind
  refine wpAny_isOneOf_keyiter (s := { s with heap := s.heap.update I (Obj.mapFields (·.setIfInBounds 1 (rawInt ((i : Int) + 1)))) }) t'.typeIs ?_
  exact wpAny_pure (wpAny_pure ⟨_, rfl, wpAny_pure (q1 e _ hx t' (arb ..))⟩)
 | none =>
  simp only [pos, if_false, ary, hx]
  apply wpAny_bind
  apply wpAny_bind
  apply wpAny_typeNameOfWhole_keyiter T
  apply wpAny_pure
  apply wpAny_bind (m := setField (.ref I) 0 .none)
  refine wpAny_setField gi di (by simp) ?_
  apply wpAny_bind (m := newExc (.type "StopIteration") [])
  simp only [newExc, newTuple]
  apply wpAny_bind
  refine wpAny_newObj_type ?_ (by size_fits)
  apply wpAny_bind (m := firstArgMember _ _)
  refine wpAny_of_eq (a := Value.none) rfl ?_
  refine wpAny_newObj_type ?_ (by size_fits)
  simp only [raiseNew]
  apply wpAny_bind
  apply wpAny_handled
  rw [show A.in1.handled = none from hh]
  refine wpAny_bind (wpAny_pure ?_)
  apply wpAny_throw
  apply wpAny_bind
  refine wpAny_isInstance (T := "StopIteration") (b := true) ⟨_, apA _ rfl, rfl⟩ isSubtype_stop ?_
  exact wpAny_pure (q2 hx _ (((arb ..).extBut.push _).push _))
end
section
variable {P : Program} {w : World} {A : Around} {E : Value -> Shared -> Prop} {s : Shared} {d : Addr} {o : Obj} {es : Array DictEntry} {ep : Nat}
theorem ahO (hh : A.handled = none) (I : Addr) (ne : d ≠ I) (y : o.data = .dict es ep) :
  Walks P w A I [I, d] [I] es.size (fun i v => ∃ e, es[i]? = some e /\ v = e.key) (fun i h => h.IsKeyIter I d i es.size ep /\ h.get? d = some o) where
 sub := fun b hb => by rw [apd.mp hb]; exact ao4 ..
 frame := fun i h h' ⟨t, g⟩ k => ⟨t.at (k I (ao4 ..)), k d (ao3 _ (ao4 ..)) o g⟩
 item := fun i s Q E hi ⟨t, g⟩ q => acy hh t g y (fun e h' he t' sb => q e.key h' s.toks ⟨e, he, rfl⟩ ⟨t', (sb.2 d ne).trans g⟩ fun b u hb hu => (sb.2 b fun z => hb (by rw [z]; exact ao4 ..)).trans hu) fun z => by
  rw [aql hi] at z
  cases z
 done := fun s Q E ⟨t, g⟩ q => acy hh t g y (fun e h' he => by
  rw [arz (ao5 _)] at he
  cases he) fun _ h' eb => q h' s.toks fun b u hb hu => eb b u (fun z => hb (by rw [z]; exact ao4 ..)) hu
 self := fun i s Q E st q => wpAny_pyIter_keyiter st.1 q
theorem ajq (nd : (d == sysModules) = false) (x : o.ExactDict) (y : o.data = .dict es ep) : PySem.W.KdlSrc P w "dict" d d es.size (fun i v => ∃ e, es[i]? = some e /\ v = e.key) (fun h => h.get? d = some o) where
 type := fun s g => ⟨o, g, x.1⟩
 there := fun h g => ⟨apf g, apf g⟩
 keep := fun h h' g k => k d (.inl rfl) o g
 notList := rfl
 notTuple := rfl
 hint := fun A E s Q g q => PySem.W.kdl_hint_dict ⟨o, g, x.1⟩ q
 iter := fun A s hh g => ⟨_, _, fun E Q q => afA nd g x y q, ahO hh _ (apB (apf g)) y, ⟨_, apA _ rfl, rfl, rfl⟩, apb _ g⟩
theorem aaS {vs : List Value} {κ : SortKind} {lt : Nat -> Nat -> Bool} {Q : Value -> Shared -> Prop} (hh : A.handled = none) (nd : (d == sysModules) = false) (g : s.heap.get? d = some o) (x : o.ExactDict) (y : o.data = .dict es ep) (ev : vs = es.toList.map (·.key)) (hz : vs.length <= sizeLine)
  (K : ∀ tk, Asks P w A.in1.in1 { s with toks := tk } κ vs lt)
  (q : ∀ (h' : Heap) tk D p c, Pm vs.length p -> Up lt p vs.length -> (∃ h1 : Heap, (∀ b u, s.heap.get? b = some u -> h1.get? b = some u) /\ h1.objs.size <= D) -> (∀ b u, s.heap.get? b = some u -> h'.get? b = some u) -> h'.get? D = some (seqObj "list" (p.toList.map fun i => vs.getD i Value.none).toArray c) -> Q (.ref D) { s with heap := h', toks := tk }) :
  wpAny (model P w) A (call (.builtin "sorted") [.ref d]) Q E s := by
 have hn : es.size <= sizeLine := by rw [ev, aoZ, apg] at hz; exact hz
 refine ar9 kind_sorted plain_sorted entry_sorted (args_sorted1 _) ?_
 unfold Builtin.«sorted»
 apply wpAny_bind (m := checkCount "sorted" 1 1 _); apply wpAny_pure
 apply wpAny_bind; refine PySem.W.kdu_collect (A := A.in1) (ajq nd x y) hh g hn fun h1 tk acc k1 hacc => ?_
 have ea : acc.toList = vs := by
  rw [ev]
  refine aqK fun i => ?_
  rw [ao8, aqE, aqE]
  by_cases hi : i < acc.size
  ·obtain ⟨e, he, hv⟩ := hacc.2 i _ (aql hi)
   rw [aql hi, he, hv]
   rfl
  ·rw [arz (by omega), arz (by rw [<- hacc.1]; omega)]
   rfl
 rw [ea]
 let h2' := h1.push (seqObj "list" vs.toArray 0)
 have at2 : h2'.get? h1.objs.size = some (seqObj "list" vs.toArray 0) := apA _ rfl
 have keep : ∀ b u, s.heap.get? b = some u -> b ≠ h1.objs.size /\ h2'.get? b = some u := fun b u eb =>
  ⟨apB (apf (k1 b u eb)), apb _ (k1 b u eb)⟩
 apply wpAny_bind; refine wpAny_newList ?_ hz
 change wpAny _ _ _ _ _ { s with heap := h2', toks := tk }
 apply wpAny_bind; apply wpAny_holding
 refine wpAny_call_entry slot_list_sort ⟨_, at2, rfl⟩ entry_list_sort ?_ (args_list_sort _)
 refine agq (s := { s with heap := h2', toks := tk }) hz at2 (h0 := s.heap) keep (K tk) fun h' p c x1 x2 x3 x4 => ⟨_, rfl, wpAny_pure ⟨_, rfl, ?_⟩⟩
 exact q h' tk _ p c x1 x2 ⟨h1, k1, ao5 _⟩ (fun b u eb => x3 b u (keep b u eb).1 (keep b u eb).2) x4
end
def afB (w : World) (K : ao0) : List V -> Hp -> VK -> Prop := fun xs H Q => ∃ (a : Addr) (es : List (PyData × Addr × Value)) (T : String), xs = [.ref a] /\ H a = some (DicO w a es) /\ vL K H es /\ SortOk T (es.map (·.1)) /\ es.length < 64 /\
 ∀ l p, H l = none -> Pm es.length p -> Up (fun i j => ltD ((es.map (·.1)).getD i .none) ((es.map (·.1)).getD j .none)) p es.length -> Q (.ref l) (upd H l (.lst (pick .non p (es.map fun x => .ref x.2.1))))
theorem aar {K : ao0} {H : Hp} : ∀ {es : List (PyData × Addr × Value)}, vL K H es -> Reps K H (es.map (·.1)) (es.map fun x => V.ref x.2.1)
 | [], _ => .nil'
 | x :: es, h => .cons' (h x (ao4 ..)).2 (aar fun z hz => h z (ao3 _ hz))
theorem aas : ∀ es : List (PyData × Addr × Value), Vals (es.map fun x => V.ref x.2.1) (es.map fun x => Value.ref x.2.1)
 | [] => .nil
 | x :: es => .cons rfl (aas es)
theorem afC {X : Cx} (hc : X.calm = true) (hu : X.A.units + 64 < cLine) : yn X (.builtin "sorted") (afB X.w X.K) := by
 intro pins s σ H xs us Q I r h
 obtain ⟨a, es, T, rfl, hS, ks, ok, few, q⟩ := h
 obtain ⟨u, rfl, rx⟩ := vals1 r
 cases rx
 obtain ⟨⟨o, es', ep, S⟩, _⟩ := I.hok a _ hS
 obtain ⟨as, ra⟩ := yY I _ _ _ (aar ks) (aas es)
 have e2 : X.A.in1.in1.units = X.A.units + 1 + 1 := rfl
 have ev : (es.map fun x => Value.ref x.2.1) = es'.toList.map (·.key) := by
  rw [S.el, aqL]
  rfl
 have lm : (es.map fun x => Value.ref x.2.1).length = es.length := aoZ _
 have lm2 : (es.map (·.1)).length = es.length := aoZ _
 refine aaS (I.ok.hd hc) S.ns S.ob S.ex S.da ev (by rw [lm]; exact ap1 (z4 (by omega))) (fun tk => agw (s := { s with toks := tk }) ra ok (by omega) (.inl (by rw [lm2]; exact few))) fun h' tk D p c x1 x2 x3 x4 x5 => ?_
 rw [lm] at x1 x2
 obtain ⟨h1, k1, l1⟩ := x3
 have hD : H D = none := (I.hok.kept k1).fresh l1
 have x3 : ∀ b u, s.heap.get? b = some u -> b ≠ D := fun b u e => apB (apr (apf (k1 b u e)) l1)
 have lp : p.toList.length = es.length := by rw [apg]; exact x1.size
 obtain ⟨m, hm, _⟩ := I.loc
 refine ⟨.ref D, upd H D (.lst (pick .non p (es.map fun x => .ref x.2.1))), I.laidL (t' := tk) (fun b u _ e => x4 b u e) ?_ (fun m hm => hm.keeps x4) x3 hD ⟨by unfold pick; rw [aoZ]; exact ap1 (z4 (by omega)), _, c, acp (aas es) p, x5⟩, rfl, q D p hD x1 x2⟩
 obtain ⟨o2, g2⟩ : ∃ o2, s.heap.get? X.env.locals = some o2 := let ⟨u, _, _, hu, _⟩ := hm; ⟨u, hu⟩
 exact ⟨o2, x4 _ _ g2⟩
theorem aex {X : Cx} {K : ao0} {w : World} (hc : X.calm = true) (hw : X.w = w) (hK : X.K = K) (hu : X.A.units + 64 < cLine) : yn X (.builtin "sorted") (afB w K) := hw ▸ hK ▸ afC hc hu
def ami (w : World) (K : ao0) (tk tv : TE) : TE := fun σ H Q => ∀ p, H p = none -> tk σ (upd H p (DicO w p [])) fun kx H1 => tv σ H1 fun vx H2 => aa1 w K (.ref p) kx vx H2 fun H3 => Q (.ref p) H3
theorem aey {X : Cx} (hu : X.A.units + 64 < cLine) : OpR X (compareOp .NotIn) (afz X.w X.K true) := by
 intro pins s σ H x y v u Q I rx ry h
 obtain ⟨a, b, d, xs, rfl, rfl, hS, ks, kd, rd, q⟩ := h
 cases rx
 cases ry
 obtain ⟨hm, ns⟩ := adh I hS ks
 have hu1 : X.A.in1.units = X.A.units + 1 := rfl
 exact wpAny_notIn_heap (by show _ + 40 < cLine; omega) (qm I kd rd) ns hm ⟨.bl _, H, I.tok _, rfl, q⟩
theorem adk {X : Cx} {K : ao0} {w : World} (hw : X.w = w) (hK : X.K = K) (hu : X.A.units + 64 < cLine) : OpR X (compareOp .NotIn) (afz w K true) := hw ▸ hK ▸ aey hu
theorem ak0 {X : Cx} {w : World} {K : ao0} {pos : Pos} {k v : Expr} {tk tv : TE} (hw : X.w = w) (hK : X.K = K) (hu : X.A.units + 64 < cLine) (hk : PE X k tk) (hv : PE X v tv) : PE X (.Dict [some k] [v] pos) (ami w K tk tv) := by
 subst hw hK
 intro pins s σ H Q I h
 refine wpAny_Dict_any rfl rfl (by simp) (apt rfl) ?_
 have I0 := I.laid (a := s.heap.objs.size) (t' := s.toks) (fun _ _ q => apb _ q) (ao5 _) (DicO.ok (xs := []) (o := { cls := .type "dict", data := .dict #[] }) (es := #[]) (ep := 0) ⟨apA _ rfl, ⟨rfl, rfl, rfl⟩, rfl, rfl, ap8, beq_eq_false_iff_ne.mpr (aqa (apB (agM I)))⟩)
 refine pairTrees_cons_walk (thn (hk pins _ σ _ _ I0 (h _ (I.hok.fresh (ao5 _)))) fun kv s1 ⟨kx, H1, I1, r1, q1⟩ => ?_)
 refine thn (hv pins s1 σ H1 _ I1 q1) fun vv s2 ⟨vx, H2, I2, r2, q2⟩ => ?_
 refine pairTrees_nil_walk ?_
 obtain ⟨a, b, d, xs, ea, rfl, hS, ks, kd, rd, hl, q⟩ := q2
 cases ea
 cases r1
 obtain ⟨hm, ns⟩ := adh I2 hS ks
 unfold storeAll
 rw [aqZ]
 refine wpAny_bind (wpAny_bind (wpAny_dictSet_heap (by show _ + 40 < cLine; omega) (qm I2 kd rd) hm (fun h' hm' sb => ?_) (ap1 (z4 hl))))
 refine wpAny_pure ?_
 show wpAny _ _ (forIn [] _ _) _ _ _
 rw [aq3]
 refine wpAny_pure ?_
 obtain ⟨o', es', ep', x1, x2, x3, x4, x5, x6⟩ := hm'
 exact ⟨.ref _, _, I2.write (t' := s2.toks + z5 d) (x := s.heap.objs.size) (e := s.heap.objs.size) (by rw [hS]; exact trivial) (.inl rfl) (fun b u nb e => (sb.2 b nb).trans e) ⟨o', x1⟩ (DicO.ok ⟨x1, x2, x3, x4, x6, ns⟩), rfl, q _ r2⟩
section
variable {w : World} {K : ao0} {f : Fx} {Ds : List Addr} {ρ : zr} {cs : List OC} {te tk tv : TE} {O : MEnds} {i j n : Nat} {kvs : List (PyData × PyData)}
theorem aov {es : List PyData} {d : PyData} (hi : ρ[i]? = some (some (.own (f.M.length + j)))) (hc : cs[j]? = some (.lst (es ++ [d]))) (h : O.nx (ρ.set n (some (.dat d))) (cs.set j (.lst es))) : PSm w K f Ds (jV (aoi K "list" aoj (yf i)) (y6 n)) ρ cs O := fun se σ H H2 E x nn r b k => by
 have hj : j < Ds.length := by rw [<- x.len]; exact (ao1.mp hc).1
 have hD : Ds[j]? = some Ds[j] := aoX hj
 obtain ⟨vs, h0, rs⟩ := x.own j _ _ hD hc
 obtain ⟨vs', v, rfl, rs', rv⟩ : ∃ vs' v, vs = vs' ++ [v] /\ Reps K (hide H (f.withs Ds)) es vs' /\ Rep K (hide H (f.withs Ds)) d v := by
  have key : ∀ (es : List PyData) (vs : List V), Reps K (hide H (f.withs Ds)) (es ++ [d]) vs -> ∃ vs' v, vs = vs' ++ [v] /\ Reps K (hide H (f.withs Ds)) es vs' /\ Rep K (hide H (f.withs Ds)) d v := fun es => by
   induction es with
   | nil =>
    intro vs q
    obtain ⟨v, vs', rfl, r1, r2⟩ := reps_cons.mp q
    rw [reps_nil.mp r2]
    exact ⟨[], v, rfl, .nil', r1⟩
   | cons e es ih =>
    intro vs q
    obtain ⟨v, vs', rfl, r1, r2⟩ := reps_cons.mp q
    obtain ⟨us, z, rfl, r3, r4⟩ := ih vs' r2
    exact ⟨v :: us, z, rfl, .cons' r1 r3, r4⟩
  exact key es vs rs
 refine ⟨_, yU hi x hD, Or.inl ⟨rfl, _, .of h0⟩, Ds[j], vs' ++ [v], v, rfl, rfl, h0, by simp, ?_⟩
 rw [List.dropLast_concat]
 have x1 := x.put se hD (o := .lst vs') (c' := .lst es) ⟨vs', zy, rs'⟩
 have hm := apc hD
 refine nn _ _ _ _ ⟨x1.env.set n (x := .dat d) ?_, x1.sm, x1.kp, x1.len, x1.own⟩ h
 show Rep K (hide (upd H Ds[j] (.lst vs')) (f.withs Ds)) d v
 rw [yo hm]
 exact rv
theorem ak1 {neg : Bool} {B : Bool -> Prop} (hi : ρ[i]? = some (some (.own (f.M.length + j)))) (hc : cs[j]? = some (.dic kvs)) (h : PEm w K f Ds te ρ cs fun d => ab1 d /\ B (if neg then !decide (d ∈ kvs.map (·.1)) else decide (d ∈ kvs.map (·.1)))) :
  PTm w K f Ds (adZ (tOp (afz w K neg) te (yf i))) ρ cs B := fun se σ H H2 Q x q => by
 have hj : j < Ds.length := by rw [<- x.len]; exact (ao1.mp hc).1
 have hD : Ds[j]? = some Ds[j] := aoX hj
 refine h se σ H H2 _ x fun d v H1 g1 r1 ⟨kd, p⟩ => ?_
 have x1 := x.go g1 (x.env.mono g1)
 obtain ⟨b, rfl⟩ := ql kd r1
 obtain ⟨xs, h1, h2⟩ := x1.own j _ _ hD hc
 refine ⟨_, yU hi x1 hD, Ds[j], b, d, xs, rfl, rfl, h1, fun z hz => ⟨(yI h2 z hz).1, Rep.mono (zl _ _) _ _ (yI h2 z hz).2⟩, kd.1, Rep.mono (zl _ _) _ _ r1, _, rfl, ?_⟩
 have : (atKey xs d).isSome = decide (d ∈ kvs.map (·.1)) := by
  rcases v7 d h2 with ⟨a1, _, a3⟩ | ⟨p', _, _, a1, _, _, _, a3⟩
  ·rw [a1, decide_eq_false a3]; rfl
  ·rw [a1, decide_eq_true a3]; rfl
 rw [this]
 exact q _ H1 g1 p
theorem ak2 {P : OC -> Prop} (h : ∀ p, PEd K (f.with p) tk ρ fun k => ab1 k /\ PEd K (f.with p) tv ρ fun v => P (.dic [(k, v)])) : ade w K f (ami w K tk tv) ρ P := fun σ H Q e q p hp => by
 have np := fresh_ne e.fd hp
 have e0 : EnvOk K (f.with p) ρ σ (upd H p (DicO w p [])) := aiQ e hp
 have top : (upd H p (DicO w p [])) p = some (DicO w p []) := zy
 refine h p σ _ _ e0 fun k kx H1 g1 r1 ⟨kt, h2⟩ => h2 σ H1 _ (e0.mono g1) fun v vx H2 g2 r2 pv => ?_
 obtain ⟨b, rfl⟩ := ql kt r1
 have g12 := g1.trans g2
 have hp2 : H2 p = some (DicO w p []) := (g12.kp p (ao4 ..)).trans top
 have rk := Rep.mono g2.sm _ _ r1
 refine ⟨p, b, k, [], rfl, rfl, hp2, (fun z hz => nomatch hz), kt.1, Rep.mono (zl _ _) _ _ rk, apD _, fun u ru => ?_⟩
 have hw : hide (upd H2 p (DicO w p (storedH [] k b u))) (f.with p) = hide H2 (f.with p) := yx
 have fo : FOk f (upd H2 p (DicO w p (storedH [] k b u))) := by
  have fo2 := g12.ok
  refine ⟨fun c ec => ?_, fun c hc => ?_, fun c ec hc => fo2.nm c ec (ao3 _ hc)⟩
  ·obtain ⟨a1, a2, a3, a4⟩ := fo2.fd c ec
   exact ⟨a1, a2, by rw [zw (fun (z : c = p) => np (.inl (z ▸ ec)))]; exact a3, a4⟩
  ·obtain ⟨o, ho⟩ := fo2.mm c (ao3 _ hc)
   exact ⟨o, by rw [zw (fun (z : c = p) => np (.inr (z ▸ hc)))]; exact ho⟩
 have sm : Same (hide H f) (hide (upd H2 p (DicO w p (storedH [] k b u))) (f.with p)) := by
  rw [hw]
  exact (qW hp).trans g12.sm
 refine q (.dic [(k, v)]) p _ ⟨sm.trans jZ, fo, fun c hc => ?_⟩ hp ⟨_, zy, ?_⟩ pv
 ·have ncp : c ≠ p := fun z => np (.inr (z ▸ hc))
  rw [zw ncp, g12.kp c (ao3 _ hc), zw ncp]
 ·rw [hw]
  exact agR (xs := []) (kvs := []) kt.1 rk r2 ru .nil
abbrev ane (K : ao0) : List V -> Hp -> VK -> Prop := fun xs H Q => ∃ p ys, xs = [V.ref p] /\ ((SqL K H p ys /\ ∀ l, H l = none -> Q (V.ref l) (upd H l (HO.tup ys))) \/ (SqT K H p ys /\ Q (V.ref p) H))
theorem anf {P : PyData -> Prop} (T : String) (hi : ρ[i]? = some (some (.own (f.M.length + j)))) (hc : cs[j]? = some (.dic kvs)) (ok : SortOk T (kvs.map (·.1))) (few : kvs.length < 64) (h : ∀ es, es.Perm (kvs.map (·.1)) -> (es.Pairwise fun d e => ltD d e = true) -> P (.tuple es)) :
  PEm w K f Ds (tCB (ane K) (yd (tCB (afB w K) (yd (yf i) jS)) jS)) ρ cs P := fun se σ H H2 Q x q => by
 have hj : j < Ds.length := by rw [<- x.len]; exact (ao1.mp hc).1
 have hD : Ds[j]? = some Ds[j] := aoX hj
 obtain ⟨xs, h1, h2⟩ := x.own j _ _ hD hc
 have ek : xs.map (·.1) = kvs.map (·.1) := by
  have key : ∀ {xs : List (PyData × Addr × Value)} {kvs : List (PyData × PyData)}, Paired (EntR K (hide H (f.withs Ds))) xs kvs -> xs.map (·.1) = kvs.map (·.1) := fun {xs kvs} t => by
   induction t with
   | nil => rfl
   | cons a _ ih => rw [apq, apq, ih, a.1]
  exact key h2
 have el := adj h2
 have ko := yI h2
 refine ⟨_, yU hi x hD, Ds[j], xs, T, rfl, h1, fun z hz => ⟨(ko z hz).1, Rep.mono (zl _ _) _ _ (ko z hz).2⟩, by rw [ek]; exact ok, by rw [el]; exact few, fun l p hl pm up => ?_⟩
 have nl := fresh_ne x.env.fd hl
 have g1 : Goes (f.withs Ds) H (upd H l (.lst (pick .non p (xs.map fun z => .ref z.2.1)))) := .of_same (zX hl _) x.env.fd
 refine ⟨l, _, rfl, .inl ⟨.inl (.inl zy), fun l2 hl2 => ?_⟩⟩
 have g2 : Goes (f.withs Ds) (upd H l (.lst (pick .non p (xs.map fun z => .ref z.2.1)))) (upd (upd H l (.lst (pick .non p (xs.map fun z => .ref z.2.1)))) l2 (.tup (pick .non p (xs.map fun z => .ref z.2.1)))) := .of_same (zX hl2 _) g1.ok
 have rr : Reps K (hide H (f.withs Ds)) (pick .none p (xs.map (·.1))) (pick .non p (xs.map fun z => .ref z.2.1)) := acq (aar ko) p
 have pr : (pick .none p (xs.map (·.1))).Perm (xs.map (·.1)) := acr pm (by rw [aoZ])
 have pu := agz (ds := xs.map (·.1)) pm (fun a b hab hb => up a b hab hb)
 refine q (.tuple (pick .none p (xs.map (·.1)))) _ _ (g1.trans g2) (rep_tuple.mpr ⟨l2, _, rfl, .of (zB (fresh_ne g1.ok hl2) zy), Reps.mono (g1.trans g2).sm _ _ rr⟩) (h _ ?_ pu)
 rw [<- ek]
 exact pr
end
section
variable {K : ao0} {f : Fx} {ρ : zr} {ts tu : TS} {O : DEnds} {te : TE} {i : Nat}
theorem yZ (J : zr -> Prop) (h1 : PSd K f ts ρ { O with nx := J }) (h2 : ∀ ρ', J ρ' -> PSd K f tu ρ' O) : PSd K f (qH ts tu) ρ O :=
 zW fun σ H E e n r b k => h1 σ H E e (fun ρ' σ' H' g' e' p => n ρ' σ' H' g' e' (h2 ρ' p)) r b k
theorem ajr {w : World} {Ds : List Addr} {cs : List OC} {O : MEnds} (J : zr -> List OC -> Prop) (h1 : PSm w K f Ds ts ρ cs { O with nx := J }) (h2 : ∀ ρ' cs', J ρ' cs' -> PSm w K f Ds tu ρ' cs' O) : PSm w K f Ds (qH ts tu) ρ cs O :=
 vy fun se σ H H2 E x n r b k => h1 se σ H H2 E x (fun ρ' cs' σ' H' x' p => n ρ' cs' σ' H' x' (h2 ρ' cs' p)) r b k
theorem agU {P : PyData -> Prop} {γ : Type} {n : Nat} {pre : γ -> List DV -> Prop} {post : γ -> PyData -> Prop} {E : XK} {t : TA} (h : PAd K f t ρ fun xs => ∃ c, xs.length = n /\ pre c xs /\ ∀ r, post c r -> P r) : PEd K f (vn (spD K n pre post) [] E t) ρ P := fun σ H Q e q =>
 h σ H _ e fun xs vs H1 g1 r1 ⟨c, hl, hp, k⟩ => ⟨f, xs, c, by rw [apC]; exact r1, hl, g1.2, hp, fun r v H' g' r' p' => q r v H' (g1.trans g') r' (k r p')⟩
end
section
variable {K : ao0} {f : Fx} {ρ : zr} {wi : TI} {g : TG} {tt : TT} {own : Nat} {fr : List Nat} {tb : Addr -> TB} {P : List PyData -> Prop}
theorem adl {α : Type} {A B : α -> PyData} (p : α -> Bool) (xs : List α) (h : PId K f wi ρ fun ds => ds = xs.map A /\ xs.length <= 1000 /\
   (∀ D x ρ' es, x ∈ xs -> OwnE own (frD fr ρ) ρ' -> es.length < 1000 -> PGd K (f.with D) g (A x) ρ' fun ρ2 => PTd K (f.with D) tt ρ2 fun b => b = p x /\ if b = true then PBd K f D (tb D) ρ2 es fun ρ3 es3 => OwnE own (frD fr ρ) ρ3 /\ es3 = es ++ [B x] else OwnE own (frD fr ρ) ρ2) /\ P ((xs.filter p).map B)) :
  PEdO K f (jW wi own fr g tt tb) ρ P :=
 qK (h.imp fun ds ⟨ed, hl, hs, hp⟩ => by
  subst ed
  refine ⟨fun i ρ' es => OwnE own (frD fr ρ) ρ' /\ es = ((xs.take i).filter p).map B, ⟨⟨aqT own none, by simp, rfl⟩, by simp⟩, fun D i d ρ' es hd ⟨ho, he⟩ => ?_, fun ρ' es ⟨_, he⟩ => ?_⟩
  ·rw [ao8] at hd
   cases eq : xs[i]? with
   | none => rw [eq] at hd; cases hd
   | some x =>
    rw [eq] at hd
    cases hd
    have hi : i < xs.length := (ao1.mp eq).1
    have tk : xs.take (i + 1) = xs.take i ++ [x] := by rw [aqe, eq]; rfl
    have hb : es.length < 1000 := by
     have := apK p (xs.take i)
     rw [apP] at this
     rw [he, aoZ]
     omega
    intro σ H v Q e r q
    refine hs D x ρ' es (apc eq) ho hb σ H v Q e r fun ρ2 σ2 H2 g2 e2 p2 => q ρ2 σ2 H2 g2 e2 (p2.imp fun b hb2 => ?_)
    obtain ⟨eb, hb2⟩ := hb2
    cases b with
    | false =>
     rw [if_neg aoY] at hb2 ⊢
     refine ⟨hb2, ?_⟩
     rw [tk, apU, aps, apQ, <- eb, if_neg aoY, he]
     simp
    | true =>
     rw [if_pos rfl] at hb2 ⊢
     intro h1 h2 σ3 H3 H4 W c k
     exact hb2 h1 h2 σ3 H3 H4 W c fun ρ5 es5 σ5 H5 c5 ⟨o5, p5⟩ => k ρ5 es5 σ5 H5 c5 ⟨o5, by rw [p5, he, tk, apU, aps, apQ, <- eb, if_pos rfl]; rfl⟩
  ·rw [he, aoZ, apM]
   exact hp)
end
end L2
end
section
namespace L2
open PySem PySem.Spec PyProof.Rows
def ajs (w : World) (K : ao0) (kvs : List (PyData × PyData)) : Hp -> V -> Prop := fun Hh v => ∃ a xs, v = .ref a /\ Hh a = some (DicO w a xs) /\ Paired (EntR K Hh) xs kvs
def PEv (K : ao0) (f : Fx) (te : TE) (ρ : zr) (P : DV -> Prop) : Prop := ∀ (σ : St) (H : Hp) (Q : VK), EnvOk K f ρ σ H -> (∀ x v H', Goes f H H' -> RepV K f H' x v -> P x -> Q v H') -> te σ H Q
def spV {γ : Type} (K : ao0) (n : Nat) (pre : γ -> List DV -> Prop) (post : γ -> DV -> Prop) : Sp := fun vs H Q _ => ∃ f xs c, RepVs K f H xs vs /\ xs.length = n /\ FOk f H /\ pre c xs /\ ∀ r v H', Goes f H H' -> RepV K f H' r v -> post c r -> Q v H'
def PSv (K : ao0) (f : Fx) (ts : TS) (ρ : zr) (R : DV -> Prop) : Prop := ∀ (σ : St) (H : Hp) (E : Ends), EnvOk K f ρ σ H -> (∀ x v H', Goes f H H' -> RepV K f H' x v -> R x -> E.rt v H') -> ts E σ H
def ak3 (w : World) (K : ao0) (f : Fx) (Ds : List Addr) (ts : TS) (ρ : zr) (cs : List OC) (j : Nat) (R : OC -> Prop) : Prop := Sep f Ds -> ∀ (σ : St) (H H2 : Hp) (E : Ends), CM w K f Ds H2 ρ cs σ H ->
 (∀ D c ρ' cs' σ' H', CM w K f Ds H2 ρ' cs' σ' H' -> Ds[j]? = some D -> cs'[j]? = some c -> R c -> E.rt (.ref D) H') -> ts E σ H
section
variable {w : World} {K : ao0} {f : Fx} {ρ : zr} {Ds : List Addr} {cs : List OC} {te ta tk : TE} {ts tu : TS} {t : TA} {O : DEnds} {i j : Nat} {R : OC -> Prop}
theorem v_var {P : DV -> Prop} {x : DV} (h : ρ[i]? = some (some x)) (p : P x) : PEv K f (yf i) ρ P := fun σ H Q e q => by
 obtain ⟨v, h1, h2⟩ := e.get i x h
 exact ⟨v, h1, q x v H (.refl e.fd) h2 p⟩
theorem ang {P : DV -> Prop} {γ : Type} {n : Nat} {pre : γ -> List DV -> Prop} {post : γ -> DV -> Prop} {E : XK} (c : γ) (h : PAd K f t ρ fun xs => xs.length = n /\ pre c xs /\ ∀ r, post c r -> P r) : PEv K f (vn (spV K n pre post) [] E t) ρ P := fun σ H Q e q =>
 h σ H _ e fun xs vs H1 g1 r1 ⟨hl, hp, k⟩ => ⟨f, xs, c, by rw [apC]; exact r1, hl, g1.2, hp, fun r v H' g' r' p' => q r v H' (g1.trans g') r' (k r p')⟩
theorem acz {R : List DV -> Prop} {u : TA} (h : PEv K f te ρ fun x => PAd K f u ρ fun xs => R (x :: xs)) : PAd K f (yd te u) ρ R := fun σ H Q e q =>
 h σ H _ e fun x v H1 g1 r1 p => p σ H1 _ (e.mono g1) fun xs vs H2 g2 r2 p2 => q (x :: xs) (v :: vs) H2 (g1.trans g2) (.cons (RepV.mono g2 r1) r2) p2
theorem aow {P : PyData -> Prop} (h : PEv K f ta ρ fun x => ∃ kvs, x = .mon (ajs w K kvs) /\ PEd K f tk ρ fun k => ab1 k /\ ∃ d, jf k kvs = some d /\ P d) : PEd K f (tOp (adi w K) ta tk) ρ P := fun σ H Q e q =>
 h σ H _ e fun x v H1 g1 r1 ⟨kvs, ex, h2⟩ => h2 σ H1 _ (e.mono g1) fun k kv H2 g2 r2 ⟨kt, d, hd, p⟩ => by
  subst ex
  obtain ⟨b, rfl⟩ := ql kt r2
  obtain ⟨a, xs, rfl, h3, h4⟩ := (RepV.mono g2 r1 : RepV K f H2 (.mon (ajs w K kvs)) v) (hide H2 f) (Same.refl _)
  rcases v7 k h4 with ⟨_, a2, _⟩ | ⟨p', d', v', a1, a2, a3, a4, _⟩
  ·rw [hd] at a2
   cases a2
  ·rw [hd] at a2
   cases a2
   exact ⟨a, b, k, xs, p', v', rfl, rfl, (zP h3).2, fun z hz => ⟨(yI h4 z hz).1, Rep.mono (zl _ _) _ _ (yI h4 z hz).2⟩, kt.1, Rep.mono (zl _ _) _ _ r2, a1, a4, q d v' H2 (g1.trans g2) a3 p⟩
theorem anh (h : PSm w K f Ds ts ρ cs { nx := fun ρ' cs' => ak3 w K f Ds tu ρ' cs' j R, rt := fun _ => False }) : ak3 w K f Ds (qH ts tu) ρ cs j R := fun se σ H H2 E x q =>
 h se σ H H2 _ x (fun ρ' cs' σ' H' x' p => p se σ' H' H2 E x' q) (fun _ _ _ _ _ _ _ _ z => z.elim) (fun _ _ _ _ _ z => z.elim) (fun _ _ _ _ _ z => z.elim)
theorem ani {c : OC} (hi : ρ[i]? = some (some (.own (f.M.length + j)))) (hc : cs[j]? = some c) (h : R c) : ak3 w K f Ds (acP (yf i)) ρ cs j R := fun se σ H H2 E x q => by
 have hj : j < Ds.length := by rw [<- x.len]; exact (ao1.mp hc).1
 have hD : Ds[j]? = some Ds[j] := aoX hj
 exact ⟨_, yU hi x hD, q _ c ρ cs σ H x hD hc h⟩
theorem anj {R : DV -> Prop} (h : ade w K f te ρ fun c => i < ρ.length /\ ∀ D, ak3 w K f [D] ts (ρ.set i (some (.own (f.M.length + 0)))) [c] 0 fun c => ∃ kvs, c = .dic kvs /\ R (.mon (ajs w K kvs))) : PSv K f (qH (jV te (y6 i)) ts) ρ R := fun σ H E e q => by
 have se0 : Sep f [] := ⟨ap8, (fun _ z => nomatch z), (fun _ z => nomatch z)⟩
 have x0 : CM w K f [] H ρ [] σ H := ⟨e, Same.refl _, fun _ _ => rfl, rfl, (fun i D c z => nomatch z)⟩
 refine h σ H _ e fun c D H1 g1 hn ho ⟨hi, p⟩ => ?_
 have nD := fresh_ne e.fd hn
 refine p D (se0.more e.fd hn) _ H1 H1 E (x0.more g1 hn ho hi) fun D' c' ρ' cs' σ' H' y h1 h2 ⟨kvs, ec, r⟩ => ?_
 cases h1
 subst ec
 have z := x0.less g1 hn y
 obtain ⟨xs, h3, h4⟩ := y.own 0 D _ rfl h2
 exact q (.mon (ajs w K kvs)) _ H' ⟨z.sm, z.env.fd, z.kp⟩ (fun H'' s => ⟨D, xs, rfl, s D _ (zB nD h3), EntR.mono (same_withs.trans s) h4⟩) r
end
theorem ahP (k v : PyData) (kvs : List (PyData × PyData)) : jf k (dput k v kvs) = some v := by
 unfold dput jf
 by_cases h : k ∈ kvs.map (·.1)
 ·rw [if_pos h]
  induction kvs with
  | nil => cases h
  | cons p kvs ih =>
   rw [apq, aqk]
   by_cases e : p.1 = k
   ·rw [if_pos e, decide_eq_true (show p.1 = k from e)]
    rfl
   ·rw [if_neg e, decide_eq_false (show ¬ p.1 = k from e)]
    rw [apq, ao7] at h
    exact ih (h.resolve_left fun z => e z.symm)
 ·rw [if_neg h, List.find?_append, ar2.mpr, Option.none_or, aqk, decide_eq_true rfl]
  ·rfl
  ·intro p hp
   have : p.1 ≠ k := fun z => h (apm.mpr ⟨p, hp, z⟩)
   simpa using this
theorem abz {k k' : PyData} (v : PyData) (ne : k' ≠ k) (kvs : List (PyData × PyData)) : jf k' (dput k v kvs) = jf k' kvs := by
 unfold dput jf
 split
 ·rename_i hk
  clear hk
  congr 1
  induction kvs with
  | nil => rfl
  | cons p kvs ih =>
   rw [apq, aqk, aqk]
   by_cases e : p.1 = k
   ·rw [if_pos e, decide_eq_false (show ¬ (p.1, v).1 = k' from fun z => ne (z.symm.trans e))]
    exact ih
   ·rw [if_neg e]
    cases decide (p.1 = k')
    ·exact ih
    ·rfl
 ·rw [List.find?_append, aqk, decide_eq_false (show ¬ (k, v).1 = k' from fun z => ne z.symm)]
  simp
section
variable {γ : Type} {P : Program} {w : World} {K : ao0} {mg : Str -> Option Value} {base : Heap} {k : Nat} {x : Str} {st : Stmt} {N : List Str} {ps : List Str} {n : Nat} {pre : γ -> List DV -> Prop} {post : γ -> DV -> Prop}
theorem Def.okV (F : Def K mg x st ps) (S : FnScope N ps (zf st)) (hn : ps.length = n)
  (h : ∀ (fa : Addr) (cdv : Value) (A : Around) (outer : List Env) (s : Shared) (H : Hp) (E : XK), Room k (A.deeper (envOfC x (zf st) s.heap.objs.size fa cdv)) ->
   ∃ t, PSs (zI CX0 P w K mg base N x (zf st) fa cdv A outer s H E).nox (yr st) t /\ ∀ (f : Fx) (xs : List DV) (c : γ), xs.length = n -> pre c xs -> PSv K f t (jx N xs) (post c)) :
  FnIn P w K mg base (k + 1) x ps (spV K n pre post) := by
 obtain ⟨fa, fd, F1, F2, F3⟩ := F.ex
 refine ⟨fa, fd, F1.ok S (fun vs H Q E h => ?_) (fun cdv A outer s H vs Q E hr hs => ?_), F3, F1.kp, F2⟩
 ·obtain ⟨f, xs, c, r, hl, _⟩ := h
  rw [r.length, hl, hn]
 ·obtain ⟨f, xs, c, r, hl, fo, hp, q⟩ := hs
  obtain ⟨t, h1, h2⟩ := h fa cdv A outer s H E hr
  exact ⟨t, h1, h2 f xs c hl hp (start N vs) H _ (yS r fo) fun x v H' g r p => q x v H' g r p⟩
end
end L2
end
section
namespace L2
open PySem PySem.Spec PyProof.Rows
end L2
end
section
namespace L2
open PySem PySem.Spec PyProof.Rows
open PySem.SeqAt
open PySem.AutoSeq1 (wpAny_loadPart')
def aoU (A : Around) (s : Shared) (y x : Value) (b : Bool) : Prop :=
 ∀ (prog : Program) (w : World) (E : Value -> Shared -> Prop) (Q : Value -> Shared -> Prop), Q (.bool b) s -> wpAny (model prog w) A (richCompare .GtE y x) Q E s
inductive Gex (A : Around) (s : Shared) : List Value -> List Value -> Bool -> Prop where
 | nn : Gex A s [] [] true
 | eq {v w vs ws b} : EqAt A s v w true -> Gex A s vs ws b -> Gex A s (v :: vs) (w :: ws) b
 | ge {v w vs ws b} : EqAt A s v w false -> aoU A s v w b -> vs.length = ws.length -> Gex A s (v :: vs) (w :: ws) b
def aez (o : Obj) : Option Value := match o.data with
 | .fields vs => vs[2]?
 | _ => none
def KD (h h' : Heap) : Prop := ∀ b o, h.get? b = some o -> ∃ u, h'.get? b = some u /\ u.dict = o.dict /\ aez u = aez o
theorem KD.refl (h : Heap) : KD h h := fun _ o e => ⟨o, e, rfl, rfl⟩
theorem KD.trans {h i j : Heap} (a : KD h i) (b : KD i j) : KD h j := fun c o e =>
 let ⟨u, e1, d1, f1⟩ := a c o e
 let ⟨v, e2, d2, f2⟩ := b c u e1
 ⟨v, e2, d2.trans d1, f2.trans f1⟩
theorem KD.push (h : Heap) (o : Obj) : KD h (h.push o) := fun _ u e => ⟨u, apb _ e, rfl, rfl⟩
theorem KD.update (h : Heap) (a : Addr) (f : Obj -> Obj) (k : ∀ o, (f o).dict = o.dict /\ (f o).isFreed = o.isFreed /\ aez (f o) = aez o) : KD h (h.update a f) := fun b o e => by
 by_cases q : a = b
 ·subst q
  exact ⟨f o, aqD f e (by rw [(k o).2.1]; exact (Heap.get?_some_iff.mp e).2), (k o).1, (k o).2.2⟩
 ·exact ⟨o, (aqd h f q).trans e, rfl, rfl⟩
def yp {α : Type} (t : Sem α) : Prop := ∀ (M : Model) (Γ : PySem.Ctx) (Q : α -> Pos -> Shared -> Prop) (E : Value -> Pos -> Shared -> Prop) (p : Pos) (s : Shared),
 Sem.wp M Γ t Q E p s -> Sem.wp M Γ t (fun a p' s' => Q a p' s' /\ KD s.heap s'.heap) E p s
section
variable {α β : Type}
theorem adm (a : α) : yp (pure a : Sem α) := fun _ _ _ _ _ s h => ⟨h, .refl _⟩
theorem ank (x : String) : yp (unsupported x : Sem α) := fun _ _ _ _ _ _ h => h
theorem agV {m : Sem α} {f : α -> Sem β} (a : yp m) (b : ∀ x, yp (f x)) : yp (m >>= f) := fun M Γ Q E p s h => by
 rw [Sem.wp_bind'] at h ⊢
 refine as8 M Γ m (fun x p' s' z => ?_) (fun _ _ _ z => z) p s (a M Γ _ E p s h)
 exact as8 M Γ (f x) (fun _ _ _ y => ⟨y.1, z.2.trans y.2⟩) (fun _ _ _ y => y) p' s' (b x M Γ Q E p' s' z.1)
theorem anl {c : Prop} [Decidable c] {t u : Sem α} (a : yp t) (b : yp u) : yp (if c then t else u) := by split <;> assumption
theorem ak4 (a : Addr) : yp (load a) := fun _ _ _ _ _ _ h => let ⟨o, e, q⟩ := h; ⟨o, e, q, .refl _⟩
theorem ajt : yp stack := fun _ _ _ _ _ _ h => ⟨h, .refl _⟩
theorem aju (o : Obj) : yp (alloc o) := fun _ _ _ _ _ _ h => ⟨h, .push _ _⟩
theorem ahQ (a : Addr) (f : Obj -> Obj) (k : ∀ o, (f o).dict = o.dict /\ (f o).isFreed = o.isFreed /\ aez (f o) = aez o) : yp (update a f) := fun _ _ _ _ _ _ h => ⟨h.1, h.2, .update _ _ _ k⟩
end
local macro_rules | `(tactic| walk_at "kd") => `(tactic| with_reducible first
  | assumption
  | exact adm _
  | exact ank _
  | exact ak4 _
  | exact kd_loadPart _ _
  | exact ajt
  | exact aju _
  | exact kd_reg _
  | apply anl
  | apply agV
  | intro _
  | split)
theorem abA (v : Value) (i : Nat) : yp (field v i) := fun _ Γ Q E p s h => by
 obtain ⟨a, o, vs, x, h1, h2, h3, h4, h5⟩ := (wp_field_iff Γ v i Q E p s).mp h
 exact (wp_field_iff Γ v i _ E p s).mpr ⟨a, o, vs, x, h1, h2, h3, h4, h5, .refl _⟩
theorem aaM (v : Value) (i : Nat) (x : Value) (hi : i ≠ 2) : yp (setField v i x) := fun _ Γ Q E p s h => by
 obtain ⟨a, o, vs, h1, h2, h3, h4, h5⟩ := (wp_setField_iff Γ v i x Q E p s).mp h
 refine (wp_setField_iff Γ v i x _ E p s).mpr ⟨a, o, vs, h1, h2, h3, h4, h5, .update _ _ _ fun u => ?_⟩
 obtain ⟨c, d, dt, sl⟩ := u
 cases dt <;> first | exact ⟨rfl, rfl, rfl⟩ | exact ⟨rfl, rfl, arF hi⟩
theorem ahR (env : Env) (l : List Env) : yp (behindIsImport env l) := by
 unfold behindIsImport
 have := abA env.code 12
 repeat' walk_at "kd"
theorem ahS : yp underTheClaimsCaller := by
 unfold underTheClaimsCaller
 repeat' walk_at "kd"
theorem ak5 (env : Env) (i : Bool) (l : List Env) : yp (keptBack env i l) := by
 have := ahS
 cases l <;> unfold keptBack <;> repeat' walk_at "kd"
theorem aeA : ∀ l : List Env, yp (readyFrames l)
 | [] => adm _
 | env :: l => by
  have ih := aeA l
  have h1 := ahR env l
  have h2 := fun i => ak5 env i l
  unfold readyFrames
  repeat' (first | walk_at "kd" | exact h2 _ | (refine ahQ _ _ fun ⟨c, d, dt, sl⟩ => ?_; cases dt <;> exact ⟨rfl, rfl, rfl⟩))
theorem ajv (env : Env) : yp (PySem.frameOf env) := by
 unfold PySem.frameOf frameEnvs
 have h2 : ∀ l, yp (frameObject l) := fun l => by
  cases l with
  | nil => exact adm _
  | cons a l =>
   have := aeA (a :: l)
   unfold frameObject
   repeat' walk_at "kd"
 repeat' (first | walk_at "kd" | exact h2 _)
theorem aat (e : Value) (f : Option Addr) : yp (setFlight e f) := by
 unfold setFlight
 repeat' (first | walk_at "kd" | exact abA _ _ | exact aaM _ _ _ (by decide))
theorem ajw (f : Addr) (b : Bool) : yp (entryPlaceOf f b) := by
 unfold entryPlaceOf
 repeat' walk_at "kd"
theorem ajx (a b c d e : Value) (l : List Value) : yp (asX a b c d e l) := by
 unfold asX newFields newObj newObjAsIs classHasDel
 repeat' walk_at "kd"
theorem agW (e : Value) (env : Env) : yp (noteFrame e env) := by
 unfold noteFrame
 repeat' (first | walk_at "kd" | exact abA _ _ | exact aaM _ _ _ (by decide) | exact ajv _ | exact ajw _ _ | exact ajx _ _ _ _ _ _)
theorem aeB (env : Env) (e : Value) : yp (leaving env e) := by
 unfold leaving
 exact agV (agW _ _) fun _ => aat _ _
theorem aeC {α : Type} {t : Sem α} {M : Model} {A : Around} {Q Q' : α -> Shared -> Prop} {E : Value -> Shared -> Prop} {s : Shared} (k : yp t) (h : wpAny M A t Q E s) (q : ∀ a s', Q a s' -> KD s.heap s'.heap -> Q' a s') : wpAny M A t Q' E s := fun Γ p hΓ =>
 as8 M Γ t (fun a _ s' z => q a s' z.1 z.2) (fun _ _ _ z => z) p s (k M Γ _ _ p s (h Γ p hΓ))
def Dct (a : Addr) (o : Option Addr) (h : Heap) : Prop := ∃ u, h.get? a = some u /\ aez u = some .none /\ ∀ dx, o = some dx -> u.dict = some dx
theorem Dct.kd {a : Addr} {o : Option Addr} {h h' : Heap} (x : Dct a o h) (k : KD h h') : Dct a o h' :=
 let ⟨u, q, f, d⟩ := x
 let ⟨v, q2, d2, f2⟩ := k a u q
 ⟨v, q2, f2.trans f, fun dx e => d2.trans (d dx e)⟩
def CXf (P : Program) (w : World) : CXT := fun outer H s E e s' => ∃ a C o H', e = .ref a /\ XLie P w outer H s a C H' s' /\ Dct a o s'.heap /\ E C o H'
def amj (a : Addr) (C : Value) (o : Option Addr) (h : Heap) : Prop := ∃ t, h.get? a = some { cls := C, dict := o, data := .fields #[.ref t, .none, .none, .none, .bool false, .none] }
section
variable {X : Cx} {pins : List (Addr × Obj)} {σ : St} {H H' : Hp} {s s' : Shared} {a dx : Addr} {C : Value} {o : Option Addr}
theorem ahT {E : Value -> Shared -> Prop} (I : Inv X pins σ H s) (hst : X.stack = X.env :: X.outer) (hf : X.env.frame = some X.env.locals) (hex : X.ex = []) (x : XLie X.prog X.w X.stack H s a C H' s') (d : Dct a o s'.heap) :
  wpAny (model X.prog X.w) X.A (leaving X.env (.ref a)) (fun _ s'' => XLie X.prog X.w X.outer X.H₀ X.s₀ a C H' s'' /\ Dct a o s''.heap) E s' :=
 aeC (aeB _ _) (aiV I hst hf hex x) fun _ s'' y k => ⟨y, d.kd k⟩
end
theorem aox {P : Program} {w : World} {K : ao0} {mg : Str -> Option Value} {base : Heap} {N : List Str} {qual : Str} {scope : Scope} {f : Addr} {cd : Value} {A : Around} {outer : List Env} {s : Shared} {H : Hp} {E : XK} :
  Passes (CXf P w) (zI (CXf P w) P w K mg base N qual scope f cd A outer s H E) E := fun pins σ H1 s1 e s' I h => by
 obtain ⟨a, C, o, H', rfl, x, d, hE⟩ := h
 exact wpAny_mono (ahT (X := zI (CXf P w) P w K mg base N qual scope f cd A outer s H E) (E := fun _ _ => False) I rfl rfl rfl x d) (fun _ s'' y => ⟨a, C, o, H', rfl, y.1, y.2, hE⟩) fun _ _ z => z.elim
end L2
end
section
namespace L2
open PySem PySem.Spec PyProof.Rows PySem.Builtin Builtin Builtin.ObjectAttr
def ajy (K : ao0) (C f : Addr) (bmB : List Value) (newId : String) : Bool :=
 match K.lookup C with
 | some ⟨c0, _, .cls cd, sl⟩ => c0 == .type "type" && cd.mro.head? == some (.ref C) && cd.hasDel == false && cd.hasDict && PySem.W.tailIn K bmB cd.mro.tail && PySem.W.nsOkIn K cd.ns && apv K cd.ns "__init__" == some (some (.ref f))
   && sl.toList.length == 6 && sl.toList[4]? == some (some (.builtin newId))
 | _ => false
structure XCls (h : Heap) (C f : Addr) (bmB : List Value) (newId : String) : Prop where
 ex : ∃ nm q N bs bm sn sub ab col dd k0 k1 k2 k3 k5 mN, h.get? C = some (excClassObj nm q C N bs bm true sn sub ab col dd k0 k1 k2 k3 k5 newId) /\ h.Ns N mN /\ mN "__init__" = some (.ref f) /\ OwnTail h bmB bm
end L2
end
section
namespace L2
open PySem PySem.Spec PySem.W PyProof.Rows PySem.Calls PySem.Builtin Builtin Builtin.ObjectAttr
abbrev bare (C : Addr) (o : Option Addr) (t : Addr) : Obj := { cls := .ref C, dict := o, data := .fields #[.ref t, .none, .none, .none, .bool false, .none] }
abbrev bmV : List Value := [.type "ValueError", .type "Exception", .type "BaseException", .type "object"]
structure FldC (K : ao0) (C f D : Addr) (name : Str) : Prop where
 wi : ajy K C f bmV "ValueError.__new__" = true
 fn : PySem.W.typeIn K (.ref f) = some (.type "function")
 ob : asi K C (.type "object") = some true
 sa : aqc K (.ref C) "__setattr__" = some (some (.builtin "object.__setattr__"))
 na : aqc K (.ref C) name = some none
 rd : PySem.W.readsIn K D (.type "type") = true
 sp : arq K (.ref D) "__getattribute__" = some (some (.builtin "type.__getattribute__"))
 kp : apW K (.ref C) = true
 fi : PySem.W.findCls K (.ref D) (.type "type") "__init__" = some (.val (.builtin "ValueError.__init__"))
section
variable {X : Cx} {pins : List (Addr × Obj)} {σ : St} {H H' : Hp} {s s' : Shared} {h' : Heap} {a b dx C D f : Addr} {o : HO} {t' : Nat} {name : Str}
def anm (C : Addr) (name : Str) : Sp := fun vs H Q _ => ∃ a y, vs = [.ref a, y] /\ H a = some (.ext (amj a (.ref C) none)) /\ ∀ dx, H dx = none -> dx ≠ a -> Q .non (upd (upd H dx (.xd [(name, y)])) a (.ext (amj a (.ref C) (some dx))))
end
section
variable {X : Cx} {pins : List (Addr × Obj)} {σ : St} {H H' : Hp} {s s' : Shared} {C D f : Addr} {name : Str} {k : Nat} {fd : FuncData} {ps : List Str}
theorem abB {P : Program} {w : World} {K : ao0} {mg : Str -> Option Value} {base : Heap} {N : List Str} {qual : Str} {scope : Scope} {f : Addr} {cd : Value} {A : Around} {outer : List Env} {s : Shared} {H : Hp} {E : XK} :
  ∀ e s', wpAny (model P w) (zI (CXf P w) P w K mg base N qual scope f cd A outer s H E).A (leaving (zI (CXf P w) P w K mg base N qual scope f cd A outer s H E).env e) (fun _ s'' => CXf P w outer H s E e s'') (fun _ _ => False) s' ->
   (zI (CXf P w) P w K mg base N qual scope f cd A outer s H E).xe e s' := fun e s' h => wpAny_mono h (fun _ _ y => y) fun _ _ z => z.elim
theorem Fun.okF {P : Program} {w : World} {K : ao0} {mg : Str -> Option Value} {base : Heap} {x qual : Str} {st : Stmt} {f : Addr} {fd : FuncData} {N ps : List Str} {k : Nat} {sp : Sp} (F : Fun K x qual st f fd) (S : FnScope N ps (zf st)) (len : ∀ vs H Q E, sp vs H Q E -> vs.length = ps.length)
  (hbody : ∀ (cdv : Value) (A : Around) (outer : List Env) (s : Shared) (H : Hp) (vs : List V) (Q : VK) (E : XK), Room k (A.deeper (envOfC qual (zf st) s.heap.objs.size f cdv)) -> sp vs H Q E ->
   ∃ t, PSs (zI (CXf P w) P w K mg base N qual (zf st) f cdv A outer s H E) (yr st) t /\ t { nx := fun _ H' => Q .non H', rt := Q } (start N vs) H) : FnOk P w K mg base (CXf P w) (k + 1) f fd ps sp := by
 obtain ⟨oc, od, kV, doc, pm, an, cdv, ct, osl, rfl, lk, hcd⟩ := F.ex
 exact al4 lk hcd S len fun A outer s H vs Q E hr hsp => hbody cdv A outer s H vs Q E hr hsp
end
def ExcAt (a : Addr) (C : Value) (o : Option Addr) (h : Heap) : Prop := ∃ u, h.get? a = some u /\ u.cls = C /\ aez u = some .none /\ ∀ dx, o = some dx -> u.dict = some dx
section
variable {X : Cx} {pins : List (Addr × Obj)} {σ : St} {H H1 H2 : Hp} {s s1 s2 : Shared} {a C0 : Addr} {C : Value} {o : Option Addr} {i j : Nat} {n hx : Str} {b0 : Stmt} {suite : List Stmt} {hp hpos : Pos} {ts : TS} {D : Ends}
theorem aoy (I : Inv X pins σ H1 s1) (x : XLie X.prog X.w X.stack H1 s1 a C H2 s2) (dc : Dct a o s2.heap) (hst : X.stack = X.env :: X.outer) (hf : X.env.frame = some X.env.locals) (hN : X.N.Nodup) (hj : X.N[j]? = some n) (hn : X.env.scope.names.lookup n = some .local)
  (hg : Gl X hx) (hm : X.mg hx = some (.ref C0)) (hit : aqV X.K C (.ref C0) = some true) (hs : PSs (X.marked (.ref a)) (b0 :: suite) ts) (h : ts (acX D j) (σ.set j (some (.ref a))) (upd H2 a (.ext (ExcAt a C o))))
  (hd : (hx == ("__debug__" : Str)) = false := by decide) :
  wpAny (model X.prog X.w) X.A (noteFrame (.ref a) X.env) (fun _ t2 => wpAny (model X.prog X.w) X.A (setFlight (.ref a) none) (fun _ t3 =>
   wpAny (model X.prog X.w) X.A (handleBy (.ref a) X.env [.ExceptHandler (some (.Name hx hp)) (some n) (b0 :: suite) hpos]) (SP X pins D) X.xe t3) X.xe t2) X.xe s2 := by
 obtain ⟨B, a0, fl, dom, trk⟩ := x.fly
 have fl0 := fl
 rw [hst] at fl0
 refine aeC (agW _ _) (wpAny_looks_onW (by rw [I.ok.frames, hst]) hf fl0 (Q := fun _ s' => ∃ h4, s' = { s2 with heap := h4 } /\ Heap.HeldW B (X.env :: X.outer) a C a0 X.env.locals h4 /\ s2.heap.UpToSlots h4) fun h4 held up4 => ⟨h4, rfl, held, up4⟩) ?_
 rintro _ _ ⟨h4, rfl, held, up4⟩ kd4
 refine aeC (aat _ _) (wpAny_landsW held (Q := fun _ s' => ∃ h5, s' = { s2 with heap := h5 } /\ asA B (X.env :: X.outer) a C a0 h5 /\ h4.UpToSlots h5) fun h5 fl5 up5 => ⟨h5, rfl, fl5, up5⟩) ?_
 rintro _ _ ⟨h5, rfl, fl5, up5⟩ kd5
 have mv : ∀ {hh : Heap}, B.StaysIn hh -> s2.heap.UpToSlots hh -> Un (frs X.stack) [] H1 H2 s1.heap hh /\ HOk X.prog X.w H2 hh := fun st up => x.move fl dom trk st up
 have I5 : Inv X pins σ H2 { s2 with heap := h5 } := I.call' (s' := { s2 with heap := h5 }) x.os (mv fl5.1 (up4.trans up5)).1 (mv fl5.1 (up4.trans up5)).2 x.bare (fun b z => absurd z (by simp))
 refine wpAny_handleBy_cons (codeAny_handlers_test (qS (X := X.marked (.ref a)) (I5.marked (.ref a)) hg hm ?_ hd)) (by intro q; cases q)
 obtain ⟨ob, hob, hoc⟩ := fl5.there
 have LT : PySem.W.Looks (model X.prog X.w) h5 (typeOf (.ref a)) C := by
  subst hoc
  exact (PySem.W.Looks.ld hob).andThen .now
 refine (PySem.W.exm_one I5.kIn LT hit).at (codeAny_handlers_suite_as ?_)
 refine aeC (aat _ _) (lands_againW fl5 (Q := fun _ s' => ∃ h6, s' = { s2 with heap := h6 } /\ asA B (X.env :: X.outer) a C a0 h6 /\ h5.UpToSlots h6) fun h6 fl6 up6 => ⟨h6, rfl, fl6, up6⟩) ?_
 rintro _ _ ⟨h6, rfl, fl6, up6⟩ kd6
 obtain ⟨un, ok⟩ := mv fl6.1 ((up4.trans up5).trans up6)
 have fr6 : H2 a = none := x.free
 have ne : ∀ {b : Addr} {u : HO}, H2 b = some u -> upd H2 a (.ext (ExcAt a C o)) b = some u := fun {b u} e => by
  rw [zw fun z => by rw [z, fr6] at e; cases e]
  exact e
 have here : ExcAt a C o h6 := by
  obtain ⟨u, h1, h2⟩ := fl6.there
  obtain ⟨v, z1, z2, z3⟩ := ((dc.kd kd4).kd kd5).kd kd6
  rw [h1] at z1
  cases z1
  exact ⟨u, h1, h2, z2, z3⟩
 have I7 : Inv X pins σ (upd H2 a (.ext (ExcAt a C o))) { s2 with heap := h6 } := by
  refine I.call' (s' := { s2 with heap := h6 }) x.os ⟨un.keep, un.slot, fun b u q m z => ?_, un.there, fun b xs q => ne (un.tups b xs q), fun b u v q => ne (un.frzs b u v q), fun b ps q => ?_⟩ (fun b u e => ?_) x.bare (fun b z => absurd z (by simp))
  ·rw [zw fun e => by rw [e, x.new] at q; cases q]
   exact un.free b u q m z
  ·obtain ⟨more, q2⟩ := un.tbls b ps q
   exact ⟨more, ne q2⟩
  ·by_cases hb : b = a
   ·subst hb
    rw [zy] at e
    cases e
    obtain ⟨u, z⟩ := here
    exact ⟨⟨u, z⟩, ⟨u, z.1⟩, fun g1 g2 p k => let ⟨v, q1, q2⟩ := p; ⟨v, k v q1, q2⟩⟩
   ·rw [zw hb] at e
    exact (ok b u e).stay (fun c v _ q => q) (fun c q => ne q) fun c xs q => ne q
 refine jq (X := X.marked (.ref a)) (v := .ref a) (I7.marked _) hN hj (.inl hn) rfl (fun s8 I8 => ?_) (.inr hn)
 refine wpAny_mono (hs pins s8 _ _ (acX D j) I8 h) (fun f s9 q => ?_) fun _ _ z => z.elim
 show wpAny (model X.prog X.w) X.A (do bindName X.env n .none; unbindBehindTheSuite X.env n hpos) (fun _ t => SP X pins D f t) X.xe s9
 cases f with
 | next =>
  obtain ⟨σ', H', I9, q9⟩ := q
  exact acY (I9.unmarked I.ok) hN hj hn fun s' I' => ⟨_, H', I', q9⟩
 | brk =>
  obtain ⟨σ', H', I9, q9⟩ := q
  exact acY (I9.unmarked I.ok) hN hj hn fun s' I' => ⟨_, H', I', q9⟩
 | cont =>
  obtain ⟨σ', H', I9, q9⟩ := q
  exact acY (I9.unmarked I.ok) hN hj hn fun s' I' => ⟨_, H', I', q9⟩
 | ret u =>
  obtain ⟨v, σ', H', I9, r9, q9⟩ := q
  exact acY (I9.unmarked I.ok) hN hj hn fun s' I' => ⟨v, _, H', I', r9, q9⟩
end
end L2
end
section
namespace L2
open PySem PySem.Spec PySem.W PyProof.Rows PySem.Calls PySem.Builtin Builtin Builtin.ObjectAttr Builtin.Getset_descriptor
theorem ano {h : Heap} {a C : Addr} {o : Option Addr} (x : ExcAt a (.ref C) o h) : abq a C h := let ⟨u, h1, h2, _⟩ := x; ⟨u, h1, h2⟩
def anp (K : ao0) : List V -> Hp -> VK -> Prop := fun xs H Q => ∃ a C o c b, xs = [.ref a, c] /\ H a = some (.ext (ExcAt a (.ref C) o)) /\ ExcWays K C /\ ((∃ n, c = .ty n /\ apa K (.ref C) (.type n) = some b) \/ ∃ D, c = .ref D /\ apa K (.ref C) (.ref D) = some b) /\ Q (.bl b) H
theorem yB {X : Cx} {K : ao0} (hK : X.K = K) : yn X (.builtin "isinstance") (anp K) := by
 subst hK
 intro pins s σ H xs us Q I r h
 obtain ⟨a, C, o, c, b, rfl, hH, Wy, hc, q⟩ := h
 obtain ⟨u, w', rfl, rx, rn⟩ := vals2 r
 cases rx
 have hI : abq a C s.heap := ano (I.hok a _ hH).1
 rcases hc with ⟨n, rfl, hk⟩ | ⟨D, rfl, hk⟩ <;> cases rn <;> exact PySem.W.kia_one (aiY Wy) I.kIn hI hk (fun z => nomatch z) fun tk => ⟨.bl b, H, I.tok tk, rfl, q⟩
def PBy (X : Cx) (body : List Stmt) (tb : XK -> TS) : Prop := ∀ (pins : List (Addr × Obj)) (s : Shared) (σ : St) (H : Hp) (D : Ends) (E : XK), Inv X pins σ H s -> tb E D σ H ->
 wpAny (model X.prog X.w) X.A (execs body X.env) (SP X pins D) (fun e s' => ∃ H1 s1, Inv X pins σ H1 s1 /\ CXf X.prog X.w X.stack H1 s1 E e s') s
section
variable {X : Cx} {k : Nat} {f : Addr} {fd : FuncData} {ps : List Str} {sp : Sp} {t : TA} {fx y : Str} {e0 : Expr} {es : List Expr} {p py cpos spos pos : Pos} {rest : List Stmt} {tr : TS} {i : Nat}
def bIf (c : TT) (t u : XK -> TS) : XK -> TS := fun E D σ H => c σ H fun b H1 => if b = true then t E D σ H1 else u E D σ H1
def amk (K : ao0) (C0 : Addr) (tb : XK -> TS) (j : Nat) (ts : Addr -> TS) : TS := fun D σ H => tb (fun C o H2 => aqV K C (.ref C0) = some true /\ ∀ a, H2 a = none -> ts a (acX D j) (σ.set j (some (.ref a))) (upd H2 a (.ext (ExcAt a C o)))) D σ H
theorem ak6 {body suite : List Stmt} {tb : XK -> TS} {b0 : Stmt} {hx n : Str} {hp hpos : Pos} {C0 : Addr} {j : Nat} {tss : Addr -> TS} (hB : PBy X body tb) (hN : X.N.Nodup) (hst : X.stack = X.env :: X.outer) (hf : X.env.frame = some X.env.locals) (hj : X.N[j]? = some n) (hn : X.env.scope.names.lookup n = some .local)
  (hg : Gl X hx) (hm : X.mg hx = some (.ref C0)) (hs : ∀ a, PSs (X.marked (.ref a)) (b0 :: suite) (tss a)) (hd : (hx == ("__debug__" : Str)) = false := by decide) :
  PS X (.Try body [.ExceptHandler (some (.Name hx hp)) (some n) (b0 :: suite) hpos] [] [] pos) (amk X.K C0 tb j tss) := by
 intro pins s σ H D I h
 refine wpAny_Try_except (wpAny_mono (hB pins s σ H D _ I h) (fun fl s1 z => ?_) fun e s' z => ?_)
 ·cases fl with
  | next => exact wpAny_execs_nil z
  | brk => exact z
  | cont => exact z
  | ret u => exact z
 ·obtain ⟨H1, s1, I1, a, C, o, H2, rfl, x, dc, hit, hts⟩ := z
  exact aoy (ts := tss a) I1 x dc hst hf hN hj hn hg hm hit (hs a) (hts a x.free) hd
end
abbrev XD := Option (Str × PyData)
def FieldIs (K : ao0) (Hh : Hp) : Option Addr -> XD -> Prop
 | none, none => True
 | some dx, some (n, d) => ∃ v, Hh dx = some (.xd [(n, v)]) /\ Rep K Hh d v
 | _, _ => False
theorem FieldIs.mono {K : ao0} {H H' : Hp} (s : Same H H') : ∀ {o : Option Addr} {x : XD}, FieldIs K H o x -> FieldIs K H' o x
 | none, none, _ => trivial
 | some dx, some (n, d), h => let ⟨v, h1, h2⟩ := h; ⟨v, s _ _ h1, Rep.mono s d v h2⟩
 | none, some _, h => h.elim
 | some _, none, h => h.elim
def jB (K : ao0) (a : Addr) (C : Value) (x : XD) : Hp -> V -> Prop := fun Hh v => ∃ o, v = .ref a /\ Hh a = some (.ext (ExcAt a C o)) /\ FieldIs K Hh o x
def Wish (K : ao0) (f : Fx) (E : XK) (H : Hp) (Z : Value -> XD -> Prop) : Prop := ∀ C o x H', Goes f H H' -> FieldIs K (hide H' f) o x -> Z C x -> E C o H'
theorem Wish.go {K : ao0} {f : Fx} {E : XK} {H H1 : Hp} {Z : Value -> XD -> Prop} (z : Wish K f E H Z) (g : Goes f H H1) : Wish K f E H1 Z := fun C o x H' g' => z C o x H' (g.trans g')
def PEf (K : ao0) (f : Fx) (E : XK) (te : TE) (ρ : zr) (P : PyData -> Prop) (Z : Value -> XD -> Prop) : Prop := ∀ (σ : St) (H : Hp) (Q : VK), EnvOk K f ρ σ H -> (∀ d v H', Goes f H H' -> Rep K (hide H' f) d v -> P d -> Q v H') -> Wish K f E H Z -> te σ H Q
def PSf (K : ao0) (f : Fx) (E : XK) (ts : TS) (ρ : zr) (D : DEnds) (Z : Value -> XD -> Prop) : Prop := ∀ (σ : St) (H : Hp) (N : Ends), EnvOk K f ρ σ H -> (∀ ρ' σ' H', Goes f H H' -> EnvOk K f ρ' σ' H' -> D.nx ρ' -> N.nx σ' H') ->
 (∀ d v H', Goes f H H' -> Rep K (hide H' f) d v -> D.rt d -> N.rt v H') -> (∀ ρ' σ' H', Goes f H H' -> EnvOk K f ρ' σ' H' -> D.bk ρ' -> N.bk σ' H') -> (∀ ρ' σ' H', Goes f H H' -> EnvOk K f ρ' σ' H' -> D.ct ρ' -> N.ct σ' H') -> Wish K f E H Z -> ts N σ H
def spF {γ : Type} (K : ao0) (n : Nat) (pre : γ -> List DV -> Prop) (post : γ -> PyData -> Prop) (exc : γ -> Value -> XD -> Prop) : Sp := fun vs H Q E => ∃ f xs c, RepVs K f H xs vs /\ xs.length = n /\ FOk f H /\ pre c xs /\
 (∀ r v H', Goes f H H' -> Rep K (hide H' f) r v -> post c r -> Q v H') /\ Wish K f E H (exc c)
section
variable {K : ao0} {f : Fx} {ρ : zr} {E : XK} {te : TE} {ts tu : TS} {tt : TT} {t : TA} {P : PyData -> Prop} {D : DEnds} {Z : Value -> XD -> Prop} {g : TG} {wi : TI}
theorem aau (h : PEd K f te ρ P) : PEf K f E te ρ P Z := fun σ H Q e q _ => h σ H Q e q
theorem qo (h : PSd K f ts ρ D) : PSf K f E ts ρ D Z := fun σ H N e n r b c _ => h σ H N e n r b c
theorem abC {γ : Type} {n : Nat} {pre : γ -> List DV -> Prop} {post : γ -> PyData -> Prop} {exc : γ -> Value -> XD -> Prop} (c : γ) (h : PAd K f t ρ fun xs => xs.length = n /\ pre c xs /\ (∀ r, post c r -> P r) /\ ∀ C x, exc c C x -> Z C x) : PEf K f E (vn (spF K n pre post exc) [] E t) ρ P Z := fun σ H Q e q z =>
 h σ H _ e fun xs vs H1 g1 r1 ⟨hl, hp, k, kz⟩ => ⟨f, xs, c, by rw [apC]; exact r1, hl, g1.2, hp, fun r v H' g' r' p' => q r v H' (g1.trans g') r' (k r p'), fun C o x H' g' fi p' => z C o x H' (g1.trans g') fi (kz C x p')⟩
theorem abD {C : Value} (h : PAd K f t ρ fun xs => xs.length <= 1000 /\ Z C none) : PSf K f E (aiW C E t) ρ D Z := fun σ H N e n r b c z =>
 h σ H _ e fun xs vs H1 g1 r1 ⟨hl, hz⟩ => ⟨by rw [r1.length]; exact hl, z C none none H1 g1 trivial hz⟩
theorem qG (h : PSf K f E ts ρ { D with nx := fun ρ' => PSf K f E tu ρ' D Z } Z) : PSf K f E (qH ts tu) ρ D Z := fun σ H N e n r b c z =>
 h σ H _ e (fun ρ' σ' H' g' e' p => p σ' H' N e' (fun ρ2 σ2 H2 g2 => n ρ2 σ2 H2 (g'.trans g2)) (fun d v H2 g2 => r d v H2 (g'.trans g2)) (fun ρ2 σ2 H2 g2 => b ρ2 σ2 H2 (g'.trans g2)) (fun ρ2 σ2 H2 g2 => c ρ2 σ2 H2 (g'.trans g2)) (z.go g')) r b c z
theorem ak7 (h : PTd K f tt ρ fun q => if q = true then PSf K f E ts ρ D Z else PSf K f E tu ρ D Z) : PSf K f E (ahk tt ts tu) ρ D Z := fun σ H N e n r b c z =>
 h σ H _ e fun q H1 g1 p => by
  have go : ∀ tx, PSf K f E tx ρ D Z -> tx N σ H1 := fun tx p => p σ H1 N (e.mono g1) (fun ρ2 σ2 H2 g2 => n ρ2 σ2 H2 (g1.trans g2)) (fun d v H2 g2 => r d v H2 (g1.trans g2)) (fun ρ2 σ2 H2 g2 => b ρ2 σ2 H2 (g1.trans g2)) (fun ρ2 σ2 H2 g2 => c ρ2 σ2 H2 (g1.trans g2)) (z.go g1)
  cases q with
  | false => rw [if_neg aoY] at p ⊢; exact go _ p
  | true => rw [if_pos rfl] at p ⊢; exact go _ p
theorem abE (h : PEf K f E te ρ (fun _ => D.nx ρ) Z) : PSf K f E (adU te) ρ D Z := fun σ H N e n r b c z => h σ H _ e (fun d v H' g' _ p => n ρ σ H' g' (e.mono g') p) z
theorem acA (h : PEf K f E te ρ D.rt Z) : PSf K f E (acP te) ρ D Z := fun σ H N e n r b c z => h σ H _ e r z
def PYd (K : ao0) (f : Fx) (tb : XK -> TS) (ρ : zr) (D : DEnds) (Z : Value -> XD -> Prop) : Prop := ∀ (E : XK), PSf K f E (tb E) ρ D Z
theorem ahU {ta tb : XK -> TS} (h : PTd K f tt ρ fun q => if q = true then PYd K f ta ρ D Z else PYd K f tb ρ D Z) : PYd K f (bIf tt ta tb) ρ D Z := fun E =>
 ak7 (ts := ta E) (tu := tb E) fun σ H Q e q => h σ H Q e fun b H' g' p => q b H' g' (by
  cases b with
  | false => rw [if_neg aoY] at p ⊢; exact p E
  | true => rw [if_pos rfl] at p ⊢; exact p E)
theorem aav {tb : XK -> TS} {C0 : Addr} {j : Nat} {tss : Addr -> TS}
  (h : PYd K f tb ρ D fun C x => aqV K C (.ref C0) = some true /\ ∀ a, PSd K f (tss a) (ρ.set j (some (.mon (jB K a C x)))) { nx := fun ρ' => D.nx (ρ'.set j none), rt := D.rt, bk := fun ρ' => D.bk (ρ'.set j none), ct := fun ρ' => D.ct (ρ'.set j none) }) :
  PSd K f (amk K C0 tb j tss) ρ D := fun σ H N e nx rt bk ct => by
 refine h _ σ H N e nx rt bk ct fun C o x H' g' fi ⟨hit, hs⟩ => ⟨hit, fun a hn => ?_⟩
 have gn : Goes f H' (upd H' a (.ext (ExcAt a C o))) := .of_same (zX hn _) g'.ok
 have gg := g'.trans gn
 have e2 := (e.mono gg).set j (x := .mon (jB K a C x)) (v := .ref a) fun H'' s'' => ⟨o, rfl, s'' _ _ (zB (fresh_ne g'.ok hn) zy), FieldIs.mono (gn.1.trans s'') fi⟩
 have none_ok : ∀ {ρ' : zr} {σ' : St} {H'' : Hp}, EnvOk K f ρ' σ' H'' -> EnvOk K f (ρ'.set j none) (σ'.set j none) H'' := fun {ρ' σ' H''} e' => by
  refine ⟨by rw [aqs, aqs]; exact e'.len, fun q y hy => ?_, e'.fd⟩
  by_cases hq : j = q
  ·subst hq
   rw [List.getElem?_set] at hy
   rw [if_pos rfl] at hy
   split at hy <;> cases hy
  ·rw [aqo hq] at hy ⊢
   exact e'.get q y hy
 exact hs a _ _ _ e2 (fun ρ' σ' H'' g'' e'' p'' => nx _ _ H'' (gg.trans g'') (none_ok e'') p'') (fun d v H'' g'' r'' p'' => rt d v H'' (gg.trans g'') r'' p'') (fun ρ' σ' H'' g'' e'' p'' => bk _ _ H'' (gg.trans g'') (none_ok e'') p'') (fun ρ' σ' H'' g'' e'' p'' => ct _ _ H'' (gg.trans g'') (none_ok e'') p'')
theorem ajz {j : Nat} {C a : Addr} {x : XD} {c : V} {b : Bool} (hj : ρ[j]? = some (some (.mon (jB K a (.ref C) x)))) (Wy : ExcWays K C) (hk : (∃ n, c = .ty n /\ apa K (.ref C) (.type n) = some b) \/ ∃ D, c = .ref D /\ apa K (.ref C) (.ref D) = some b) (p : P (.bool b)) :
  PEd K f (tCB (anp K) (yd (yf j) (yd (tC c) jS))) ρ P := fun σ H Q e q => by
 obtain ⟨v, hv, r⟩ := e.get j _ hj
 obtain ⟨o, rfl, hH, _⟩ := r H (zl H f)
 exact ⟨_, hv, a, C, o, c, b, rfl, hH, Wy, hk, q _ _ H (.refl e.fd) (rep_bool.mpr rfl) p⟩
end
structure FnInF (P : Program) (w : World) (K : ao0) (mg : Str -> Option Value) (base : Heap) (k : Nat) (x : Str) (ps : List Str) (sp : Sp) : Prop where
 ex : ∃ (f : Addr) (fd : FuncData), FnOk P w K mg base (CXf P w) k f fd ps sp /\ mg x = some (.ref f) /\ apW K (.ref f) = true /\ Binds K fd ps []
section
variable {P : Program} {w : World} {K : ao0} {mg : Str -> Option Value} {base : Heap} {j k n : Nat} {x : Str} {st : Stmt} {ps N : List Str} {γ : Type} {pre : γ -> List DV -> Prop} {post : γ -> PyData -> Prop} {exc : γ -> Value -> XD -> Prop} {sp : Sp}
theorem FnInF.mono (h : FnInF P w K mg base j x ps sp) (hk : j <= k) : FnInF P w K mg base k x ps sp := let ⟨f, fd, a, b, c, d⟩ := h.ex; ⟨f, fd, a.mono hk, b, c, d⟩
theorem Def.okF (F : Def K mg x st ps) (S : FnScope N ps (zf st)) (hn : ps.length = n)
  (h : ∀ (fa : Addr) (cdv : Value) (A : Around) (outer : List Env) (s : Shared) (H : Hp) (E : XK), Room k (A.deeper (envOfC x (zf st) s.heap.objs.size fa cdv)) ->
   ∃ t, PSs (zI (CXf P w) P w K mg base N x (zf st) fa cdv A outer s H E) (yr st) t /\ ∀ f xs c, xs.length = n -> pre c xs -> PSf K f E t (jx N xs) { nx := fun _ => post c .none, rt := post c } (exc c)) :
  FnInF P w K mg base (k + 1) x ps (spF K n pre post exc) := by
 obtain ⟨fa, fd, F1, F2, F3⟩ := F.ex
 refine ⟨fa, fd, F1.okF S (fun vs H Q E h => ?_) (fun cdv A outer s H vs Q E hr hs => ?_), F3, F1.kp, F2⟩
 ·obtain ⟨f, xs, c, r, hl, _⟩ := h
  rw [r.length, hl, hn]
 ·obtain ⟨f, xs, c, r, hl, fo, hp, q, z⟩ := hs
  obtain ⟨t, h1, h2⟩ := h fa cdv A outer s H E hr
  refine ⟨t, h1, h2 f xs c hl hp _ H _ (yS r fo) (fun ρ' σ' H' g' e' p => q .none .non H' g' (rep_none.mpr rfl) p) (fun d v H' g' r' p => q d v H' g' r' p) (fun _ _ _ _ _ z => z.elim) (fun _ _ _ _ _ z => z.elim) z⟩
theorem qN {qual : Str} {scope : Scope} {f : Addr} {cd : Value} {A : Around} {outer : List Env} {s : Shared} {H : Hp} {E : XK} {y : Str} {qs : List Str} {sq : Sp} {e : Expr} {es : List Expr} {t : TA} {p pos : Pos} (G : FnInF P w K mg base k y qs sq) (hr : Room k (zI (CXf P w) P w K mg base N qual scope f cd A outer s H E).A) (hg : Gl (zI (CXf P w) P w K mg base N qual scope f cd A outer s H E) y) (ha : PA (zI (CXf P w) P w K mg base N qual scope f cd A outer s H E) (e :: es) t) (hdb : (y == ("__debug__" : Str)) = false := by decide)
  (he : starEach (e :: es) (zI (CXf P w) P w K mg base N qual scope f cd A outer s H E).env = (false, eval e (zI (CXf P w) P w K mg base N qual scope f cd A outer s H E).env) :: starEach es (zI (CXf P w) P w K mg base N qual scope f cd A outer s H E).env := by rfl)
  (hpl : (backTo pos (starEach es (zI (CXf P w) P w K mg base N qual scope f cd A outer s H E).env)).any (·.1) = false := by rfl) :
  PE (zI (CXf P w) P w K mg base N qual scope f cd A outer s H E) (.Call (.Name y p) (e :: es) [] pos) (vn sq [] E t) := by
 obtain ⟨g, gd, G1, G2, G3, G4⟩ := G.ex
 exact af9 (dvs := []) G1 hr hg G2 G3 G4 .nil aox ha hdb he hpl
end
structure FCls (K : ao0) (mg : Str -> Option Value) (x base : Str) (C : Addr) (name : Str) (st : Stmt) (ps : List Str) : Prop where
 ex : ∃ (f D : Addr) (fd : FuncData), FldC K C f D name /\ mg x = some (.ref C) /\ mg base = some (.ref D) /\ Fun K "__init__" (x ++ ".__init__") st f fd /\ Binds K fd ps []
structure InitOk (P : Program) (w : World) (K : ao0) (mg : Str -> Option Value) (base : Heap) (k : Nat) (C : Addr) (name : Str) : Prop where
 ex : ∃ (f D : Addr) (fd : FuncData) (ps : List Str), FldC K C f D name /\ FnOk P w K mg base CX0 k f fd ps (anm C name) /\ Binds K fd ps []
theorem qO {K : ao0} {f : Fx} {ρ : zr} {P : PyData -> Prop} {j : Nat} {C D a : Addr} {x : XD} {b : Bool} (hj : ρ[j]? = some (some (.mon (jB K a (.ref C) x)))) (Wy : ExcWays K C) (hk : apa K (.ref C) (.ref D) = some b) (p : P (.bool b)) :
  PEd K f (tCB (anp K) (yd (yf j) (yd (tC (.ref D)) jS))) ρ P := ajz hj Wy (.inr ⟨D, rfl, hk⟩) p
theorem aml {K : ao0} {f : Fx} {ρ : zr} {D : DEnds} {tt : TT} {ts tu : TS} (p : Prop) [Decidable p] (h : PTd K f tt ρ fun b => b = decide p) (h1 : p -> PSd K f ts ρ D) (h2 : ¬ p -> PSd K f tu ρ D) : PSd K f (ahk tt ts tu) ρ D := abZ fun σ H Q e q => h σ H Q e fun b H' g z => q b H' g (by
 subst z
 by_cases hp : p
 ·rw [decide_eq_true hp, if_pos rfl]; exact h1 hp
 ·rw [decide_eq_false hp, if_neg aoY]; exact h2 hp)
def qX (K : ao0) (C : Addr) : Bool :=
 aqc K (.ref C) "__getattribute__" == some (some (.builtin "BaseException.__getattribute__")) && aqc K (.ref C) "__getattr__" == some none && aqc K (.ref C) "__class__" == some (some (.builtin "object.__class__"))
  && arq K (.builtin "object.__class__") "__get__" == some (some (.builtin "getset_descriptor.__get__")) && PySem.W.takesIn K (.builtin "object.__class__") == some true && asi K C (.type "object") == some true && asi K C (.type "BaseException") == some true && (PySem.W.clsIn K C).isSome
theorem agX {K : ao0} {C : Addr} (h : qX K C = true) : ExcWays K C := by
 unfold qX at h
 simp only [ao6, beq_iff_eq] at h
 obtain ⟨⟨⟨⟨⟨⟨⟨h1, h2⟩, h3⟩, h4⟩, h5⟩, h6⟩, h7⟩, h8⟩ := h
 exact ⟨h1, h2, h3, h4, h5, h6, h7, h8⟩
structure RoomM (k : Nat) (A : Around) : Prop where
 dp : A.depth + 3 * k + 5 < recursionLimit
 un : A.units + 16 * k + 200 < cLine
structure FnOkM (P : Program) (w : World) (K : ao0) (mg : Str -> Option Value) (base : Heap) (k : Nat) (f : Addr) (fd : FuncData) (ps : List Str) (sp : Addr -> Sp) : Prop where
 len : ∀ a vs H Q E, sp a vs H Q E -> vs.length = ps.length
 run : ∀ (A : Around) (outer : List Env) (s : Shared) (H : Hp) (args : Args) (us : List Value) (vs : List V) (Q : VK) (a : Addr), A.handled = some (.ref a) -> RoomM k A -> Env0 P w K mg base A outer s H -> BindsTo s fd args (ps.zip us) -> Vals vs us -> sp a vs H Q E0 ->
  codeAny (model P w) A (.call (.ref f) args) (CR CX0 outer P w H s Q E0) s
def cxM (P : Program) (w : World) (K : ao0) (mg : Str -> Option Value) (base : Heap) (N : List Str) (qual : Str) (scope : Scope) (f : Addr) (cd : Value) (A : Around) (outer : List Env) (s : Shared) (H : Hp) : Cx :=
 { zI CX0 P w K mg base N qual scope f cd A outer s H E0 with calm := false, xe := fun _ _ => False }
theorem anq {P : Program} {w : World} {K : ao0} {mg : Str -> Option Value} {base : Heap} {k : Nat} {f : Addr} {name qual : Str} {params : Arguments} {body : List Stmt} {scope : Scope} {dV kV doc pm cdv ct oc : Value} {an od : Option Addr}
  {osl : Array (Option Value)} {N ps : List Str} {sp : Addr -> Sp} (lk : K.lookup f = some ⟨oc, od, .func (aqn name qual params body scope dV kV doc pm an cdv ct), osl⟩) (hcd : ars K cdv qual = true) (S : FnScope N ps scope)
  (len : ∀ a vs H Q E, sp a vs H Q E -> vs.length = ps.length)
  (hbody : ∀ (A : Around) (outer : List Env) (s : Shared) (H : Hp) (vs : List V) (Q : VK) (a : Addr), A.handled = some (.ref a) -> RoomM k (A.deeper (envOfC qual scope s.heap.objs.size f cdv)) -> sp a vs H Q E0 ->
   ∃ t, PSs (cxM P w K mg base N qual scope f cdv A outer s H) body t /\ t { nx := fun _ H' => Q .non H', rt := Q } (start N vs) H) :
  FnOkM P w K mg base (k + 1) f (aqn name qual params body scope dV kV doc pm an cdv ct) ps sp := by
 refine ⟨len, fun A outer s H args us vs Q a hm hr e0 hb r hsp => ?_⟩
 have KX : K.In s.heap := e0.mod.kin.keeps fun b o e => (e0.bs b o e).1
 have hkind : ∀ y ∈ ps.zip us, scope.names.lookup y.1 = some .local \/ (scope.names.lookup y.1 = some .cell /\ ((cellsFrom (s.heap.objs.size + 1) scope.names []).lookup y.1).isSome = true) := fun ⟨n, v⟩ hy => (S.par n (arQ hy).1).imp id fun q => ⟨q, aqu _ _ _ (.inl q)⟩
 have rd : RoomM k (A.deeper (envOfC qual scope s.heap.objs.size f cdv)) := ⟨by have := hr.dp; show A.depth + 1 + 3 * k + 5 < _; omega, by have := hr.un; show A.units + 3 + 16 * k + 200 < _; omega⟩
 refine codeAny_call_function (by have := hr.dp; omega) (KX _ _ lk) rfl S.co S.gen rfl (PySem.W.codeRec_of KX hcd) (hb _ _ _ _ (wpAny_newFunctionEnv_cells S.kind hkind fun env he s1 x => ?_))
 subst he
 refine ⟨(e0.mod.nolimit.keeps fun b o e => (e0.bs b o e).1).keeps x.toInCall.keep, codeAny_func ?_⟩
 obtain ⟨t, ht, hq⟩ := hbody A outer s H vs Q a hm rd hsp
 have e1 : Env0 P w K mg base { A with handled := none } outer s H := ⟨e0.frames, e0.mod, e0.bs, e0.bsz, e0.funs, e0.frf, e0.hok, e0.bare⟩
 have J : Inv (zI CX0 P w K mg base N qual scope f cdv { A with handled := none } outer s H E0) [] (start N vs) H s1 := acg S rfl e1 (len _ _ _ _ _ hsp) r x
 have I : Inv (cxM P w K mg base N qual scope f cdv A outer s H) [] (start N vs) H s1 :=
  ⟨⟨J.ok.mod, J.ok.kind, J.ok.glob, J.ok.blt, J.ok.above, J.ok.inj, J.ok.has, J.ok.cab, (fun z => by cases z), asK e0.frames, J.ok.stk, J.ok.exf, J.ok.bs, J.ok.bsz, J.ok.noex, J.ok.exfs, J.ok.funs, J.ok.frf⟩, J.os, J.bare, J.base, J.loc, J.cell, J.free, J.freeC, J.pin, J.hok, J.len⟩
 refine wpAny_mono (ht [] s1 (start N vs) H _ I hq) (fun fl s' hs => ?_) fun e s' hs => hs.elim
 cases fl with
 | ret u =>
  obtain ⟨v, σ', H', Y, rv, q⟩ := hs
  exact ⟨v, H', Y.os, Y.bare, Y.base, Y.hok, rv, q⟩
 | next =>
  obtain ⟨σ', H', Y, q⟩ := hs
  exact ⟨V.non, H', Y.os, Y.bare, Y.base, Y.hok, rfl, q⟩
 | brk => exact ap0 hs.choose_spec.choose_spec.2
 | cont => exact ap0 hs.choose_spec.choose_spec.2
structure FnInM (P : Program) (w : World) (K : ao0) (mg : Str -> Option Value) (base : Heap) (k : Nat) (x : Str) (ps : List Str) (sp : Addr -> Sp) : Prop where
 ex : ∃ (f : Addr) (fd : FuncData), FnOkM P w K mg base k f fd ps sp /\ mg x = some (.ref f) /\ apW K (.ref f) = true /\ Binds K fd ps []
def spM {γ : Type} (K : ao0) (n : Nat) (pre : Addr -> γ -> List DV -> Prop) (post : γ -> PyData -> Prop) : Addr -> Sp := fun a => spD K n (pre a) post
section
variable {P : Program} {w : World} {K : ao0} {mg : Str -> Option Value} {base : Heap} {j k n : Nat} {x : Str} {st : Stmt} {ps N : List Str} {γ : Type} {pre : Addr -> γ -> List DV -> Prop} {post : γ -> PyData -> Prop} {sp : Addr -> Sp}
theorem FnInM.mono (h : FnInM P w K mg base j x ps sp) (hk : j <= k) : FnInM P w K mg base k x ps sp :=
 let ⟨f, fd, a, b, c, d⟩ := h.ex
 ⟨f, fd, ⟨a.len, fun A outer s H args us vs Q e hm hr => a.run A outer s H args us vs Q e hm ⟨by have := hr.dp; omega, by have := hr.un; omega⟩⟩, b, c, d⟩
theorem Def.okM (F : Def K mg x st ps) (S : FnScope N ps (zf st)) (hn : ps.length = n)
  (h : ∀ (fa : Addr) (cdv : Value) (A : Around) (outer : List Env) (s : Shared) (H : Hp) (a : Addr), A.handled = some (.ref a) -> RoomM k (A.deeper (envOfC x (zf st) s.heap.objs.size fa cdv)) ->
   ∃ t, PSs (cxM P w K mg base N x (zf st) fa cdv A outer s H) (yr st) t /\ ∀ f xs c, xs.length = n -> pre a c xs -> PSd K f t (jx N xs) { nx := fun _ => post c .none, rt := post c }) :
  FnInM P w K mg base (k + 1) x ps (spM K n pre post) := by
 obtain ⟨fa, fd, F1, F2, F3⟩ := F.ex
 obtain ⟨oc, od, kV, doc, pm, an, cdv, ct, osl, rfl, lk, hcd⟩ := F1.ex
 refine ⟨fa, _, anq lk hcd S (fun a vs H Q E h => ?_) (fun A outer s H vs Q a hm hr hs => ?_), F3, F1.kp, F2⟩
 ·obtain ⟨f, xs, c, r, hl, _⟩ := h
  rw [r.length, hl, hn]
 ·obtain ⟨f, xs, c, r, hl, fo, hp, q⟩ := hs
  obtain ⟨t, h1, h2⟩ := h fa cdv A outer s H a hm hr
  exact ⟨t, h1, h2 f xs c hl hp _ H _ (yS r fo) (fun ρ' σ' H' g' e' p => q .none .non H' g' (rep_none.mpr rfl) p) (fun d v H' g' r' p => q d v H' g' r' p) (fun _ _ _ _ _ z => z.elim) (fun _ _ _ _ _ z => z.elim)⟩
theorem ajA {X : Cx} {a : Addr} {e : Expr} {es : List Expr} {t : TA} {p pos : Pos} (G : FnInM X.prog X.w X.K X.mg X.base k x ps sp) (hr : Room k X.A) (hg : Gl X x) (ha : PA (X.marked (.ref a)) (e :: es) t) (hdb : (x == ("__debug__" : Str)) = false := by decide)
  (he : starEach (e :: es) X.env = (false, eval e X.env) :: starEach es X.env := by rfl) (hpl : (backTo pos (starEach es X.env)).any (·.1) = false := by rfl) : PE (X.marked (.ref a)) (.Call (.Name x p) (e :: es) [] pos) (vn (sp a) [] E0 t) := by
 obtain ⟨f, fd, F, hm, hk, hb⟩ := G.ex
 intro pins s σ H Q I h
 refine wpAny_Call_Name_kw (qS I hg hm ?_ hdb)
 refine ar0 (h₀ := X.base) I.ok.mod.kin hk (thn (ha pos pins s σ H _ I h) fun us s1 ⟨vs, H1, I1, r, q⟩ => ⟨I1.kIn, ?_⟩) he hpl
 have q : sp a vs H1 Q E0 := by have := q; dsimp only at this; rw [apC] at this; exact this
 have b2 := hb s1 us I1.kIn (by rw [apC, <- r.length]; exact F.len _ _ _ _ _ q)
 rw [apC] at b2
 refine wpAny_call (codeAny_mono (F.run _ _ s1 H1 ⟨us, []⟩ us vs Q a rfl ⟨hr.dp, hr.un⟩ I1.env0 b2 r q) fun res s' z => ?_)
 cases res with
 | error e => exact ap0 z
 | ok fl =>
  cases fl with
  | ret u => exact I1.after z
  | next => exact ap0 z
  | brk => exact ap0 z
  | cont => exact ap0 z
end
structure TN (K : ao0) (f : Fx) (a : Addr) (as : List Addr) (H2 : Hp) (ρ : zr) (R : Option (List (List Int))) (σ : St) (H : Hp) : Prop where
 env : EnvOk K (f.withs (a :: as)) ρ σ H
 sm : Same (hide H2 (f.withs (a :: as))) (hide H (f.withs (a :: as)))
 kp : ∀ b ∈ f.M, H b = H2 b
 tab : ∀ rows, R = some rows -> TabAt H a as rows
end L2
end
section
namespace L2
open PySem PySem.Spec PyProof.Rows
structure GoesW (f : Fx) (As : List Addr) (H2 H' : Hp) : Prop where
 sm : Same (hide H2 (f.withs As)) (hide H' f)
 ok : FOk f H'
 kp : ∀ b ∈ f.M, H' b = H2 b
structure FnAt (P : Program) (w : World) (K : ao0) (mg : Str -> Option Value) (base : Heap) (CX : CXT) (k : Nat) (a : Addr) (sp : Sp) : Prop where
 ex : ∃ (fd : FuncData) (ps : List Str), FnOk P w K mg base CX k a fd ps sp /\ apW K (.ref a) = true /\ Binds K fd ps []
def afD (fns : List (Addr × Sp)) (E : XK) (tf : TE) (t : TA) : TE := fun σ H Q => tf σ H fun x H1 => ∃ a sp, x = .ref a /\ (a, sp) ∈ fns /\ t σ H1 fun vs H2 => sp vs H2 Q E
section
variable {X : Cx} {CX : CXT} {k : Nat} {fns : List (Addr × Sp)} {E : XK} {fe e : Expr} {es : List Expr} {tf : TE} {t : TA} {pos : Pos}
theorem ajB {pins : List (Addr × Obj)} {σ : St} {H : Hp} {s : Shared} {Q : VK} (hf : PE X.nox fe tf) (G : ∀ a sp, (a, sp) ∈ fns -> FnAt X.prog X.w X.K X.mg X.base (CXf X.prog X.w) k a sp) (hr : Room k X.A)
  (ha : PA X.nox (e :: es) t) (I : Inv X pins σ H s) (h : afD fns E tf t σ H Q)
  (he : starEach (e :: es) X.env = (false, eval e X.env) :: starEach es X.env) (hpl : (backTo pos (starEach es X.env)).any (·.1) = false)
  (hev : eval (.Call fe (e :: es) [] pos) X.env = (do
   let f <- eval fe X.env
   callWith pos f [] (backTo pos (starEach (e :: es) X.env)) (backToKw pos (keywordEach [] X.env)))) :
  wpAny (model X.prog X.w) X.A (eval (.Call fe (e :: es) [] pos) X.env) (EP X pins σ Q) (fun e s' => ∃ H1 s1, Inv X pins σ H1 s1 /\ CXf X.prog X.w X.stack H1 s1 E e s') s := by
 rw [hev]
 refine wpAny_bind (wpAny_mono (hf pins s σ H _ (I.wish _) h) (fun u s0 z => ?_) fun _ _ z => z.elim)
 obtain ⟨x, H0, I0', r0, a, sp, ex, hm, q0⟩ := z
 have I0 : Inv X pins σ H0 s0 := I0'.unwish
 subst ex
 obtain rfl : u = Value.ref a := r0
 obtain ⟨fd, ps, F, hk, hb⟩ := (G a sp hm).ex
 refine ar0 (first := []) (h₀ := X.base) I0.ok.mod.kin hk (wpAny_mono (ha pos pins s0 σ H0 _ (I0.wish _) q0) (fun us s1 q => ?_) fun _ _ z => z.elim) he hpl
 obtain ⟨vs, H1, I1', r, q⟩ := q
 have I1 : Inv X pins σ H1 s1 := I1'.unwish
 refine ⟨I1.kIn, ?_⟩
 have b2 := hb s1 us I1.kIn (by rw [apC, <- r.length]; exact F.len _ _ _ _ q)
 rw [apC] at b2
 refine wpAny_call (codeAny_mono (F.run X.A X.stack s1 H1 ⟨us, []⟩ us vs _ _ hr I1.env0 b2 r q) fun res s' z => ?_)
 cases res with
 | error e => exact ⟨H1, s1, I1, z⟩
 | ok fl =>
  cases fl with
  | ret u => exact I1.after z
  | next => exact ap0 z
  | brk => exact ap0 z
  | cont => exact ap0 z
def amm (fns : List (Addr × Sp)) (tf : TE) (t : TA) (i : Nat) (tr : TS) : XK -> TS := fun E D σ H => afD fns E tf t σ H fun v H2 => tr D (σ.set i (some v)) H2
theorem agY {y : Str} {py spos : Pos} {rest : List Stmt} {tr : TS} {i : Nat} (hf : PE X.nox fe tf) (G : ∀ a sp, (a, sp) ∈ fns -> FnAt X.prog X.w X.K X.mg X.base (CXf X.prog X.w) k a sp) (hr : Room k X.A)
  (ha : PA X.nox (e :: es) t) (hN : X.N.Nodup) (hi : X.N[i]? = some y) (hy : Loc X.env.scope y) (hfy : X.fn y = true \/ X.env.scope.names.lookup y = some .local) (hR : PSs X.nox rest tr)
  (he : starEach (e :: es) X.env = (false, eval e X.env) :: starEach es X.env := by rfl) (hpl : (backTo pos (starEach es X.env)).any (·.1) = false := by rfl)
  (hev : eval (.Call fe (e :: es) [] pos) X.env = (do
   let f <- eval fe X.env
   callWith pos f [] (backTo pos (starEach (e :: es) X.env)) (backToKw pos (keywordEach [] X.env))) := by rfl)
  (hsw : swapsWith (.Call fe (e :: es) [] pos) (some (.Name y py)) spos.line X.env = pure false := by rfl) :
  PBy X (.Assign [.Name y py] (.Call fe (e :: es) [] pos) spos :: rest) (amm fns tf t i tr) := by
 intro pins s σ H D E I h
 refine wpAny_execs_cons (wpAny_Assign_Name ?_ hsw)
 refine wpAny_mono (ajB hf G hr ha I h he hpl hev) (fun u s2 z => ?_) fun _ _ z => z
 obtain ⟨v, H2, I2, r2, q2⟩ := z
 refine jq I2 hN hi hy r2 (fun s3 I3 => ?_) hfy
 refine wpAny_mono (hR pins s3 _ H2 D (I3.wish _) q2) (fun fl s4 z => ?_) fun _ _ z => z.elim
 cases fl with
 | next => obtain ⟨σ', H', J, q⟩ := z; exact ⟨σ', H', J.unwish, q⟩
 | brk => obtain ⟨σ', H', J, q⟩ := z; exact ⟨σ', H', J.unwish, q⟩
 | cont => obtain ⟨σ', H', J, q⟩ := z; exact ⟨σ', H', J.unwish, q⟩
 | ret u => obtain ⟨v', σ', H', J, q⟩ := z; exact ⟨v', σ', H', J.unwish, q⟩
end
def agZ : List Addr -> TA
 | [] => jS
 | a :: as => yd (tC (.ref a)) (agZ as)
theorem aeD : ∀ {as : List Addr} {σ : St} {H : Hp} {Q : List V -> Hp -> Prop}, Q (as.map .ref) H -> agZ as σ H Q
 | [], _, _, _, h => h
 | _ :: as, σ, H, Q, h => aeD (as := as) (Q := fun xs H2 => Q (_ :: xs) H2) h
section
variable {K : ao0} {f : Fx} {ρ : zr} {E : XK} {ti : TE} {t : TA} {P : PyData -> Prop} {D : DEnds} {Z : Value -> XD -> Prop} {tr : TS} {as : List Addr} {fns : List (Addr × Sp)} {γ : Type} {n i : Nat} {pre : γ -> List DV -> Prop} {post : γ -> PyData -> Prop} {exc : γ -> Value -> XD -> Prop}
theorem ahV {σ : St} {H : Hp} {Q : VK} (hl : as.length <= 1000) (c : γ) (e : EnvOk K f ρ σ H)
  (h : PEd K f ti ρ fun d => ∃ (q : Int) (a : Addr), d = .int q /\ atI (as.map V.ref) q = some (.ref a) /\ (a, spF K n pre post exc) ∈ fns /\ PAd K f t ρ fun xs => xs.length = n /\ pre c xs /\ (∀ r, post c r -> P r) /\ ∀ C x, exc c C x -> Z C x)
  (hq : ∀ d v H', Goes f H H' -> Rep K (hide H' f) d v -> P d -> Q v H') (z : Wish K f E H Z) : afD fns E (tOp (ad1 K) (afj (agZ as)) ti) t σ H Q := by
 refine aeD (as := as) ⟨ap1 (z4 (show (as.map V.ref).length <= 1000 by rw [aoZ]; exact hl)), fun p hp => ?_⟩
 have g0 : Goes f H (upd H p (.lst (as.map .ref))) := .of_same (zX hp _) e.fd
 have np := fresh_ne e.fd hp
 refine h σ _ _ (e.mono g0) fun d v H1 g1 r1 ⟨q, a, ed, ha, hm, h2⟩ => ?_
 subst ed
 rw [rep_int.mp r1]
 have hp1 : H1 p = some (.lst (as.map .ref)) := (zP (g1.sm p _ (zB np zy))).2
 refine ⟨p, as.map .ref, q, .ref a, rfl, rfl, .of hp1, ha, a, _, rfl, hm, ?_⟩
 have g01 := g0.trans g1
 refine h2 σ H1 _ (e.mono g01) fun xs vs H2 g2 r2 ⟨l, hpre, kp, kz⟩ => ?_
 have gg := g01.trans g2
 exact ⟨f, xs, c, r2, l, g2.2, hpre, fun r v H' g' r' p' => hq r v H' (gg.trans g') r' (kp r p'), fun C o x H' g' fi p' => z C o x H' (gg.trans g') fi (kz C x p')⟩
theorem aaw (hl : as.length <= 1000) (c : γ)
  (h : PEd K f ti ρ fun d => ∃ (q : Int) (a : Addr), d = .int q /\ atI (as.map V.ref) q = some (.ref a) /\ (a, spF K n pre post exc) ∈ fns /\ PAd K f t ρ fun xs => xs.length = n /\ pre c xs /\ (∀ r, post c r -> PSd K f tr (ρ.set i (some (.dat r))) D) /\ ∀ C x, exc c C x -> Z C x) :
  PYd K f (amm fns (tOp (ad1 K) (afj (agZ as)) ti) t i tr) ρ D Z := fun E σ H N e nx rt bk ct z =>
 ahV hl c e (P := fun r => PSd K f tr (ρ.set i (some (.dat r))) D) h (fun d v H' g' r' p => p _ _ _ ((e.mono g').set i (x := .dat d) r') (fun ρ2 σ2 H2 g2 => nx ρ2 σ2 H2 (g'.trans g2)) (fun d2 v2 H2 g2 => rt d2 v2 H2 (g'.trans g2)) (fun ρ2 σ2 H2 g2 => bk ρ2 σ2 H2 (g'.trans g2)) (fun ρ2 σ2 H2 g2 => ct ρ2 σ2 H2 (g'.trans g2))) z
end
section
variable {P : Program} {w : World} {K : ao0} {mg : Str -> Option Value} {base : Heap} {CX : CXT} {k : Nat} {a : Addr} {sp : Sp} {fd : FuncData} {ps : List Str} {l : List (Addr × Sp)}
theorem aeE : ∀ a sp, (a, sp) ∈ ([] : List (Addr × Sp)) -> FnAt P w K mg base CX k a sp := fun _ _ h => nomatch h
theorem jo (h1 : FnOk P w K mg base CX k a fd ps sp) (h2 : apW K (.ref a) = true) (h3 : Binds K fd ps []) (r : ∀ a sp, (a, sp) ∈ l -> FnAt P w K mg base CX k a sp) : ∀ a' sp', (a', sp') ∈ (a, sp) :: l -> FnAt P w K mg base CX k a' sp' := fun a' sp' h => by
 rcases ao7.mp h with e | e
 ·cases e
  exact ⟨fd, ps, h1, h2, h3⟩
 ·exact r a' sp' e
end
end L2
end
section
namespace L2
open PySem PySem.Spec PyProof.Rows
def ajC (K : ao0) : R2 := fun x y H Q => ∃ d ds, Rep K H d x /\ Rep K H (.tuple ds) y /\ d.canLay0 = true /\ (∀ e ∈ ds, e.canLay0 = true) /\ d.depth <= 50 /\ Q (.bl (ds.any fun e => apw e d)) H
theorem ak8 {X : Cx} (hu : X.A.units + 64 < cLine) : OpR X (compareOp .In) (ajC X.K) := by
 intro pins s σ H x y v u Q I rx ry ⟨d, ds, h1, h2, c1, c2, dd, q⟩
 obtain ⟨a, xs, rfl, hq, hr⟩ := rep_tuple.mp h2
 cases ry
 obtain ⟨bs, rb⟩ := yM I d x v h1 rx
 obtain ⟨its, r, pl, _⟩ := I.tuple hq
 have hu' : X.A.in1.units + 60 < cLine := by show X.A.units + 1 + 60 < cLine; omega
 refine SeqAt.in_tupleAt (eqR s.heap d) pl (fun w hw => aeh I rb c1 dd hu' hr r c2 w (by simpa using hw)) ⟨.bl _, H, I, rfl, ?_⟩
 rw [show its.toArray.any (eqR s.heap d) = its.any (eqR s.heap d) by simp, agn I hr r c2]
 exact q
theorem ajD {X : Cx} {K : ao0} (hK : X.K = K) (hu : X.A.units + 64 < cLine) : OpR X (compareOp .In) (ajC K) := hK ▸ ak8 hu
theorem anr {K : ao0} {f : Fx} {ρ : zr} {P : PyData -> Prop} {ta tb : TE} (h : PEd K f ta ρ fun d => PEd K f tb ρ fun y => ∃ ds, y = .tuple ds /\ d.canLay0 = true /\ (∀ e ∈ ds, e.canLay0 = true) /\ d.depth <= 50 /\ P (.bool (ds.any fun e => apw e d))) : PEd K f (tOp (ajC K) ta tb) ρ P := fun σ H Q e q =>
 h σ H _ e fun d v H1 g1 r1 p1 => p1 σ H1 _ (e.mono g1) fun y w H2 g2 r2 ⟨ds, ey, c1, c2, dd, p2⟩ => by
  subst ey
  exact ⟨d, ds, Rep.mono ((g2.sm).trans (zl _ _)) _ _ r1, Rep.mono (zl _ _) _ _ r2, c1, c2, dd, q _ _ H2 (g1.trans g2) (rep_bool.mpr rfl) p2⟩
end L2
end
section
namespace L2
open PySem PySem.Spec PyProof.Rows
structure Src (prog : Program) (w : World) (j : Addr) (xs : Array Value) (dep : List Addr) (St : Nat -> Heap -> Prop) : Prop where
 own : j ∈ dep
 keep : ∀ {k : Nat} {h h' : Heap}, St k h -> (∀ c ∈ dep, ∀ o, h.get? c = some o -> h'.get? c = some o) -> St k h'
 there : ∀ {k : Nat} {h : Heap}, St k h -> ∃ o, h.get? j = some o
 item : ∀ {A : Around} {E : Value -> Shared -> Prop} {s : Shared} {k : Nat} {x : Value} {Q : Value -> Shared -> Prop}, St k s.heap -> xs[k]? = some x -> (∀ h', St (k + 1) h' -> aqJ j s.heap h' -> Q x { s with heap := h' }) -> wpAny (model prog w) A (asb (.ref j)) Q E s
 stop : ∀ {A : Around} {E : Value -> Shared -> Prop} {s : Shared} {k : Nat} {Q : Value -> Shared -> Prop}, A.handled = none -> St k s.heap -> xs[k]? = none -> (∀ h' e, Heap.ExtBut j s.heap h' -> (∃ o, h'.get? e = some o /\ o.cls = .type "StopIteration") -> E (.ref e) { s with heap := h' }) -> wpAny (model prog w) A (asb (.ref j)) Q E s
section
variable {prog : Program} {w : World} {A : Around} {E : Value -> Shared -> Prop} {s : Shared}
structure Far (z q1 q2 j1 j2 : Addr) (e1 e2 : List Addr) : Prop where
 q1z : q1 ≠ z
 q2z : q2 ≠ z
 q12 : q1 ≠ q2
 j12 : j1 ≠ j2
 q1j1 : q1 ≠ j1
 q1j2 : q1 ≠ j2
 z1 : z ∉ e1
 z2 : z ∉ e2
 o1 : q2 ∉ e1
 o2 : q2 ∉ e2
 d12 : j2 ∉ e1
 d21 : j1 ∉ e2
end
end L2
end
section
namespace L2
open PySem PySem.Spec PyProof.Rows
end L2
end
section
namespace L2
open PySem PySem.Spec PyProof.Rows
section
variable {K : ao0} {f : Fx} {ρ : zr} {R : List DV -> Prop} {i j m n : Nat} {d0 d1 d2 d3 : PyData}
theorem ab2 (h0 : ρ[i]? = some (some (.dat d0))) (h : R [.dat d0]) : PAd K f (yd (yf i) jS) ρ R := zp (zh h0 (zJ h))
theorem ajE (h0 : ρ[i]? = some (some (.dat d0))) (h1 : ρ[j]? = some (some (.dat d1))) (h : R [.dat d0, .dat d1]) : PAd K f (yd (yf i) (yd (yf j) jS)) ρ R := zp (zh h0 (ab2 h1 h))
theorem vM (h0 : ρ[i]? = some (some (.dat d0))) (h1 : ρ[j]? = some (some (.dat d1))) (h2 : ρ[m]? = some (some (.dat d2))) (h : R [.dat d0, .dat d1, .dat d2]) : PAd K f (yd (yf i) (yd (yf j) (yd (yf m) jS))) ρ R := zp (zh h0 (ajE h1 h2 h))
theorem aoz (h0 : ρ[i]? = some (some (.dat d0))) (h1 : ρ[j]? = some (some (.dat d1))) (h2 : ρ[m]? = some (some (.dat d2))) (h3 : ρ[n]? = some (some (.dat d3))) (h : R [.dat d0, .dat d1, .dat d2, .dat d3]) : PAd K f (yd (yf i) (yd (yf j) (yd (yf m) (yd (yf n) jS)))) ρ R := zp (zh h0 (vM h1 h2 h3 h))
end
theorem qq {α β : Type} {F : α -> β} {l : List β} {m : List α} (h : l.Perm (m.map F)) : ∃ m' : List α, m'.Perm m /\ l = m'.map F := by
 generalize e : m.map F = k at h
 induction h generalizing m with
 | nil => exact ⟨m, .refl _, e.symm⟩
 | cons x _ ih =>
  cases m with
  | nil => cases e
  | cons a m =>
   injection e with e1 e2
   obtain ⟨m', p, r⟩ := ih e2
   exact ⟨a :: m', p.cons a, by rw [apq, e1, r]⟩
 | swap x y l =>
  cases m with
  | nil => cases e
  | cons a m =>
   cases m with
   | nil => injection e with _ e; cases e
   | cons b m =>
    injection e with e1 e2
    injection e2 with e2 e3
    exact ⟨b :: a :: m, .swap a b m, by rw [apq, apq, e1, e2, e3]⟩
 | trans _ _ ih1 ih2 =>
  obtain ⟨m', p, r⟩ := ih2 e
  obtain ⟨m'', p', r'⟩ := ih1 r.symm
  exact ⟨m'', p'.trans p, r'⟩
abbrev FD (K : ao0) (x : Str) (st : Stmt) (f : Addr) (od an : Option Addr) (sl : Array (Option Value)) (oc kV dc pm cd ct : Value) : Prop := apv K mainGlobals x = some (some (.ref f)) /\ K.lookup f = some ⟨oc, od, .func (aqn x x (qi st) (yr st) (zf st) .none kV dc pm an cd ct), sl⟩ /\ ars K cd x = true /\ apW K (.ref f) = true
theorem z8 {K : ao0} {h : Heap} {mg : Str -> Option Value} {x : Str} {st : Stmt} {f : Addr} {od an : Option Addr} {sl : Array (Option Value)} {oc kV dc pm cd ct : Value} (X : K.In h) (G : h.Ns mainGlobals mg) (a : FD K x st f od an sl oc kV dc pm cd ct) {ps : List Str}
  (hb : ∀ (kV doc pm : Value) (an : Option Addr) (cdv ct : Value) (us : List Value), us.length = ps.length -> bindArgs (aqn x x (qi st) (yr st) (zf st) .none kV doc pm an cdv ct) ⟨us, []⟩ = pure (ps.zip us)) : Def K mg x st ps :=
 ⟨f, _, afm a.2.1 a.2.2.1 a.2.2.2, (afm (st := st) a.2.1 a.2.2.1 a.2.2.2).binds hb, apJ X G a.1⟩
section
variable {w : World} {K : ao0} {f : Fx} {Ds : List Addr} {ρ : zr} {cs : List OC} {O : MEnds} {i : Nat}
theorem aoA {v k : Int} (hi : ρ[i]? = some (some (.dat (.int v)))) : PTd K f (adZ (tOp (ahs K false) (yf i) (tC (.int k)))) ρ fun b => b = decide (v = k) :=
 yt (jb (zh hi (yw ⟨rfl, rfl, by show min 0 0 <= 60; decide, _, rfl, rfl⟩)))
end
theorem vN {X : Cx} {x : Str} {C : Addr} {B newId initId : String} {bmB : List Value} {e0 : Expr} {es : List Expr} {t : TA} {np cpos pos : Pos} {E : XK}
  (hxe : ∀ e s', wpAny (model X.prog X.w) X.A (leaving X.env e) (fun _ s'' => CXf X.prog X.w X.outer X.H₀ X.s₀ E e s'') (fun _ _ => False) s' -> X.xe e s')
  (hst : X.stack = X.env :: X.outer) (hf : X.env.frame = some X.env.locals) (hex : X.ex = []) (hc : X.calm = true) (hg : Gl X x) (hm : X.mg x = some (.ref C)) (he : aqN X.K C bmB newId = true) (FB : ExcBaseFacts B newId initId bmB)
  (ha : PA X (e0 :: es) t) (hse : starEach (e0 :: es) X.env = (false, eval e0 X.env) :: starEach es X.env := by rfl) (hpl : (backTo cpos (starEach es X.env)).any (·.1) = false := by rfl) (hd : (x == ("__debug__" : Str)) = false := by decide) :
  PS X (.Raise (some (.Call (.Name x np) (e0 :: es) [] cpos)) none pos) (aiW (.ref C) E t) := by
 intro pins s σ H D I h
 obtain ⟨tl, N, nm, q, bs, hdct, sn, sub, ab, col, dd, k0, k1, k2, k3, k5, mN, hC, hN, hni, T⟩ := (akH I.ok.mod.kin hm he).obj
 have hplain : (backTo cpos (starEach (e0 :: es) X.env)).any (·.1) = false := by
  rw [hse]
  show (false || (backTo cpos (starEach es X.env)).any (·.1)) = false
  rw [hpl]
  rfl
 refine wpAny_Raise_call_subT (C := C) (bm := tl) (N := N) (nm := nm) (q := q) (bs := bs) (hdct := hdct) (sn := sn) (sub := sub) (ab := ab) (col := col) (dd := dd) (k0 := k0) (k1 := k1) (k2 := k2) (k3 := k3) (k5 := k5) (mN := mN) FB (T.hasType FB.hasBase) (I.ok.hd hc) hplain hni (qS I hg hm ⟨rfl, ?_⟩ hd)
 have h0 := ha cpos pins s σ H _ I h
 rw [hse] at h0 ⊢
 refine arL (wpAny_mono h0 (fun us s1 hq => ?_) fun _ _ z => z)
 obtain ⟨vs, H1, I1, r1, hl, hE⟩ := hq
 refine ⟨rfl, by rw [<- r1.length]; exact ap1 (z4 hl), I1.bk _ _ hC, hN.keeps I1.bk, T.keeps I1.bk, fun h' e hx => hxe _ _ ?_⟩
 obtain ⟨t0, hu, _, _⟩ := hx.there
 refine aeC (aeB _ _) (leave_new (E := fun _ _ => False) I1 hst hf hex hx) fun _ s'' y k => ⟨e, _, none, H1, rfl, y, Dct.kd (h := h') ⟨_, hu, rfl, fun dx z => nomatch z⟩ k, hE⟩
def adn : Nat := 2 ^ 9000
theorem ag0 {n m : Nat} (h : n < 2 ^ m) (hm : m <= 9000) : n < adn := apr h (asP (by decide) hm)
theorem acB {k : Int} (h : k.natAbs < adn) : ard k <= 9000 := by
 unfold ard
 split
 ·exact apD _
 ·have : k.natAbs.log2 < 9000 := by
   rcases Nat.eq_zero_or_pos k.natAbs with h0 | hp
   ·rw [h0]; decide
   ·exact (as7 (arp hp)).mpr h
  omega
def CMulH (i j : Int) : Prop := i.natAbs < adn /\ j.natAbs < adn
theorem CMulH.ok {i j : Int} (h : CMulH i j) : IntMulOk i j := by
 have e1 := acB h.1
 have e2 := acB h.2
 have : asH ((ard i : Int) + (ard j : Int)) = false := by
  unfold asH
  refine decide_eq_false ?_
  have : (100000 : Int) <= (bitsLine : Int) := by decide +kernel
  omega
 unfold IntMulOk
 rw [this, arv]
 exact aoY
theorem qr {X : Cx} : OpR X (binaryOp .Mult) (rI CMulH fun i j => .int (i * j)) := opI fun _ _ _ _ _ _ _ hc q => mul_int q hc.ok
def aoB (_ j : Int) : Prop := j ≠ 0 /\ j.natAbs < adn
theorem aeF {X : Cx} : OpR X (binaryOp .FloorDiv) (rI aoB fun i j => .int (i.fdiv j)) := opI fun i j _ _ _ _ _ hc q => by
 obtain ⟨h1, h2⟩ := hc
 refine floordiv_int h1 q (.inl (asn ?_))
 exact (as7 (by omega)).mpr h2
def ans (q : Rat) : PyData := .tuple [.int q.num, .int (q.den : Nat)]
theorem abF {g t : Int} (h : g ≠ 0) : (g * t).fdiv g = t := by
 rw [Int.mul_fdiv_cancel_left _ h]
theorem ahW {t b : Int} (hb : b ≠ 0) : (t.fdiv (b.sign * (ap9 t b : Int)) = (ar5 t b).num) /\ (b.fdiv (b.sign * (ap9 t b : Int)) = ((ar5 t b).den : Int)) := by
 have gp : 0 < ap9 t b := arU t hb
 have g0 : ((ap9 t b : Nat) : Int) ≠ 0 := by omega
 obtain ⟨u, hu⟩ := Int.gcd_dvd_left t b
 obtain ⟨v, hv⟩ := Int.gcd_dvd_right t b
 have ss : b.sign * b.sign = 1 := by
  rcases arA b 0 with h | h | h
  ·rw [aqg h]; rfl
  ·exact absurd h hb
  ·rw [aqw h]; rfl
 have s0 : b.sign * ((ap9 t b : Nat) : Int) ≠ 0 := Int.mul_ne_zero (fun z => by rw [z] at ss; cases ss) g0
 refine ⟨?_, ?_⟩
 ·rw [Rat.num_divInt, Int.gcd_comm b t]
  have e1 : t = b.sign * ((ap9 t b : Nat) : Int) * (b.sign * u) := by
   rw [show b.sign * ((ap9 t b : Nat) : Int) * (b.sign * u) = (b.sign * b.sign) * (((ap9 t b : Nat) : Int) * u) by grind, ss, as9, <- hu]
  have e2 : b.sign * t = ((ap9 t b : Nat) : Int) * (b.sign * u) := by rw [show ((ap9 t b : Nat) : Int) * (b.sign * u) = b.sign * (((ap9 t b : Nat) : Int) * u) by grind, <- hu]
  rw [e2, asr _ g0]
  generalize hG : b.sign * ((ap9 t b : Nat) : Int) = G at *
  rw [e1]
  exact abF s0
 ·rw [Rat.den_divInt, if_neg hb, Int.gcd_comm b t]
  have e1 : b = b.sign * ((ap9 t b : Nat) : Int) * (b.sign * v) := by
   rw [show b.sign * ((ap9 t b : Nat) : Int) * (b.sign * v) = (b.sign * b.sign) * (((ap9 t b : Nat) : Int) * v) by grind, ss, as9, <- hv]
  have e3 : (b.natAbs : Int) = ((ap9 t b : Nat) : Int) * (b.sign * v) := by
   rw [show ((ap9 t b : Nat) : Int) * (b.sign * v) = b.sign * (((ap9 t b : Nat) : Int) * v) by grind, <- hv]
   rcases arA b 0 with h | h | h
   ·rw [aqg h]; omega
   ·exact absurd h hb
   ·rw [aqw h]; omega
  rw [Int.natCast_ediv, e3, asr _ g0]
  have key : ∀ G X : Int, G ≠ 0 -> b = G * X -> b.fdiv G = X := fun G X h e => by rw [e]; exact abF h
  exact key _ _ s0 e1
theorem afE (t b : Int) : (ar5 t b).num.natAbs <= t.natAbs := by
 rw [Rat.num_divInt]
 refine apu (Int.natAbs_ediv_le_natAbs _ _) ?_
 rw [Int.natAbs_mul]
 refine apu (Nat.mul_le_mul_right _ (show b.sign.natAbs <= 1 from ?_)) (by rw [Nat.one_mul]; exact ao5 _)
 rcases arA b 0 with h | h | h
 ·rw [aqg h]; decide
 ·rw [h]; decide
 ·rw [aqw h]; decide
theorem afF {t b : Int} (h : b ≠ 0) : (ar5 t b).den <= b.natAbs := by
 rw [Rat.den_divInt, if_neg h]
 exact Nat.div_le_self _ _
end L2
end
section
open PySem PySem.Spec PyProof.Rows
namespace L2
def aoC (tb : XK -> TS) (tr : TS) : XK -> TS := fun E D σ H => tb E { D with nx := fun σ' H' => tr D σ' H' } σ H
section
variable {X : Cx}
theorem ant {c : Expr} {a b rest : List Stmt} {tc : TT} {ta tb : XK -> TS} {tr : TS} {pos : Pos} (hc : PT X.nox c tc) (ha : PBy X a ta) (hb : PBy X b tb) (hR : PSs X.nox rest tr) : PBy X (.If c a b pos :: rest) (aoC (bIf tc ta tb) tr) := by
 intro pins s σ H D E I h
 refine wpAny_execs_cons (wpAny_If (wpAny_mono (hc pins s σ H _ (I.wish _) h) (fun d s1 z => ?_) fun _ _ z => z.elim))
 obtain ⟨H1, I1, q1⟩ := z
 have done : ∀ (fl : Flow) (s' : Shared), SP X pins { D with nx := fun σ' H' => tr D σ' H' } fl s' -> match fl with | .next => wpAny (model X.prog X.w) X.A (execs rest X.env) (SP X pins D) (fun e s' => ∃ H1 s1, Inv X pins σ H1 s1 /\ CXf X.prog X.w X.stack H1 s1 E e s') s' | fl => SP X pins D fl s' := fun fl s' z => by
  cases fl with
  | next =>
   obtain ⟨σ2, H2, I2, q2⟩ := z
   refine wpAny_mono (hR pins s' _ H2 D (I2.wish _) q2) (fun fl s4 z => ?_) fun _ _ z => z.elim
   cases fl with
   | next => obtain ⟨σ', H', J, q⟩ := z; exact ⟨σ', H', J.unwish, q⟩
   | brk => obtain ⟨σ', H', J, q⟩ := z; exact ⟨σ', H', J.unwish, q⟩
   | cont => obtain ⟨σ', H', J, q⟩ := z; exact ⟨σ', H', J.unwish, q⟩
   | ret u => obtain ⟨v', σ', H', J, q⟩ := z; exact ⟨v', σ', H', J.unwish, q⟩
  | brk => exact z
  | cont => exact z
  | ret u => exact z
 cases d with
 | true => exact wpAny_mono (ha pins s1 σ H1 _ E I1.unwish q1) (fun fl s' z => done fl s' z) fun _ _ z => z
 | false => exact wpAny_mono (hb pins s1 σ H1 _ E I1.unwish q1) (fun fl s' z => done fl s' z) fun _ _ z => z
end
section
variable {K : ao0} {f : Fx} {ρ : zr} {D : DEnds} {Z : Value -> XD -> Prop}
theorem acC {tb : XK -> TS} {tr : TS} (h : PYd K f tb ρ { D with nx := fun ρ' => PSd K f tr ρ' D } Z) : PYd K f (aoC tb tr) ρ D Z := fun E σ H N e n r b c z =>
 h E σ H _ e (fun ρ' σ' H' g' e' p => p σ' H' N e' (fun ρ2 σ2 H2 g2 => n ρ2 σ2 H2 (g'.trans g2)) (fun d v H2 g2 => r d v H2 (g'.trans g2)) (fun ρ2 σ2 H2 g2 => b ρ2 σ2 H2 (g'.trans g2)) (fun ρ2 σ2 H2 g2 => c ρ2 σ2 H2 (g'.trans g2))) r b c z
end
end L2
end
section
namespace My
open PySem PySem.Spec PyProof.Rows L2
abbrev pf : List Str := ["rows", "cut", "gate"]
abbrev ph : List Str := ["rows", "x", "y"]
abbrev pj : List Str := ["rows"]
abbrev pq : List Str := ["rows", "cut", "cell"]
abbrev pz : List Str := ["rows", "cut"]
abbrev pA : List Str := ["rows", "cut", "x", "y"]
abbrev pB : List Str := ["rows", "cut", "point"]
abbrev pC : List Str := ["rows", "cut", "start"]
abbrev pE : List Str := ["_law_feed_here", "_law_rows"]
abbrev pF : List Str := ["_law_feed_here", "_law_many"]
abbrev pG : List Str := ["a", "b", "rows"]
abbrev pH : List Str := ["gate", "rows", "cut"]
abbrev pI : List Str := ["things"]
abbrev pJ : List Str := ["x", "y"]
abbrev pK : List Str := ["rows", "gate"]
abbrev pL : List Str := ["one", "other"]
abbrev pM : List Str := ["_law_feed_here", "_law_far", "_law_base"]
abbrev pN : List Str := ["x", "y", "rows"]
abbrev pO : List Str := ["top", "bottom"]
abbrev pP : List Str := ["_law_script", "_law_k"]
abbrev pQ : List Str := ["_law_feed_here"]
abbrev pR : List Str := ["_law_caught"]
abbrev pS : List Str := ["_law_rows", "_law_cut_here", "_law_way", "_law_some"]
abbrev pV : List Str := ["_law_script"]
abbrev pW : List Str := ["x", "y", "way"]
abbrev pX : List Str := ["a", "b", "rows", "cut", "x", "y", "high"]
abbrev pY : List Str := ["rows", "cut", "gate", "first", "second"]
abbrev pZ : List Str := ["rows", "cut", "gate", "across", "down"]
abbrev qa : List Str := ["_law_y", "_law_feed_here", "_law_wide", "_law_far", "_law_base"]
abbrev qb : List Str := ["_law_x", "_law_feed_here", "_law_far", "_law_base"]
local macro_rules | `(tactic| walk_at "w") => `(tactic| repeat walk_at "dl")
local macro_rules | `(tactic| walk_at "s") => `(tactic| exact ⟨rfl, rfl, rfl, by decide +kernel, rfl, by decide +kernel, by decide +kernel⟩)
def top (i : Nat) : Stmt := PySem.Challenge.pw_heightrings_k46_refusals_apart.main.body.getD i (.Pass ⟨0, 0, 0, 0⟩)
abbrev ado := top 1
abbrev anu : List Str := pj
theorem ak9 : FnScope anu pj (zf ado) := by walk_at "s"
abbrev v8 := top 2
abbrev ajF : List Str := ["rows", "wide", "tall"]
theorem sc_points : FnScope ajF pj (zf v8) := by walk_at "s"
abbrev jI := top 3
abbrev aeG : List Str := ["rows", "x", "y", "wide", "tall"]
theorem sc_has_point : FnScope aeG ph (zf jI) := by walk_at "s"
abbrev jg := top 4
abbrev adp : List Str := ["rows", "x", "y", "beside"]
theorem sc_neighbours : FnScope adp ph (zf jg) := by walk_at "s"
abbrev qt := top 5
abbrev afG : List Str := ph
theorem aeH : FnScope afG ph (zf qt) := by walk_at "s"
abbrev qY := top 6
abbrev ahX : List Str := pJ
theorem afH : FnScope ahX pJ (zf qY) := by walk_at "s"
abbrev qu := top 7
abbrev afI : List Str := ["rows", "x", "y", "around"]
theorem sc_cells_at : FnScope afI ph (zf qu) := by walk_at "s"
abbrev jJ := top 25
abbrev aeI : List Str := ["rows", "at", "row"]
theorem sc_ask_table : FnScope aeI pj (zf jJ) := by walk_at "s"
abbrev adq := top 26
abbrev anv : List Str := pI
theorem ala : FnScope anv pI (zf adq) := by walk_at "s"
abbrev v9 := top 27
abbrev ajG : List Str := ["row"]
theorem ahY : FnScope ajG ["row"] (zf v9) := by walk_at "s"
abbrev qZ := top 31
abbrev ahZ : List Str := pA
theorem afJ : FnScope ahZ pA (zf qZ) := by walk_at "s"
abbrev aa2 := top 32
abbrev alb : List Str := ["rows", "cut", "sides"]
theorem sc_gates : FnScope alb pz (zf aa2) := by walk_at "s"
abbrev ads := top 33
abbrev anw : List Str := pA
theorem alc : FnScope anw pA (zf ads) := by walk_at "s"
abbrev adt := top 34
abbrev anx : List Str := pf
theorem ald : FnScope anx pf (zf adt) := by walk_at "s"
abbrev jK := top 35
abbrev aeJ : List Str := ph
theorem adu : FnScope aeJ ph (zf jK) := by walk_at "s"
abbrev qv := top 36
abbrev afK : List Str := pf
theorem aeK : FnScope afK pf (zf qv) := by walk_at "s"
abbrev yV := top 37
abbrev ab3 : List Str := ["rows", "cut", "point", "x", "y"]
theorem sc_stands_high : FnScope ab3 pB (zf yV) := by walk_at "s"
abbrev yW := top 38
abbrev ab4 : List Str := ["gate", "x", "y", "way"]
theorem sc_gate_points : FnScope ab4 ["gate"] (zf yW) := by walk_at "s"
abbrev qw := top 39
abbrev afL : List Str := pK
theorem aeL : FnScope afL pK (zf qw) := by walk_at "s"
abbrev va := top 40
abbrev ah0 : List Str := pY
theorem sc_is_open : FnScope ah0 pf (zf va) := by walk_at "s"
abbrev jh := top 41
abbrev adv : List Str := ["cell", "x", "y"]
theorem sc_cell_gates : FnScope adv ["cell"] (zf jh) := by walk_at "s"
abbrev ji := top 42
abbrev adw : List Str := pq
theorem ab5 : FnScope adw pq (zf ji) := by walk_at "s"
abbrev yA := top 43
abbrev aaa : List Str := ["rows", "cut", "cell", "x", "y"]
theorem sc_has_high_middle : FnScope aaa pq (zf yA) := by walk_at "s"
abbrev jL := top 44
abbrev aeM : List Str := ["rows", "cut", "cell", "through"]
theorem sc_cell_ties : FnScope aeM pq (zf jL) := by walk_at "s"
abbrev yO := top 45
abbrev abG : List Str := ["rows", "cut", "cell", "above", "left", "below", "right"]
theorem sc_crossed_ties : FnScope abG pq (zf yO) := by walk_at "s"
abbrev vb := top 46
abbrev ah1 : List Str := ["rows", "cut", "gate", "x", "y", "way", "near_is_high"]
theorem sc_heading : FnScope ah1 pf (zf vb) := by walk_at "s"
abbrev jj := top 47
abbrev adx : List Str := pZ
theorem sc_cell_ahead : FnScope adx pf (zf jj) := by walk_at "s"
abbrev qx := top 48
abbrev afM : List Str := pZ
theorem sc_comes_in : FnScope afM pf (zf qx) := by walk_at "s"
abbrev jk := top 49
abbrev ady : List Str := ["rows", "cut", "gate", "x", "y", "partners", "one", "other"]
theorem sc_gate_ahead : FnScope ady pf (zf jk) := by walk_at "s"
abbrev aa3 := top 51
abbrev ale : List Str := ["rows", "cut", "through", "starts", "told", "passed", "start", "line", "gate"]
theorem sc_lines : FnScope ale pz (zf aa3) := by walk_at "s"
abbrev jM := top 52
abbrev aeN : List Str := ["rows", "cut", "start", "path", "gate"]
theorem sc_line_from : FnScope aeN pC (zf jM) := by walk_at "s"
abbrev vc := top 53
abbrev ah2 : List Str := pf
theorem afN : FnScope ah2 pf (zf vc) := by walk_at "s"
abbrev aab := top 55
abbrev ajH : List Str := pL
theorem sc_common : FnScope ajH pL (zf aab) := by walk_at "s"
abbrev jN := top 56
abbrev aeO : List Str := ["top", "bottom", "by"]
theorem sc_shortened : FnScope aeO pO (zf jN) := by walk_at "s"
abbrev aa4 := top 58
abbrev alf : List Str := pf
theorem ajI : FnScope alf pf (zf aa4) := by walk_at "s"
abbrev qy := top 59
abbrev afO : List Str := ["rows", "cut", "gate", "x", "y", "way", "part", "whole"]
theorem sc_place_of : FnScope afO pf (zf qy) := by walk_at "s"
abbrev aa5 := top 60
abbrev alg : List Str := pY
theorem sc_share : FnScope alg pf (zf aa5) := by walk_at "s"
abbrev vd := top 62
abbrev ah3 : List Str := ["rows", "cut", "told", "placed", "point", "within", "other"]
theorem sc_regions : FnScope ah3 pz (zf vd) := by walk_at "s"
abbrev jO := top 63
abbrev aeP : List Str := pA
theorem adz : FnScope aeP pA (zf jO) := by walk_at "s"
abbrev ve := top 64
abbrev ah4 : List Str := ["rows", "cut", "places", "at", "word", "within", "point"]
theorem sc_indexes : FnScope ah4 pz (zf ve) := by walk_at "s"
abbrev jl := top 65
abbrev adA : List Str := ["rows", "cut", "start", "found", "waiting", "point", "other"]
theorem sc_all_joined : FnScope adA pC (zf jl) := by walk_at "s"
abbrev aac := top 66
abbrev ajJ : List Str := ["rows", "cut", "point", "x", "y", "high", "beside", "aslant"]
theorem sc_joined : FnScope ajJ pB (zf aac) := by walk_at "s"
abbrev qz := top 68
abbrev vO : List Str := ["_law_script", "_law_k", "_law_cell"]
theorem sc_law_feed : FnScope vO pP (zf qz) := by walk_at "s"
abbrev qA := top 69
abbrev afP : List Str := ["_law_feed_here", "_law_many", "_law_found"]
theorem sc_law_draw : FnScope afP pF (zf qA) := by walk_at "s"
abbrev jm := top 70
abbrev adB : List Str := pM
theorem ab6 : FnScope adB pM (zf jm) := by walk_at "s"
abbrev jP := top 71
abbrev aeQ : List Str := ["_law_feed_here", "_law_wide", "_law_high", "_law_far", "_law_base"]
theorem sc_law_table : FnScope aeQ pQ (zf jP) := by walk_at "s"
abbrev vf := top 72
abbrev ah5 : List Str := ["_law_feed_here", "_law_rows", "_law_row"]
theorem sc_law_cut : FnScope ah5 pE (zf vf) := by walk_at "s"
abbrev jQ := top 73
abbrev aeR : List Str := ["_law_caught", "_law_some"]
theorem sc_law_kinds : FnScope aeR pR (zf jQ) := by walk_at "s"
abbrev qB := top 74
abbrev afQ : List Str := ["_law_rows", "_law_cut_here", "_law_way", "_law_some", "_law_found", "_law_caught"]
theorem sc_law_told : FnScope afQ pS (zf qB) := by walk_at "s"
abbrev qC := top 75
abbrev afR : List Str := ["_law_feed_here", "_law_rows", "_law_far", "_law_wide", "_law_high", "_law_some"]
theorem sc_law_gone : FnScope afR pE (zf qC) := by walk_at "s"
abbrev aaN := top 76
abbrev ag1 : List Str := ["_law_script", "_law_k", "_law_feed_here", "_law_rows", "_law_cut_here", "_law_there", "_law_kept", "_law_way", "_law_due", "_law_gate", "_law_found"]
theorem sc_law : FnScope ag1 pV (zf aaN) := by walk_at "s"
def tab (rows : List (List Int)) : PyData := .list (rows.map fun r => .list (r.map .int))
structure Good (w : Nat) (rows : List (List Int)) : Prop where
 h1 : 2 <= rows.length
 h2 : rows.length <= 7
 w1 : 2 <= w
 w2 : w <= 7
 row : ∀ r ∈ rows, r.length = w
 hgt : ∀ r ∈ rows, ∀ n ∈ r, -1000000000 <= n /\ n <= 1000000000
theorem Good.ne {w : Nat} {rows : List (List Int)} (g : Good w rows) : ∃ r rs, rows = r :: rs := by
 cases rows with
 | nil => have := g.h1; simp at this
 | cons r rs => exact ⟨r, rs, rfl⟩
theorem yX {α β : Type} {F : α -> β} {xs : List α} {k : Int} {j : Nat} (hk : (j : Int) = k) (h : j < xs.length) : atI (xs.map F) k = some (F xs[j]) := by
 subst hk
 exact yT (by rw [ao8, aoX h]; rfl)
local macro_rules | `(tactic| walk_at "dl") => `(tactic| first
 | (with_reducible show PSd _ _ (jV _ (adW (yf _) (tC (V.int 0)) abi)) _ _; refine agk rfl ?_)
 | (with_reducible show PSd _ _ (jV _ (adW (yf _) (tC (V.int 1)) abi)) _ _; refine agl rfl ?_)
 | with_reducible refine zW ?_ | with_reducible refine abZ ?_ | with_reducible refine ya ?_ | with_reducible refine zE ?_ | with_reducible refine jw ?_ | with_reducible refine yD ?_
 | with_reducible refine zi ?_ | with_reducible refine yH rfl ?_ | with_reducible refine zt ?_ | with_reducible refine z9 ?_
 | with_reducible refine yt ?_ | with_reducible refine t_b ?_ | with_reducible refine aci ?_ | with_reducible refine aiH ?_ | with_reducible refine abm ?_ | with_reducible refine yN ?_
 | with_reducible refine agj ?_ | with_reducible refine agi ?_ | with_reducible refine abl ?_ | with_reducible refine ju ?_ | with_reducible refine jb ?_
 | with_reducible refine aiI ?_ | with_reducible refine afo ?_ | with_reducible refine d_orV ?_ | with_reducible refine aiJ ?_
 | with_reducible refine yw ?_ | with_reducible refine aiG ?_ | with_reducible refine jX ?_ | with_reducible refine al6 ?_
 | (with_reducible show PEd _ _ (yf _) _ _; refine zh rfl ?_)
 | (with_reducible show PEd _ _ (tOp (ad1 _) (yf _) _) _ _; refine al7 rfl ?_)
 | with_reducible refine vt ?_ | with_reducible refine vu ?_
 | (with_reducible show PAd _ _ (yd (yf _) _) _ _; refine acV rfl ?_)
 | with_reducible refine zp ?_ | with_reducible refine zJ ?_
 | with_reducible refine jY ?_ | with_reducible refine jv ?_ | with_reducible refine ad9 ?_ | with_reducible refine aiK ?_ | with_reducible refine aiL ?_ | with_reducible refine aiM ?_ | with_reducible refine aiN ?_
 | (with_reducible show (∃ _, _) \/ (∃ _, _); refine Or.inl ⟨_, rfl, ?_⟩) | refine ⟨_, rfl, ?_⟩ | refine ⟨_, _, rfl, ?_⟩
 | (with_reducible show (_ = _ /\ ∀ _, _) \/ _; first | refine Or.inl ⟨rfl, fun a ha => ?_⟩ | refine Or.inr ⟨rfl, fun b hb hb' => ?_⟩)
 | refine ⟨rfl, ?_⟩
 | (refine And.intro ?side ?_; (case side => first | omega | exact Int.ediv_nonneg (by omega) (by omega) | exact arS _ (by omega) | exact aqA _ (by omega) | decide | exact ⟨by decide, by decide, by decide⟩ | exact ⟨by omega, by omega⟩ | exact Or.inl ⟨by omega, by omega⟩ | exact Or.inr ⟨by omega, by omega⟩ | (refine apu (aqW (by rfl)) (show _ <= 1000 by decide)) | ((repeat' apply And.intro) <;> first | rfl | omega | decide | assumption) | (simp [as4]))))
section
variable {P : Program} {w : World} {K : ao0} {mg : Str -> Option Value} {base : Heap} {k : Nat}
theorem alh (F : Def K mg "size" ado pj) (uac : mg "len" = none) : FnIn P w K mg base (k + 1) "size" pj (spD K 1 (fun (c : List (List Int) × Nat) xs => xs = [.dat (tab c.1)] /\ Good c.2 c.1) fun c r => r = .tuple [.int c.2, .int c.1.length]) := by
 refine F.ok ak9 rfl fun fa cdv A outer s H E hr => ⟨_, (zg (zu (zz (za (zx (yc (K := K) rfl) rfl uac apY (za (zS (zD (K := K) rfl) (pv 0) ze (fun _ _ => rfl)) zb)) (za (zx (yc (K := K) rfl) rfl uac apY (za (pv 0) zb)) zb))))), ?_⟩
 rintro f xs ⟨rows, wd⟩ hl ⟨rfl, g⟩
 try dsimp only [zI, zj]
 obtain ⟨r, rs, rfl⟩ := g.ne
 walk_at "w"
 refine ⟨_, yX (j := 0) rfl (by simp), ?_⟩
 walk_at "w"
 have hw := g.row r ao4
 show PyData.tuple [.int _, .int _] = _
 rw [aoZ, aoZ]
 show PyData.tuple [.int (r.length : Nat), _] = _
 rw [hw]
theorem ali (F : Def K mg "fits" adq pI) (uac : mg "len" = none) (uaG : ∃ t, mg "FEWEST" = some (.int 2 t)) (uaH : ∃ t, mg "MOST" = some (.int 7 t)) :
  FnIn P w K mg base (k + 1) "fits" pI (spD K 1 (fun (c : List PyData) xs => xs = [.dat (.list c)]) fun c r => r = .bool (decide (2 <= c.length /\ c.length <= 7))) := by
 obtain ⟨_, uaG⟩ := uaG
 obtain ⟨_, uaH⟩ := uaH
 refine F.ok ala rfl fun fa cdv A outer s H E hr => ⟨_, (zg (zu (abd ab9 ab9 (vU rfl uaG) (zx (yc (K := K) rfl) rfl uac apY (za (pv 0) zb)) (vU rfl uaH)))), ?_⟩
 rintro f xs ds hl rfl
 try dsimp only [zI, zj]
 walk_at "w"
 by_cases h : 2 <= ds.length
 ·rw [if_pos (by simp; omega)]
  walk_at "w"
  show PyData.bool _ = _
  congr 1
  by_cases h7 : ds.length <= 7 <;> simp [h, h7] <;> omega
 ·rw [if_neg (by simp; omega)]
  show PyData.bool _ = _
  congr 1
  simp [h]
theorem ah6 (F : Def K mg "is_row" v9 ["row"]) (uai : mg "min" = none) (uaz : mg "max" = none) (uaI : ∃ t, mg "LEAST" = some (.int (-1000000000) t)) (uaJ : ∃ t, mg "GREATEST" = some (.int 1000000000 t))
  (uaW : FnIn P w K mg base k "fits" pI (spD K 1 (fun (c : List PyData) xs => xs = [.dat (.list c)]) fun c r => r = .bool (decide (2 <= c.length /\ c.length <= 7)))) :
  FnIn P w K mg base (k + 1) "is_row" ["row"] (spD K 1 (fun (c : List Int) xs => xs = [.dat (.list (c.map .int))]) fun c r => r = .bool (decide (2 <= c.length /\ c.length <= 7 /\ ∀ n ∈ c, -1000000000 <= n /\ n <= 1000000000))) := by
 obtain ⟨_, uaI⟩ := uaI
 obtain ⟨_, uaJ⟩ := uaJ
 refine F.ok ahY rfl fun fa cdv A outer s H E hr => ⟨_, (zg (zu (acO (zd uaW hr rfl (za (pv 0) zb)) (acO (qh ab9 (vU rfl uaI) (zx (ahy (K := K) rfl rfl) rfl uai boot_min (za (pv 0) zb)) (zR _)) (afe (qh ab9 (zx (ahz (K := K) rfl rfl) rfl uaz boot_max (za (pv 0) zb)) (vU rfl uaJ) (zR _))))))), ?_⟩
 rintro f xs c hl rfl
 try dsimp only [zI, zj]
 walk_at "w"
 refine zm (c.map .int) ?_
 walk_at "w"
 rintro r rfl
 rw [aoZ]
 walk_at "w"
 by_cases h : 2 <= c.length /\ c.length <= 7
 ·have hne : c ≠ [] := by rintro rfl; simp at h
  rw [if_pos (by simpa using h)]
  walk_at "w"
  intro M hM hM'
  walk_at "w"
  by_cases h2 : -1000000000 <= M
  ·rw [if_pos (by simpa using h2)]
   walk_at "w"
   intro M' hN hN'
   walk_at "w"
   show PyData.bool _ = _
   congr 1
   rw [decide_eq_decide]
   refine ⟨fun q => ⟨h.1, h.2, fun n hn => ⟨Int.le_trans h2 (hM' n hn), Int.le_trans (hN' n hn) q⟩⟩, fun q => (q.2.2 M' hN).2⟩
  ·rw [if_neg (by simpa using h2)]
   show PyData.bool _ = _
   congr 1
   symm
   rw [decide_eq_false_iff_not]
   exact fun q => h2 (q.2.2 M hM).1
 ·rw [if_neg (by simpa using h)]
  show PyData.bool _ = _
  congr 1
  symm
  rw [decide_eq_false_iff_not]
  exact fun q => h ⟨q.1, q.2.1⟩
abbrev vz (K : ao0) : Sp := spD K 1 (fun (c : List (List Int) × Nat) xs => xs = [.dat (tab c.1)] /\ Good c.2 c.1) fun _ r => r = .bool true
theorem anz (F : Def K mg "ask_table" jJ pj) (uac : mg "len" = none) (uaA : mg "enumerate" = none)
  (uaW : FnIn P w K mg base k "fits" pI (spD K 1 (fun (c : List PyData) xs => xs = [.dat (.list c)]) fun c r => r = .bool (decide (2 <= c.length /\ c.length <= 7))))
  (ubT : FnIn P w K mg base k "is_row" ["row"] (spD K 1 (fun (c : List Int) xs => xs = [.dat (.list (c.map .int))]) fun c r => r = .bool (decide (2 <= c.length /\ c.length <= 7 /\ ∀ n ∈ c, -1000000000 <= n /\ n <= 1000000000)))) :
  FnIn P w K mg base (k + 1) "ask_table" pj (vz K) := by
 refine F.ok sc_ask_table rfl fun fa cdv A outer s H E hr => ⟨_, (zc (yz (vB (z7 (K := K) rfl (zd uaW hr rfl (za (pv 0) zb)) (fun _ => rfl))) (zg adV) zO) (zc (jr apR rfl (aec (K := K) rfl rfl uaA (za (pv 0) zb)) (zT (K := K) (n := 2) rfl rfl (zo (zk (i := 1) sc_ask_table.nd rfl (Or.inl rfl) (Or.inr rfl)) (zo (zk (i := 2) sc_ask_table.nd rfl (Or.inl rfl) (Or.inr rfl)) zN))) (zg (yz (PW.pt (af5 (zL (jU (K := K) rfl hr.units) (zx (yc (K := K) rfl) rfl uac apY (za (pv 2) zb)) (zx (yc (K := K) rfl) rfl uac apY (za (zS (zD (K := K) rfl) (pv 0) ze (fun _ _ => rfl)) zb)) (zR _)) (afd (vB (z7 (K := K) rfl (zd ubT hr rfl (za (pv 2) zb)) (fun _ => rfl)))))) (zg adV) zO))) (zg (zu vm)))), ?_⟩
 rintro f xs ⟨rows, wd⟩ hl ⟨rfl, g⟩
 try dsimp only [zI, zj]
 have g1 := g.h1
 have g2 := g.h2
 walk_at "w"
 refine zm (rows.map fun r => .list (r.map .int)) ?_
 walk_at "w"
 rintro r rfl
 dsimp only at g1 g2
 refine ⟨_, rfl, ?_⟩
 rw [aoZ, decide_eq_true ⟨g1, g2⟩, apE, if_neg aoY]
 walk_at "w"
 refine afp ?_
 walk_at "w"
 refine ⟨fun i ρ => ∃ a b, ρ = [some (.dat (tab rows)), a, b], ⟨_, _, rfl⟩, ?_, ?_⟩
 ·rintro i d ρ hd ⟨a, b, rfl⟩
  rw [ao8] at hd
  cases hr : rows[i]? with
  | none => rw [hr] at hd; cases hd
  | some r =>
   rw [hr] at hd
   cases hd
   have hm := apc hr
   have hw := g.row r hm
   obtain ⟨r0, rs, hrs⟩ := g.ne
   dsimp only at hrs
   subst hrs
   have hw0 := g.row r0 ao4
   walk_at "w"
   refine ⟨_, yX (j := 0) rfl (by simp), ?_⟩
   walk_at "w"
   dsimp only at hw hw0
   rw [if_pos rfl, aoZ, aoZ]
   show (if (!(((r.length : Nat) : Int) == ((r0.length : Nat) : Int))) = true then _ else _)
   rw [hw, hw0, beq_self_eq_true, apE, if_neg aoY]
   walk_at "w"
   refine zm r ?_
   walk_at "w"
   rintro _ rfl
   refine ⟨_, rfl, ?_⟩
   have w1 := g.w1
   have w2 := g.w2
   dsimp only at w1 w2
   rw [decide_eq_true ⟨by omega, by omega, g.hgt r hm⟩, apE, if_neg aoY]
   walk_at "w"
   exact ⟨_, _, rfl⟩
 ·rintro ρ ⟨a, b, rfl⟩
  walk_at "w"
  rfl
theorem alj (F : Def K mg "_law_draw" qA pF) : FnIn P w K mg base (k + 1) "_law_draw" pF (spD K 2 (fun (c : Int) xs => xs = [.feed, .dat (.int c)] /\ 0 < c /\ c < 1152921504606846976) fun c r => ∃ i : Int, r = .int i /\ 0 <= i /\ i < c) := by
 refine F.ok sc_law_draw rfl fun fa cdv A outer s H E hr => ⟨_, (zc (yz (zL al3 (zS (zD (K := K) rfl) (pv 0) ze (fun _ _ => rfl)) (zq aak ze ze) (zR _)) (zc (zC (i := 2) sc_law_draw.nd rfl (Or.inl rfl) (zq vD (zS (zD (K := K) rfl) (pv 0) ze (fun _ _ => rfl)) (pv 1))) (zc (yg (zq aed (zS (zD (K := K) rfl) (pv 0) ze (fun _ _ => rfl)) (pv 1)) (aaj (pv 0) ze set_list)) (zg (zu (pv 2))))) zO) (zc (yg (zq vD (zq zQ (zq zQ (zq vC (zS (zD (K := K) rfl) (pv 0) ze (fun _ _ => rfl)) ze) (zq vD (zS (zD (K := K) rfl) (pv 0) ze (fun _ _ => rfl)) ze)) ze) ze) (aaj (pv 0) ze set_list)) (zg (zu (zq vD (zq aed (zq vD (zq vC (zS (zD (K := K) rfl) (pv 0) ze (fun _ _ => rfl)) ze) ze) ze) (pv 1)))))), ?_⟩
 rintro f xs c hl ⟨rfl, c0, c1⟩
 try dsimp only [zI, zj]
 walk_at "w"
 split
 ·walk_at "w"
  exact aqA _ c0
 ·walk_at "w"
  exact aqA _ c0
abbrev abH (K : ao0) : Sp := spD K 2 (fun (c : Int) xs => xs = [.feed, .dat (.int c)] /\ 0 < c /\ c < 1152921504606846976) fun c r => ∃ i : Int, r = .int i /\ 0 <= i /\ i < c
abbrev aeS (K : ao0) : Sp := spD K 3 (fun (c : Int × Int) xs => xs = [.feed, .dat (.int c.1), .dat (.int c.2)] /\ 0 <= c.1 /\ c.1 <= 10 /\ -1000000000 <= c.2 /\ c.2 <= 999999991) fun c r => ∃ i : Int, r = .int i /\ -1000000000 <= i /\ i <= 1000000000
theorem ah7 (F : Def K mg "_law_height" jm pM) (uai : mg "min" = none) (uad : FnIn P w K mg base k "_law_draw" pF (abH K)) :
  FnIn P w K mg base (k + 1) "_law_height" pM (aeS K) := by
 refine F.ok ab6 rfl fun fa cdv A outer s H E hr => ⟨_, (zc (yz (zL adY (pv 1) ze (zR _)) (zg (zu (zq zQ (pv 2) (zd uad hr rfl (za (pv 0) (za (pv 1) zb)))))) zO) (zg (zu (zx (aca rfl) rfl uai boot_min (za (zq aak ze ze) (za (zq ym (zq zQ (zq vC (zd uad hr rfl (za (pv 0) (za ze zb))) ze) (zd uad hr rfl (za (pv 0) (za ze zb)))) (zq aak ze ze)) zb)))))), ?_⟩
 rintro f xs ⟨far, bs⟩ hl ⟨rfl, c0, c1, c2, c3⟩
 dsimp only at c0 c1 c2 c3
 try dsimp only [zI, zj]
 walk_at "w"
 by_cases h : 0 < far
 ·rw [if_pos (by simpa using h)]
  walk_at "w"
  refine zm far ?_
  walk_at "w"
  rintro r ⟨i, rfl, h1, h2⟩
  walk_at "w"
  show bs + i <= 1000000000
  omega
 ·rw [if_neg (by simpa using h)]
  walk_at "w"
  refine zm 20001 ?_
  walk_at "w"
  rintro r ⟨i, rfl, h1, h2⟩
  walk_at "w"
  refine zm 100000 ?_
  walk_at "w"
  rintro r ⟨j, rfl, h3, h4⟩
  walk_at "w"
  have e9 : (10 : Int) ^ Int.toNat 9 = 1000000000 := by decide
  rw [e9]
  omega
abbrev ag2 (K : ao0) : Sp := spD K 1 (fun (_ : Unit) xs => xs = [.feed]) fun _ r => ∃ wd rows, r = tab rows /\ Good wd rows
theorem menu {ds : List PyData} {i n : Int} (h0 : 0 <= i) (h1 : i < n) (hn : n = (ds.length : Int)) : ∃ d, atI ds i = some d /\ d ∈ ds := by
 have hi : i.toNat < ds.length := by omega
 have e : i = ((i.toNat : Nat) : Int) := by omega
 have q := yT (aoX hi)
 rw [<- e] at q
 exact ⟨_, q, apz hi⟩
theorem ag3 : ∀ {es : List PyData} {p : Int -> Prop}, (∀ (i : Nat) e, es[i]? = some e -> ∃ n : Int, e = .int n /\ p n) -> ∃ ns : List Int, es = ns.map .int /\ ∀ n ∈ ns, p n
 | [], p, _ => ⟨[], rfl, fun n h => by cases h⟩
 | e :: es, p, h => by
  obtain ⟨n, rfl, hn⟩ := h 0 e rfl
  obtain ⟨ns, rfl, hs⟩ := ag3 (es := es) (p := p) fun i e' he => h (i + 1) e' (by simpa using he)
  exact ⟨n :: ns, rfl, fun m hm => by
   rcases ao7.mp hm with rfl | hm
   ·exact hn
   ·exact hs m hm⟩
theorem ag4 : ∀ {es : List PyData} {p : List Int -> Prop}, (∀ (i : Nat) e, es[i]? = some e -> ∃ r : List Int, e = .list (r.map .int) /\ p r) -> ∃ rows : List (List Int), es = rows.map (fun r => .list (r.map .int)) /\ ∀ r ∈ rows, p r
 | [], p, _ => ⟨[], rfl, fun n h => by cases h⟩
 | e :: es, p, h => by
  obtain ⟨n, rfl, hn⟩ := h 0 e rfl
  obtain ⟨ns, rfl, hs⟩ := ag4 (es := es) (p := p) fun i e' he => h (i + 1) e' (by simpa using he)
  exact ⟨n :: ns, rfl, fun m hm => by
   rcases ao7.mp hm with rfl | hm
   ·exact hn
   ·exact hs m hm⟩
theorem ajK (F : Def K mg "_law_table" jP pQ) (uaf : mg "range" = none) (uad : FnIn P w K mg base k "_law_draw" pF (abH K)) (ubU : FnIn P w K mg base k "_law_height" pM (aeS K)) :
  FnIn P w K mg base (k + 1) "_law_table" pQ (ag2 K) := by
 refine F.ok sc_law_table rfl fun fa cdv A outer s H E hr => ⟨_, (zc (zC (i := 1) sc_law_table.nd rfl (Or.inr rfl) (zq zQ ze (zd uad hr rfl (za (pv 0) (za ze zb))))) (zc (zC (i := 2) sc_law_table.nd rfl (Or.inl rfl) (zq zQ ze (zd uad hr rfl (za (pv 0) (za ze zb))))) (zc (zC (i := 3) sc_law_table.nd rfl (Or.inr rfl) (zS (zD (K := K) rfl) (zV (za ze (za ze (za ze (za ze (za ze (za ze (za ze zb)))))))) (zd uad hr rfl (za (pv 0) (za ze zb))) (fun _ _ => rfl))) (zc (zC (i := 4) sc_law_table.nd rfl (Or.inr rfl) (zS (zD (K := K) rfl) (zV (za ze (za (zq ym ze ze) (za (zq ym (zq aak ze ze) ze) (za (zq ym ze (zq aak ze ze)) zb))))) (zd uad hr rfl (za (pv 0) (za ze zb))) (fun _ _ => rfl))) (zg (zu (yv (N := qa) (own := 1) (fr := [0, 1, 3, 4]) ⟨rfl, by decide +kernel, of_decide_eq_true (by kernel_rfl), of_decide_eq_true (by kernel_rfl), of_decide_eq_true (by kernel_rfl), rfl⟩ rfl (yQ rfl uaf (za (pv 2) zb)) (fun _ _ _ _ => (zk (i := 0) (show (qa : List Str).Nodup by decide +kernel) rfl (Or.inl rfl) (Or.inr rfl))) (fun _ _ _ _ => yJ) (fun _ _ _ _ => (yv (N := qb) (own := 1) (fr := [1, 3, 4]) ⟨rfl, by decide +kernel, of_decide_eq_true (by kernel_rfl), of_decide_eq_true (by kernel_rfl), of_decide_eq_true (by kernel_rfl), rfl⟩ rfl (yQ rfl uaf (za (pv 2) zb)) (fun _ _ _ _ => (zk (i := 0) (show (qb : List Str).Nodup by decide +kernel) rfl (Or.inl rfl) (Or.inr rfl))) (fun _ _ _ _ => yJ) (fun _ _ _ _ => (zd ubU hr rfl (za (pv 1) (za (pv 2) (za (pv 3) zb))))) rfl rfl (fun _ => rfl))) rfl rfl (fun _ => rfl)))))))), ?_⟩
 rintro f xs ⟨⟩ hl rfl
 try dsimp only [zI, zj]
 walk_at "w"
 refine zm 6 ?_
 walk_at "w"
 rintro r ⟨i1, rfl, h1, h2⟩
 walk_at "w"
 refine zm 6 ?_
 walk_at "w"
 rintro r ⟨i2, rfl, h3, h4⟩
 walk_at "w"
 refine zm 7 ?_
 walk_at "w"
 rintro r ⟨i3, rfl, h5, h6⟩
 refine ⟨_, rfl, ?_⟩
 obtain ⟨d3, e3, m3⟩ := menu (ds := [.int 2, .int 3, .int 5, .int 10, .int 2, .int 3, .int 0]) h5 h6 (by simp)
 obtain ⟨far, rfl, f0, f1⟩ : ∃ n : Int, d3 = .int n /\ 0 <= n /\ n <= 10 := by
  simp only [ao7, apZ, or_false] at m3
  rcases m3 with rfl | rfl | rfl | rfl | rfl | rfl | rfl <;> exact ⟨_, rfl, by decide, by decide⟩
 refine ⟨_, e3, ?_⟩
 walk_at "w"
 refine zm 4 ?_
 walk_at "w"
 rintro r ⟨i4, rfl, h7, h8⟩
 refine ⟨_, rfl, ?_⟩
 obtain ⟨d4, e4, m4⟩ := menu (ds := [.int 0, .int (0 - 3), .int (10 ^ Int.toNat 9 - 9), .int (0 - 10 ^ Int.toNat 9)]) h7 h8 (by simp)
 obtain ⟨bs, rfl, b0, b1⟩ : ∃ n : Int, d4 = .int n /\ -1000000000 <= n /\ n <= 999999991 := by
  simp only [ao7, apZ, or_false] at m4
  rcases m4 with rfl | rfl | rfl | rfl <;> exact ⟨_, rfl, by decide, by decide⟩
 refine ⟨_, e4, ?_⟩
 walk_at "w"
 refine abo ?_
 walk_at "w"
 refine ⟨fun _ e => ∃ r : List Int, e = .list (r.map .int) /\ r.length = (2 + i1).toNat /\ ∀ n ∈ r, -1000000000 <= n /\ n <= 1000000000, fun D i hi => ?_, fun es hes hR => ?_⟩
 ·refine abo ?_
  walk_at "w"
  refine ⟨fun _ e => ∃ n : Int, e = .int n /\ -1000000000 <= n /\ n <= 1000000000, fun D' i' hi' => ?_, fun es hes hR => ?_⟩
  ·refine zm (far, bs) ?_
   walk_at "w"
   rintro r ⟨n, rfl, n0, n1⟩
   exact ⟨n, rfl, n0, n1⟩
  ·obtain ⟨ns, rfl, hs⟩ := ag3 (p := fun n => -1000000000 <= n /\ n <= 1000000000) hR
   exact ⟨ns, rfl, by rw [aoZ] at hes; exact hes, hs⟩
 ·obtain ⟨rows, rfl, hs⟩ := ag4 (p := fun r => r.length = (2 + i1).toNat /\ ∀ n ∈ r, -1000000000 <= n /\ n <= 1000000000) hR
  rw [aoZ] at hes
  exact ⟨(2 + i1).toNat, rows, rfl, by omega, by omega, by omega, by omega, fun r hr => (hs r hr).1, fun r hr => (hs r hr).2⟩
abbrev amn (K : ao0) : Sp := spD K 2 (fun (c : List (List Int) × Nat) xs => xs = [.feed, .dat (tab c.1)] /\ Good c.2 c.1) fun _ r => ∃ n : Int, r = .int n /\ -1000000001 <= n /\ n <= 1000000000
local macro_rules | `(tactic| walk_at "dl") => `(tactic| first
 | (with_reducible show PSd _ _ (jV _ (adW (yf _) (tC (V.int 0)) abi)) _ _; refine agk rfl ?_)
 | (with_reducible show PSd _ _ (jV _ (adW (yf _) (tC (V.int 1)) abi)) _ _; refine agl rfl ?_)
 | with_reducible refine zW ?_ | with_reducible refine abZ ?_ | with_reducible refine ya ?_ | with_reducible refine zE ?_ | with_reducible refine jw ?_ | with_reducible refine yD ?_
 | with_reducible refine zi ?_ | with_reducible refine yH rfl ?_ | with_reducible refine zt ?_ | with_reducible refine z9 ?_
 | with_reducible refine yt ?_ | with_reducible refine t_b ?_ | with_reducible refine aci ?_ | with_reducible refine aiH ?_ | with_reducible refine abm ?_ | with_reducible refine yN ?_
 | with_reducible refine agj ?_ | with_reducible refine agi ?_ | with_reducible refine abl ?_ | with_reducible refine ju ?_ | with_reducible refine jb ?_
 | with_reducible refine aiI ?_ | with_reducible refine afo ?_ | with_reducible refine d_orV ?_ | with_reducible refine aiJ ?_
 | with_reducible refine yw ?_ | with_reducible refine aiG ?_ | with_reducible refine jX ?_ | with_reducible refine al6 ?_
 | (with_reducible show PEd _ _ (yf _) _ _; refine zh rfl ?_)
 | (with_reducible show PEd _ _ (tOp (ad1 _) (yf _) _) _ _; refine al7 rfl ?_)
 | with_reducible refine vt ?_ | with_reducible refine vu ?_
 | (with_reducible show PAd _ _ (yd (yf _) _) _ _; refine acV rfl ?_)
 | with_reducible refine zp ?_ | with_reducible refine zJ ?_
 | with_reducible refine d_catT ?_ | with_reducible refine d_cut ?_ | with_reducible refine po_no ?_ | with_reducible refine po_at ?_ | with_reducible refine aiU ?_ | with_reducible refine akG ?_ | with_reducible refine qL ?_
 | with_reducible refine jY ?_ | with_reducible refine jv ?_ | with_reducible refine ad9 ?_ | with_reducible refine aiK ?_ | with_reducible refine aiL ?_ | with_reducible refine aiM ?_ | with_reducible refine aiN ?_
 | (with_reducible show (∃ _, _) \/ (∃ _, _); first | refine Or.inl ⟨_, rfl, ?_⟩ | refine Or.inr ⟨_, rfl, ?_⟩) | refine ⟨_, rfl, ?_⟩ | refine ⟨_, _, rfl, ?_⟩
 | (with_reducible show (_ = _ /\ ∀ _, _) \/ _; first | refine Or.inl ⟨rfl, fun a ha => ?_⟩ | refine Or.inr ⟨rfl, fun b hb hb' => ?_⟩)
 | (with_reducible show PyData.canLay0 _ = true /\ _; refine And.intro (by first | rfl | assumption | decide +kernel) ?_)
 | (with_reducible show min _ _ <= 60 /\ _; refine And.intro (by first | assumption | (simp [as4, ao9]; done)) ?_)
 | refine ⟨rfl, ?_⟩
 | (refine And.intro ?side ?_; (case side => first | omega | exact Int.ediv_nonneg (by omega) (by omega) | exact arS _ (by omega) | exact aqA _ (by omega) | decide | exact ⟨by decide, by decide, by decide⟩ | exact ⟨by omega, by omega⟩ | exact Or.inl ⟨by omega, by omega⟩ | exact Or.inr ⟨by omega, by omega⟩ | (refine apu (aqW (by rfl)) (show _ <= 1000 by decide)) | ((repeat' apply And.intro) <;> first | rfl | omega | decide | assumption) | (simp [as4]))))
theorem yq {b : Bool} {p q : Prop} (h1 : b = true -> p) (h2 : b = false -> q) : if b = true then p else q := by
 cases b with
 | true => rw [if_pos rfl]; exact h1 rfl
 | false => rw [if_neg aoY]; exact h2 rfl
def zM (rows : List (List Int)) (wd : Nat) (x y : Int) : Bool := decide (0 <= x /\ x < wd) && decide (0 <= y /\ y < rows.length)
def zZ (rows : List (List Int)) (x y : Int) : Int := (rows.getD y.toNat []).getD x.toNat 0
theorem qP {rows : List (List Int)} {wd : Nat} {x y : Int} (h : zM rows wd x y = true) : 0 <= x /\ x < wd /\ 0 <= y /\ y < rows.length := by
 unfold zM at h
 rw [ao6] at h
 have h1 := of_decide_eq_true h.1
 have h2 := of_decide_eq_true h.2
 omega
def jR (x y w : Int) : PyData := .tuple [.int x, .int y, .int w]
def px (x : Int) (w : Int) : Int := if w = 0 then x + 1 else x
def py (y : Int) (w : Int) : Int := if w = 0 then y else y + 1
def vk (rows : List (List Int)) (wd : Nat) (x y w : Int) : Bool := decide (w = 0 \/ w = 1) && (zM rows wd x y && zM rows wd (px x w) (py y w))
def yk (rows : List (List Int)) (wd : Nat) (cut x y w : Int) : Bool := vk rows wd x y w && (decide (cut < zZ rows x y) != decide (cut < zZ rows (px x w) (py y w)))
def aad (rows : List (List Int)) (cut x y w : Int) : Str := if w = 0 then (if cut < zZ rows x y then "up" else "down") else (if cut < zZ rows x y then "right" else "left")
theorem adC (a b : Int) : apw (.int a) (.int b) = decide (a = b) := rfl
theorem aeT (a b : Bool) : apw (.bool a) (.bool b) = (a == b) := rfl
abbrev ajL (K : ao0) : Sp := spD K 1 (fun (c : List (List Int) × Nat) xs => xs = [.dat (tab c.1)] /\ Good c.2 c.1) fun c r => r = .tuple [.int c.2, .int c.1.length]
abbrev aeU (K : ao0) : Sp := spD K 3 (fun (c : List (List Int) × Nat × Int × Int) xs => xs = [.dat (tab c.1), .dat (.int c.2.2.1), .dat (.int c.2.2.2)] /\ Good c.2.1 c.1) fun c r => r = .bool (zM c.1 c.2.1 c.2.2.1 c.2.2.2)
theorem anA (F : Def K mg "has_point" jI ph) (uaX : FnIn P w K mg base k "size" pj (ajL K)) : FnIn P w K mg base (k + 1) "has_point" ph (aeU K) := by
 refine F.ok sc_has_point rfl fun fa cdv A outer s H E hr => ⟨_, (zc (yg (zd uaX hr rfl (za (pv 0) zb)) (zT (K := K) (n := 2) rfl rfl (zo (zk (i := 3) sc_has_point.nd rfl (Or.inl rfl) (Or.inr rfl)) (zo (zk (i := 4) sc_has_point.nd rfl (Or.inl rfl) (Or.inr rfl)) zN)))) (zg (zu (acO (abd ab9 adX ze (pv 1) (pv 3)) (afe (abd ab9 adX ze (pv 2) (pv 4))))))), ?_⟩
 rintro f xs ⟨rows, wd, x, y⟩ hl ⟨rfl, g⟩
 try dsimp only [zI, zj]
 dsimp only at *
 refine zW (zE (zm (rows, wd) ?_))
 walk_at "w"
 rintro _ rfl
 walk_at "w"
 have fin : ∀ b : Bool, b = zM rows wd x y -> PyData.bool b = PyData.bool (zM rows wd x y) := fun b h => by rw [h]
 refine yq (fun h1 => ?_) fun h1 => ?_
 ·have h1' := of_decide_eq_true h1
  walk_at "w"
  refine yq (fun h2 => ?_) fun h2 => ?_
  ·have h2' := of_decide_eq_true h2
   walk_at "w"
   refine yq (fun h3 => ?_) fun h3 => ?_
   ·have h3' := of_decide_eq_true h3
    walk_at "w"
    refine fin _ ?_
    unfold zM
    dsimp only at h2' ⊢
    rw [decide_eq_true (p := (0 <= x /\ x < (wd : Int))) (by omega), ari]
    exact decide_eq_decide.mpr (by omega)
   ·have h3' := of_decide_eq_false h3
    refine fin _ ?_
    unfold zM
    rw [decide_eq_false (p := (0 <= y /\ y < (rows.length : Int))) (by omega), arv]
  ·have h2' := of_decide_eq_false h2
   refine fin _ ?_
   unfold zM
   dsimp only at h2'
   rw [decide_eq_false (p := (0 <= x /\ x < (wd : Int))) (by omega), aqS]
 ·have h1' := of_decide_eq_false h1
  refine ⟨_, rfl, ?_⟩
  rw [if_neg aoY]
  refine fin _ ?_
  unfold zM
  rw [decide_eq_false (p := (0 <= x /\ x < (wd : Int))) (by omega), aqS]
abbrev vP (K : ao0) : Sp := spD K 3 (fun (c : List (List Int) × Nat × Int × Int × Int) xs => xs = [.dat (tab c.1), .dat (.int c.2.2.1), .dat (.tuple [.int c.2.2.2.1, .int c.2.2.2.2])] /\ Good c.2.1 c.1 /\ zM c.1 c.2.1 c.2.2.2.1 c.2.2.2.2 = true) fun c r => r = .bool (decide (c.2.2.1 < zZ c.1 c.2.2.2.1 c.2.2.2.2))
theorem abI {rows : List (List Int)} {wd : Nat} {x y : Int} (g : Good wd rows) (h : zM rows wd x y = true) : ∃ r : List Int, atI (rows.map fun q => PyData.list (q.map .int)) y = some (.list (r.map .int)) /\ atI (r.map PyData.int) x = some (.int (zZ rows x y)) := by
 obtain ⟨x0, x1, y0, y1⟩ := qP h
 have hy : y.toNat < rows.length := by omega
 have hr := g.row _ (apz hy)
 have hx : x.toNat < rows[y.toNat].length := by omega
 refine ⟨rows[y.toNat], yX (F := fun q : List Int => PyData.list (q.map .int)) (by omega) hy, ?_⟩
 rw [yX (j := x.toNat) (by omega) hx]
 unfold zZ
 rw [ao2, ao2, aoX hy, Option.getD_some, aoX hx]
 rfl
theorem alk (F : Def K mg "stands_high" yV pB) : FnIn P w K mg base (k + 1) "stands_high" pB (vP K) := by
 refine F.ok sc_stands_high rfl fun fa cdv A outer s H E hr => ⟨_, (zc (yg (pv 2) (zT (K := K) (n := 2) rfl rfl (zo (zk (i := 3) sc_stands_high.nd rfl (Or.inl rfl) (Or.inr rfl)) (zo (zk (i := 4) sc_stands_high.nd rfl (Or.inl rfl) (Or.inr rfl)) zN)))) (zg (zu (qh adY (zS (zD (K := K) rfl) (zS (zD (K := K) rfl) (pv 0) (pv 4) (fun _ _ => rfl)) (pv 3) (fun _ _ => rfl)) (pv 1) (zR _))))), ?_⟩
 rintro f xs ⟨rows, wd, cut, x, y⟩ hl ⟨rfl, g, hi⟩
 try dsimp only [zI, zj]
 dsimp only at *
 obtain ⟨r, h1, h2⟩ := abI g hi
 unfold tab
 walk_at "w"
 refine ⟨_, h1, ?_⟩
 walk_at "w"
 refine ⟨_, h2, ?_⟩
 walk_at "w"
 rfl
abbrev ag5 (K : ao0) : Sp := spD K 1 (fun (c : Int × Int × Int) xs => xs = [.dat (jR c.1 c.2.1 c.2.2)]) fun c r => r = .list [.tuple [.int c.1, .int c.2.1], .tuple [.int (px c.1 c.2.2), .int (py c.2.1 c.2.2)]]
theorem anB (F : Def K mg "gate_points" yW ["gate"]) : FnIn P w K mg base (k + 1) "gate_points" ["gate"] (ag5 K) := by
 refine F.ok sc_gate_points rfl fun fa cdv A outer s H E hr => ⟨_, (zc (yg (pv 0) (zT (K := K) (n := 3) rfl rfl (zo (zk (i := 1) sc_gate_points.nd rfl (Or.inl rfl) (Or.inr rfl)) (zo (zk (i := 2) sc_gate_points.nd rfl (Or.inl rfl) (Or.inr rfl)) (zo (zk (i := 3) sc_gate_points.nd rfl (Or.inl rfl) (Or.inr rfl)) zN))))) (zc (yz (zL (vF (K := K) rfl hr.units) (pv 3) ze (zR _)) (zg (zu (zV (za (zz (za (pv 1) (za (pv 2) zb))) (za (zz (za (zq zQ (pv 1) ze) (za (pv 2) zb))) zb))))) zO) (zg (zu (zV (za (zz (za (pv 1) (za (pv 2) zb))) (za (zz (za (pv 1) (za (zq zQ (pv 2) ze) zb))) zb))))))), ?_⟩
 rintro f xs ⟨x, y, w⟩ hl rfl
 try dsimp only [zI, zj]
 dsimp only at *
 unfold jR
 walk_at "w"
 rw [if_neg aoY, adC]
 refine yq (fun h => ?_) fun h => ?_
 ·have h' := of_decide_eq_true h
  walk_at "w"
  unfold px py
  rw [if_pos h', if_pos h']
 ·have h' := of_decide_eq_false h
  walk_at "w"
  unfold px py
  rw [if_neg h', if_neg h']
abbrev ajM (K : ao0) : Sp := spD K 2 (fun (c : List (List Int) × Nat × Int × Int × Int) xs => xs = [.dat (tab c.1), .dat (jR c.2.2.1 c.2.2.2.1 c.2.2.2.2)] /\ Good c.2.1 c.1) fun c r => r = .bool (vk c.1 c.2.1 c.2.2.1 c.2.2.2.1 c.2.2.2.2)
theorem alm (F : Def K mg "has_gate" qw pK) (uaB : mg "all" = none) (uak : FnIn P w K mg base k "has_point" ph (aeU K)) (uaK : FnIn P w K mg base k "gate_points" ["gate"] (ag5 K)) : FnIn P w K mg base (k + 1) "has_gate" pK (ajM K) := by
 refine F.ok aeL rfl fun fa cdv A outer s H E hr => ⟨_, (zc (yz (zL (ahD (K := K) rfl) (zS (je (K := K) rfl) (pv 1) ze (fun _ _ => rfl)) (zz (za ze (za ze zb))) rfl) (zg (zu vm)) zO) (zg (zu (zx (acj (K := K) rfl rfl) rfl uaB asI (za (yv (N := pN) (own := 2) (fr := [0]) ⟨rfl, by decide +kernel, of_decide_eq_true (by kernel_rfl), of_decide_eq_true (by kernel_rfl), of_decide_eq_true (by kernel_rfl), rfl⟩ rfl (zY (K := K) rfl (zd uaK hr rfl (za (pv 1) zb))) (fun _ _ _ _ => (zT (K := K) (n := 2) rfl rfl (zo (zk (i := 0) (show (pN : List Str).Nodup by decide +kernel) rfl (Or.inl rfl) (Or.inr rfl)) (zo (zk (i := 1) (show (pN : List Str).Nodup by decide +kernel) rfl (Or.inl rfl) (Or.inr rfl)) zN)))) (fun _ _ _ _ => yJ) (fun _ _ _ _ => (zd uak hr rfl (za (pv 2) (za (pv 0) (za (pv 1) zb))))) rfl rfl (fun _ => rfl)) zb))))), ?_⟩
 rintro f xs ⟨rows, wd, x, y, w⟩ hl ⟨rfl, g⟩
 try dsimp only [zI, zj]
 dsimp only at *
 refine zW (abZ (yt (ai1 ?_)))
 unfold jR
 walk_at "w"
 refine ⟨[0, 1], rfl, _, rfl, ?_⟩
 have hc : (([0, 1] : List Int).contains w) = decide (w = 0 \/ w = 1) := by
  rw [asF]
  simp
 rw [hc]
 by_cases h : w = 0 \/ w = 1
 ·rw [decide_eq_true h, apE, if_neg aoY]
  refine yD (ya (ama (PEdO.ped (aee (A := fun p : Int × Int => PyData.tuple [.int p.1, .int p.2]) (B := fun p : Int × Int => PyData.bool (zM rows wd p.1 p.2)) [(x, y), (px x w, py y w)] (yy (zm (x, y, w) ?_))))))
  walk_at "w"
  rintro _ rfl
  refine ⟨_, rfl, rfl, show 2 <= 1000 by decide, ?_, ?_⟩
  ·rintro D p ρ' es hp ho hes
   obtain ⟨u, v, rfl⟩ := ho.two
   refine yH rfl (zt (zi (zt (zi (z9 (qL ?_))))))
   rw [if_pos rfl]
   refine yF hes (zm (rows, wd, p.1, p.2) ?_)
   walk_at "w"
   rintro _ rfl
   exact ⟨.mk2, rfl⟩
  ·refine ⟨[zM rows wd x y, zM rows wd (px x w) (py y w)], rfl, ?_⟩
   show PyData.bool _ = PyData.bool _
   unfold vk
   rw [decide_eq_true h, ari]
   show PyData.bool (zM rows wd x y && (zM rows wd (px x w) (py y w) && true)) = _
   rw [as0]
 ·rw [decide_eq_false h, aqB, if_pos rfl]
  walk_at "w"
  unfold vk
  rw [decide_eq_false h]
  rfl
abbrev abJ (K : ao0) : Sp := spD K 3 (fun (c : List (List Int) × Nat × Int × Int × Int × Int) xs => xs = [.dat (tab c.1), .dat (.int c.2.2.1), .dat (jR c.2.2.2.1 c.2.2.2.2.1 c.2.2.2.2.2)] /\ Good c.2.1 c.1) fun c r => r = .bool (yk c.1 c.2.1 c.2.2.1 c.2.2.2.1 c.2.2.2.2.1 c.2.2.2.2.2)
theorem j9 {rows : List (List Int)} {wd : Nat} {x y w : Int} (h : vk rows wd x y w = true) : zM rows wd x y = true /\ zM rows wd (px x w) (py y w) = true := by
 unfold vk at h
 rw [ao6, ao6] at h
 exact h.2
theorem aln (F : Def K mg "is_open" va pf) (ubV : FnIn P w K mg base k "has_gate" pK (ajM K)) (uaK : FnIn P w K mg base k "gate_points" ["gate"] (ag5 K)) (uag : FnIn P w K mg base k "stands_high" pB (vP K)) : FnIn P w K mg base (k + 1) "is_open" pf (abJ K) := by
 refine F.ok sc_is_open rfl fun fa cdv A outer s H E hr => ⟨_, (zc (yz (vB (z7 (K := K) rfl (zd ubV hr rfl (za (pv 0) (za (pv 2) zb))) (fun _ => rfl))) (zg (zu vm)) zO) (zc (yg (zd uaK hr rfl (za (pv 2) zb)) (acZ (K := K) (n := 2) rfl rfl (zo (zk (i := 3) sc_is_open.nd rfl (Or.inl rfl) (Or.inr rfl)) (zo (zk (i := 4) sc_is_open.nd rfl (Or.inl rfl) (Or.inr rfl)) zN)))) (zg (zu (qh (jU (K := K) rfl hr.units) (zd uag hr rfl (za (pv 0) (za (pv 1) (za (pv 3) zb)))) (zd uag hr rfl (za (pv 0) (za (pv 1) (za (pv 4) zb)))) (zR _)))))), ?_⟩
 rintro f xs ⟨rows, wd, cut, x, y, w⟩ hl ⟨rfl, g⟩
 try dsimp only [zI, zj]
 dsimp only at *
 refine zW (abZ (abm (yN (zm (rows, wd, x, y, w) ?_))))
 walk_at "w"
 rintro _ rfl
 refine ⟨_, rfl, ?_⟩
 dsimp only
 cases h : vk rows wd x y w with
 | false =>
  rw [aqB, if_pos rfl]
  walk_at "w"
  unfold yk
  rw [h]
  rfl
 | true =>
  rw [apE, if_neg aoY]
  obtain ⟨i1, i2⟩ := j9 h
  refine yD (zW (zE (zm (x, y, w) ?_)))
  walk_at "w"
  rintro _ rfl
  dsimp only
  refine aiZ rfl (zt (zi (zt (zi (z9 ?_)))))
  refine ya (jb (zm (rows, wd, cut, x, y) ?_))
  walk_at "w"
  rintro _ rfl
  refine zm (rows, wd, cut, px x w, py y w) ?_
  walk_at "w"
  rintro _ rfl
  dsimp only
  walk_at "w"
  show PyData.bool _ = PyData.bool _
  unfold yk
  rw [h, ari, if_pos rfl, aeT]
  rfl
theorem anC (F : Def K mg "_law_cut" vf pE) (uac : mg "len" = none) (uad : FnIn P w K mg base k "_law_draw" pF (abH K)) : FnIn P w K mg base (k + 1) "_law_cut" pE (amn K) := by
 refine F.ok sc_law_cut rfl fun fa cdv A outer s H E hr => ⟨_, (zc (zC (i := 2) sc_law_cut.nd rfl (Or.inl rfl) (zS (zD (K := K) rfl) (pv 1) (zd uad hr rfl (za (pv 0) (za (zx (yc (K := K) rfl) rfl uac apY (za (pv 1) zb)) zb))) (fun _ _ => rfl))) (zg (zu (zq ym (zS (zD (K := K) rfl) (pv 2) (zd uad hr rfl (za (pv 0) (za (zx (yc (K := K) rfl) rfl uac apY (za (pv 2) zb)) zb))) (fun _ _ => rfl)) (zd uad hr rfl (za (pv 0) (za ze zb))))))), ?_⟩
 rintro f xs ⟨rows, wd⟩ hl ⟨rfl, g⟩
 try dsimp only [zI, zj]
 dsimp only at *
 have g1 := g.h1
 have g2 := g.h2
 have w1 := g.w1
 have w2 := g.w2
 have ml : (rows.map fun r => PyData.list (r.map .int)).length = rows.length := aoZ _
 have ml1 : 2 <= (rows.map fun r => PyData.list (r.map .int)).length := by omega
 have ml2 : (rows.map fun r => PyData.list (r.map .int)).length <= 7 := by omega
 refine zW (zE (vt ?_))
 unfold tab
 walk_at "w"
 refine zm (((rows.map fun r => PyData.list (r.map .int)).length : Nat) : Int) ?_
 walk_at "w"
 rintro _ ⟨i, rfl, i0, i1⟩
 have hi : i.toNat < rows.length := by omega
 have hr := g.row _ (apz hi)
 have hh := g.hgt _ (apz hi)
 refine ⟨_, rfl, _, yX (F := fun q : List Int => PyData.list (q.map .int)) (j := i.toNat) (by omega) hi, ?_⟩
 generalize rows[i.toNat] = row at hr hh
 have rl : (row.map PyData.int).length = row.length := aoZ _
 have rl1 : 2 <= (row.map PyData.int).length := by omega
 have rl2 : (row.map PyData.int).length <= 7 := by omega
 walk_at "w"
 refine zm (((row.map PyData.int).length : Nat) : Int) ?_
 walk_at "w"
 rintro _ ⟨q, rfl, q0, q1⟩
 have hq : q.toNat < row.length := by omega
 refine ⟨_, rfl, _, yX (F := PyData.int) (j := q.toNat) (by omega) hq, ?_⟩
 have hb := hh _ (apz hq)
 generalize row[q.toNat] = v at hb
 walk_at "w"
 refine zm 2 ?_
 walk_at "w"
 rintro _ ⟨u, rfl, u0, u1⟩
 walk_at "w"
 omega
theorem aae {n i : Nat} {d : PyData} (h : (qJ n)[i]? = some d) : i < n /\ d = .int (i : Int) := by
 unfold qJ at h
 rw [ao8] at h
 by_cases hi : i < n
 ·rw [aqt hi] at h
  cases h
  exact ⟨hi, rfl⟩
 ·rw [apy (by rw [ap2]; omega)] at h
  cases h
theorem acD (n : Nat) : (qJ n).length = n := by unfold qJ; simp
def alo (x y : Nat) : PyData := .tuple [.int x, .int y]
def qc (t n : Nat) : List PyData := (apo n).flatMap fun x => (apo t).map (alo x)
theorem aeV (t n : Nat) : qc t (n + 1) = qc t n ++ (apo t).map (alo n) := by
 unfold qc
 rw [ark, aqi]
 simp
theorem ag6 (t : Nat) : ∀ n, (qc t n).length = t * n
 | 0 => rfl
 | n + 1 => by rw [aeV, aph, ag6 t n, aoZ, ap2, as5]
abbrev abK (K : ao0) : Sp := spD K 1 (fun (c : List (List Int) × Nat) xs => xs = [.dat (tab c.1)] /\ Good c.2 c.1) fun c r => r = .list (qc c.1.length c.2)
theorem ah8 (F : Def K mg "points" v8 pj) (uaf : mg "range" = none) (uaX : FnIn P w K mg base k "size" pj (ajL K)) : FnIn P w K mg base (k + 1) "points" pj (abK K) := by
 refine F.ok sc_points rfl fun fa cdv A outer s H E hr => ⟨_, (zc (yg (zd uaX hr rfl (za (pv 0) zb)) (zT (K := K) (n := 2) rfl rfl (zo (zk (i := 1) sc_points.nd rfl (Or.inl rfl) (Or.inr rfl)) (zo (zk (i := 2) sc_points.nd rfl (Or.inr rfl) (Or.inl rfl)) zN)))) (zg (zu (aiE (N := ["x", "y", "tall"]) (own := 2) (fr := [2]) ⟨rfl, by decide +kernel, of_decide_eq_true (by kernel_rfl), of_decide_eq_true (by kernel_rfl), of_decide_eq_true (by kernel_rfl), rfl⟩ rfl (yQ rfl uaf (za (pv 1) zb)) (fun _ _ _ _ => (zk (i := 0) (show (["x", "y", "tall"] : List Str).Nodup by decide +kernel) rfl (Or.inl rfl) (Or.inr rfl))) (fun _ _ _ _ => yJ) (fun _ _ _ _ => (yQ rfl uaf (za (pv 2) zb))) (fun _ _ _ _ => (zk (i := 1) (show (["x", "y", "tall"] : List Str).Nodup by decide +kernel) rfl (Or.inl rfl) (Or.inr rfl))) (fun _ _ _ _ => yJ) (fun _ _ _ _ => (zz (za (pv 0) (za (pv 1) zb)))) rfl rfl (fun _ => rfl) (fun _ _ _ _ _ => rfl))))), ?_⟩
 rintro f xs ⟨rows, wd⟩ hl ⟨rfl, g⟩
 try dsimp only [zI, zj]
 dsimp only at *
 have g2 := g.h2
 have w2 := g.w2
 refine zW (zE (zm (rows, wd) ?_))
 walk_at "w"
 rintro _ rfl
 refine yH rfl (zt (zi (zt (zi (z9 ?_)))))
 refine ya (PEdO.ped (qK (aaV (zp (zh rfl (zJ ⟨_, rfl, by dsimp only; omega, by dsimp only; omega, fun n ρ es => (∃ u v, ρ = [u, v, some (.dat (.int rows.length))]) /\ es = qc rows.length n, ⟨⟨_, _, rfl⟩, rfl⟩, ?_, ?_⟩))))))
 ·rintro D n d ρ' es hd ⟨⟨u, v, rfl⟩, rfl⟩
  obtain ⟨hn, rfl⟩ := aae hd
  have hn' : n < wd := by have : n < ((wd : Int)).toNat := hn; omega
  have l1 : rows.length * n <= 7 * 7 := ar6 g2 (by omega)
  refine zi (qL ?_)
  rw [if_pos rfl]
  refine aol (aaV (zp (zh rfl (zJ ⟨_, rfl, by omega, by omega, fun m ρ es => (∃ v, ρ = [some (.dat (.int n)), v, some (.dat (.int rows.length))]) /\ es = qc rows.length n ++ (apo m).map (alo n), ⟨⟨_, rfl⟩, by simp⟩, ?_, ?_⟩))))
  ·rintro m d ρ2 es2 hd2 ⟨⟨v, rfl⟩, rfl⟩
   obtain ⟨hm, rfl⟩ := aae hd2
   have hm' : m < rows.length := by have : m < ((rows.length : Int)).toNat := hm; omega
   refine zi (qL ?_)
   rw [if_pos rfl]
   refine yF (by rw [aph, ag6, aoZ, ap2]; omega) ?_
   walk_at "w"
   rw [ark, aps, aqf]
   rfl
  ·rintro ρ2 es2 ⟨⟨v, rfl⟩, rfl⟩
   rw [acD, ary]
   exact ⟨⟨_, _, rfl⟩, by rw [aeV]⟩
 ·rintro ρ' es ⟨_, rfl⟩
  rw [acD, ary]
def F2 : PyData -> List PyData
 | .tuple [.int x, .int y] => [jR x y 0, jR x y 1]
 | _ => []
def gD3 (g : Int × Int × Int) : PyData := jR g.1 g.2.1 g.2.2
def opG (rows : List (List Int)) (wd : Nat) (cut : Int) (g : Int × Int × Int) : Bool := yk rows wd cut g.1 g.2.1 g.2.2
def yG (t n : Nat) : List (Int × Int × Int) := (apo n).flatMap fun (x : Nat) => (apo t).flatMap fun (y : Nat) => [((x : Int), (y : Int), (0 : Int)), ((x : Int), (y : Int), (1 : Int))]
theorem aeW (t n : Nat) : (qc t n).flatMap F2 = (yG t n).map gD3 := by
 unfold qc yG
 rw [List.flatMap_assoc, asy]
 congr 1
 funext x
 rw [List.flatMap_map, asy]
 rfl
theorem alp {t n : Nat} {d : PyData} (h : d ∈ qc t n) : ∃ x y : Nat, d = alo x y := by
 obtain ⟨x, _, h⟩ := apN.mp h
 obtain ⟨y, _, rfl⟩ := apm.mp h
 exact ⟨x, y, rfl⟩
theorem abL {α : Type} {F : Nat -> List α} {b : Nat} (h : ∀ n, (F n).length <= b) : ∀ n, ((apo n).flatMap F).length <= b * n
 | 0 => by simp
 | n + 1 => by
  rw [ark, aqi, aph]
  have := abL h n
  have := h n
  simp only [List.flatMap_cons, List.flatMap_nil, apC]
  rw [as5]
  omega
theorem acE {t n : Nat} (ht : t <= 7) (hn : n <= 7) : (yG t n).length <= 98 := by
 have h := abL (F := fun (x : Nat) => (apo t).flatMap fun (y : Nat) => [((x : Int), (y : Int), (0 : Int)), ((x : Int), (y : Int), (1 : Int))]) (b := 2 * t) (fun x => abL (F := fun (y : Nat) => [((x : Int), (y : Int), (0 : Int)), ((x : Int), (y : Int), (1 : Int))]) (b := 2) (fun y => ao5 2) t) n
 exact apu h (ar6 (show 2 * t <= 14 by omega) hn)
def anD (rows : List (List Int)) (wd : Nat) (cut : Int) (x y : Nat) : List (Int × Int × Int) := (if yk rows wd cut x y 0 = true then [((x : Int), (y : Int), (0 : Int))] else []) ++ if yk rows wd cut x y 1 = true then [((x : Int), (y : Int), (1 : Int))] else []
def zH (rows : List (List Int)) (wd : Nat) (cut : Int) : List (Int × Int × Int) := (apo wd).flatMap fun x => (apo rows.length).flatMap fun y => anD rows wd cut x y
theorem ah9 {α : Type} {F : Nat -> List α} (n : Nat) : (apo (n + 1)).flatMap F = (apo n).flatMap F ++ F n := by
 rw [ark, aqi]
 simp
theorem alq (rows : List (List Int)) (wd : Nat) (cut : Int) (x y : Nat) : anD rows wd cut x y = [((x : Int), (y : Int), (0 : Int)), ((x : Int), (y : Int), (1 : Int))].filter (opG rows wd cut) := by
 unfold anD opG
 simp only [apQ, asG]
 cases yk rows wd cut x y 0 <;> cases yk rows wd cut x y 1 <;> rfl
theorem qd (rows : List (List Int)) (wd : Nat) (cut : Int) : zH rows wd cut = (yG rows.length wd).filter (opG rows wd cut) := by
 unfold zH yG
 rw [asY]
 congr 1
 funext x
 rw [asY]
 congr 1
 funext y
 exact alq rows wd cut x y
def gLt (a b : Int × Int × Int) : Prop := a.1 < b.1 \/ (a.1 = b.1 /\ (a.2.1 < b.2.1 \/ (a.2.1 = b.2.1 /\ a.2.2 < b.2.2)))
theorem adD {α : Type} {R : α -> α -> Prop} {F : Nat -> List α} (n : Nat) (h1 : ∀ i, i < n -> (F i).Pairwise R) (h2 : ∀ i j, i < j -> j < n -> ∀ a ∈ F i, ∀ b ∈ F j, R a b) : ((apo n).flatMap F).Pairwise R := by
 induction n with
 | zero => simp
 | succ n ih =>
  rw [ah9, arO]
  refine ⟨ih (fun i hi => h1 i (by omega)) (fun i j hij hj => h2 i j hij (by omega)), h1 n (by omega), fun a ha b hb => ?_⟩
  obtain ⟨i, hi, ha⟩ := apN.mp ha
  exact h2 i n (apF.mp hi) (by omega) a ha b hb
theorem aeX (t n : Nat) : (yG t n).Pairwise gLt := by
 unfold yG
 refine adD n (fun x _ => adD t (fun y _ => ?_) fun y y' hy _ a ha b hb => ?_) fun x x' hx _ a ha b hb => ?_
 ·simp [gLt]
 ·simp only [ao7, apZ, or_false] at ha hb
  rcases ha with rfl | rfl <;> rcases hb with rfl | rfl <;> (unfold gLt; dsimp only; omega)
 ·obtain ⟨y, _, ha⟩ := apN.mp ha
  obtain ⟨y', _, hb⟩ := apN.mp hb
  simp only [ao7, apZ, or_false] at ha hb
  rcases ha with rfl | rfl <;> rcases hb with rfl | rfl <;> (unfold gLt; dsimp only; omega)
theorem aax {rows : List (List Int)} {wd : Nat} {cut : Int} (g : Good wd rows) : (zH rows wd cut).length <= 98 := by
 rw [qd]
 exact apu (apK _ _) (acE g.h2 g.w2)
theorem aia (rows : List (List Int)) (wd : Nat) (cut : Int) : (PyData.list ((zH rows wd cut).map gD3)).canLay0 = true /\ (PyData.list ((zH rows wd cut).map gD3)).depth <= 60 := by
 constructor
 ·show ap6 _ = true
  induction zH rows wd cut with
  | nil => rfl
  | cons g l ih => exact ih
 ·show ao9 _ + 1 <= 60
  have : ao9 ((zH rows wd cut).map gD3) <= 1 := by
   induction zH rows wd cut with
   | nil => exact apD _
   | cons g l ih => exact as2.mpr ⟨ao5 1, ih⟩
  omega
theorem alr (rows : List (List Int)) : (tab rows).canLay0 = true /\ (tab rows).depth <= 60 := by
 have intz : ∀ r : List Int, ap6 (r.map .int) = true /\ ao9 (r.map .int) = 0 := fun r => by
  induction r with
  | nil => exact ⟨rfl, rfl⟩
  | cons n r ih => exact ⟨ih.1, by show max 0 (ao9 (r.map .int)) = 0; rw [ih.2]; rfl⟩
 have all : ap6 (rows.map fun r => PyData.list (r.map .int)) = true /\ ao9 (rows.map fun r => PyData.list (r.map .int)) <= 1 := by
  induction rows with
  | nil => exact ⟨rfl, apD _⟩
  | cons r rows ih =>
   refine ⟨?_, ?_⟩
   ·show (ap6 (r.map .int) && ap6 (rows.map fun r => PyData.list (r.map .int))) = true
    rw [(intz r).1, ih.1]
    rfl
   ·show max (ao9 (r.map .int) + 1) (ao9 (rows.map fun r => PyData.list (r.map .int))) <= 1
    rw [(intz r).2]
    exact as2.mpr ⟨ao5 _, ih.2⟩
 exact ⟨all.1, apu (Nat.succ_le_succ all.2) (by decide)⟩
abbrev adE (K : ao0) : Sp := spN K 2 (fun (c : List (List Int) × Nat × Int) xs => xs = [.dat (tab c.1), .dat (.int c.2.2)] /\ Good c.2.1 c.1) fun c es => es = ((yG c.1.length c.2.1).filter (opG c.1 c.2.1 c.2.2)).map gD3
theorem ajN (F : Def K mg "gates" aa2 pz) (uae : FnIn P w K mg base k "ask_table" pj (vz K)) (uaY : FnIn P w K mg base k "points" pj (abK K)) (uav : FnIn P w K mg base k "is_open" pf (abJ K)) : FnIn P w K mg base (k + 1) "gates" pz (adE K) := by
 refine F.okN sc_gates rfl fun fa cdv A outer s H E hr => ⟨_, (zc (z6 (zd uae hr rfl (za (pv 0) zb))) (zc (ad7 (i := 2) (N := pW) (own := 3) (fr := []) ⟨rfl, by decide +kernel, of_decide_eq_true (by kernel_rfl), of_decide_eq_true (by kernel_rfl), of_decide_eq_true (by kernel_rfl), rfl⟩ rfl sc_gates.nd rfl (Or.inl rfl) (zY (K := K) rfl (zd uaY hr rfl (za (pv 0) zb))) (fun _ _ _ _ => (zT (K := K) (n := 2) rfl rfl (zo (zk (i := 0) (show (pW : List Str).Nodup by decide +kernel) rfl (Or.inl rfl) (Or.inr rfl)) (zo (zk (i := 1) (show (pW : List Str).Nodup by decide +kernel) rfl (Or.inl rfl) (Or.inr rfl)) zN)))) (fun _ _ _ _ => yJ) (fun _ _ _ _ => (aaU (K := K) rfl (zz (za ze (za ze zb))))) (fun _ _ _ _ => (zk (i := 2) (show (pW : List Str).Nodup by decide +kernel) rfl (Or.inl rfl) (Or.inr rfl))) (fun _ _ _ _ => yJ) (fun _ _ _ _ => (zz (za (pv 0) (za (pv 1) (za (pv 2) zb))))) rfl rfl (fun _ => rfl) (fun _ _ _ _ _ => rfl) (Or.inl rfl) rfl) (zg (zu (yv (N := pH) (own := 1) (fr := [0, 1]) ⟨rfl, by decide +kernel, of_decide_eq_true (by kernel_rfl), of_decide_eq_true (by kernel_rfl), of_decide_eq_true (by kernel_rfl), rfl⟩ rfl (zY (K := K) rfl (pv 2)) (fun _ _ _ _ => (zk (i := 0) (show (pH : List Str).Nodup by decide +kernel) rfl (Or.inl rfl) (Or.inr rfl))) (fun _ _ _ _ => (jE (z7 (K := K) rfl (zd uav hr rfl (za (pv 1) (za (pv 2) (za (pv 0) zb)))) (fun _ => rfl)))) (fun _ _ _ _ => (pv 0)) rfl rfl (fun _ => rfl)))))), ?_⟩
 rintro f xs ⟨rows, wd, cut⟩ hl ⟨rfl, g⟩
 try dsimp only [zI, zj]
 dsimp only at *
 have sl := acE g.h2 g.w2
 refine aaH (jw (zm (rows, wd) ?_))
 walk_at "w"
 rintro _ rfl
 refine aaH (zE (PEdO.ped (amX (yy (zm (rows, wd) ?_)))))
 walk_at "w"
 rintro _ rfl
 refine ⟨_, rfl, F2, by rw [aeW, aoZ]; exact apu sl (by decide), ?_, ?_⟩
 ·rintro D d ρ' es hd ho hes
  obtain ⟨x, y, rfl⟩ := alp hd
  obtain ⟨us, hus, rfl⟩ := ho
  match us, hus with
  | [u1, u2, u3], _ =>
   refine yH rfl (zt (zi (zt (zi (z9 (qL ?_))))))
   rw [if_pos rfl]
   have hes' : es.length + 2 <= 1000 := hes
   refine aol (agm (jY (zp (yw (zp (yw (zJ ⟨_, rfl, by simp, _, rfl, fun m ρ es2 => (∃ v, ρ = [some (.dat (.int x)), some (.dat (.int y)), v]) /\ es2 = es ++ [jR x y 0, jR x y 1].take m, ⟨⟨_, rfl⟩, by simp⟩, ?_, ?_⟩)))))))
   ·rintro m d ρ2 es2 hd2 ⟨⟨v, rfl⟩, rfl⟩
    have hm : (m = 0 /\ d = .int 0) \/ (m = 1 /\ d = .int 1) := by
     match m, hd2 with
     | 0, h => cases h; exact .inl ⟨rfl, rfl⟩
     | 1, h => cases h; exact .inr ⟨rfl, rfl⟩
     | (q + 2), h => cases h
    rcases hm with ⟨rfl, rfl⟩ | ⟨rfl, rfl⟩
    ·refine zi (qL ?_)
     rw [if_pos rfl]
     refine yF (by simp; omega) ?_
     walk_at "w"
     simp
     rfl
    ·refine zi (qL ?_)
     rw [if_pos rfl]
     refine yF (by simp; omega) ?_
     walk_at "w"
     simp
     rfl
   ·rintro ρ2 es2 ⟨⟨v, rfl⟩, rfl⟩
    exact ⟨⟨[_, _, _], rfl, rfl⟩, rfl⟩
 ·rw [show List.flatMap F2 (qc (rows, wd).1.length (rows, wd).2) = (yG rows.length wd).map gD3 from aeW _ _]
  refine zi (aei (qK (yy (zh rfl ⟨_, rfl, fun n ρ es => (∃ u, ρ = [u, some (.dat (tab rows)), some (.dat (.int cut))]) /\ es = (((yG rows.length wd).take n).filter (opG rows wd cut)).map gD3, ⟨⟨_, rfl⟩, rfl⟩, ?_, ?_⟩))))
  ·rintro D n d ρ' es hd ⟨⟨u, rfl⟩, rfl⟩
   rw [ao8] at hd
   cases hq : (yG rows.length wd)[n]? with
   | none => rw [hq] at hd; cases hd
   | some q =>
    rw [hq] at hd
    cases hd
    have tk : (yG rows.length wd).take (n + 1) = (yG rows.length wd).take n ++ [q] := by
     rw [arB, hq]
     rfl
    have len : ((((yG rows.length wd).take n).filter (opG rows wd cut)).map gD3).length < 1000 := by
     rw [aoZ]
     have a1 := apK (opG rows wd cut) ((yG rows.length wd).take n)
     rw [apP] at a1
     omega
    refine zi (yN (zm (rows, wd, cut, q.1, q.2.1, q.2.2) ?_))
    unfold gD3 at *
    walk_at "w"
    rintro _ rfl
    dsimp only
    refine ⟨_, rfl, ?_⟩
    refine yq (fun h => ?_) fun h => ?_
    ·refine yF len ?_
     walk_at "w"
     rw [tk, apU, aps, apQ, show opG rows wd cut q = true from h, if_pos rfl]
     rfl
    ·refine ⟨⟨_, rfl⟩, ?_⟩
     rw [tk, apU, aps, apQ, show opG rows wd cut q = false from h, if_neg aoY]
     simp
  ·rintro ρ' es ⟨_, rfl⟩
   rw [aoZ, apM]
abbrev CC := List (List Int) × Nat × Int × Int × Int
def zF (rows : List (List Int)) (wd : Nat) (x y : Int) : Bool := zM rows wd x y && zM rows wd (x + 1) (y + 1)
def hiB (rows : List (List Int)) (cut x y : Int) : Bool := decide (cut < zZ rows x y)
theorem cell_in {rows : List (List Int)} {wd : Nat} {x y : Int} (h : zF rows wd x y = true) : zM rows wd x y = true /\ zM rows wd (x + 1) y = true /\ zM rows wd (x + 1) (y + 1) = true /\ zM rows wd x (y + 1) = true := by
 unfold zF at h
 rw [ao6] at h
 obtain ⟨a0, a1, a2, a3⟩ := qP h.1
 obtain ⟨b0, b1, b2, b3⟩ := qP h.2
 refine ⟨h.1, ?_, h.2, ?_⟩ <;> unfold zM <;> rw [decide_eq_true (by omega), decide_eq_true (by omega)] <;> rfl
section
variable {rows : List (List Int)} {wd : Nat} {cut x y : Int}
theorem adF (h : zF rows wd x y = true) : yk rows wd cut x y 0 = (hiB rows cut x y != hiB rows cut (x + 1) y) := by
 obtain ⟨a, b, c, d⟩ := cell_in h
 unfold yk vk
 show (decide ((0 : Int) = 0 \/ (0 : Int) = 1) && (zM rows wd x y && zM rows wd (x + 1) y) && _) = _
 rw [a, b]
 rfl
theorem afS (h : zF rows wd x y = true) : yk rows wd cut x y 1 = (hiB rows cut x y != hiB rows cut x (y + 1)) := by
 obtain ⟨a, b, c, d⟩ := cell_in h
 unfold yk vk
 show (decide ((1 : Int) = 0 \/ (1 : Int) = 1) && (zM rows wd x y && zM rows wd x (y + 1)) && _) = _
 rw [a, d]
 rfl
theorem adG (h : zF rows wd x y = true) : yk rows wd cut x (y + 1) 0 = (hiB rows cut x (y + 1) != hiB rows cut (x + 1) (y + 1)) := by
 obtain ⟨a, b, c, d⟩ := cell_in h
 unfold yk vk
 show (decide ((0 : Int) = 0 \/ (0 : Int) = 1) && (zM rows wd x (y + 1) && zM rows wd (x + 1) (y + 1)) && _) = _
 rw [c, d]
 rfl
theorem adH (h : zF rows wd x y = true) : yk rows wd cut (x + 1) y 1 = (hiB rows cut (x + 1) y != hiB rows cut (x + 1) (y + 1)) := by
 obtain ⟨a, b, c, d⟩ := cell_in h
 unfold yk vk
 show (decide ((1 : Int) = 0 \/ (1 : Int) = 1) && (zM rows wd (x + 1) y && zM rows wd (x + 1) (y + 1)) && _) = _
 rw [b, c]
 rfl
end
def cg (x y : Int) : List (Int × Int × Int) := [(x, y, 0), (x, y, 1), (x, y + 1, 0), (x + 1, y, 1)]
def yP (rows : List (List Int)) (wd : Nat) (cut x y : Int) : Bool := (cg x y).all (opG rows wd cut)
def aoD (rows : List (List Int)) (x y : Int) : Int := zZ rows x y + (zZ rows (x + 1) y + (zZ rows (x + 1) (y + 1) + (zZ rows x (y + 1) + 0)))
def vQ (rows : List (List Int)) (cut x y : Int) : Bool := decide (4 * cut + 2 <= aoD rows x y)
def pairD (g h : Int × Int × Int) : PyData := .tuple [gD3 g, gD3 h]
abbrev abM (K : ao0) : Sp := spD K 3 (fun (c : List (List Int) × Nat × Int × Int) xs => xs = [.dat (tab c.1), .dat (.int c.2.2.1), .dat (.int c.2.2.2)] /\ Good c.2.1 c.1) fun c r => r = .bool (zF c.1 c.2.1 c.2.2.1 c.2.2.2)
theorem als (F : Def K mg "has_cell" qt ph) (uak : FnIn P w K mg base k "has_point" ph (aeU K)) : FnIn P w K mg base (k + 1) "has_cell" ph (abM K) := by
 refine F.ok aeH rfl fun fa cdv A outer s H E hr => ⟨_, (zg (zu (acO (zd uak hr rfl (za (pv 0) (za (pv 1) (za (pv 2) zb)))) (afe (zd uak hr rfl (za (pv 0) (za (zq zQ (pv 1) ze) (za (zq zQ (pv 2) ze) zb)))))))), ?_⟩
 rintro f xs ⟨rows, wd, x, y⟩ hl ⟨rfl, g⟩
 try dsimp only [zI, zj]
 dsimp only at *
 refine ya (afo (zm (rows, wd, x, y) ?_))
 walk_at "w"
 rintro _ rfl
 dsimp only
 refine ⟨_, rfl, ?_⟩
 refine yq (fun h => ?_) fun h => ?_
 ·refine zm (rows, wd, x + 1, y + 1) ?_
  walk_at "w"
  rintro _ rfl
  dsimp only
  unfold zF
  rw [h, ari]
 ·unfold zF
  rw [h, aqS]
abbrev acF (K : ao0) : Sp := spD K 2 (fun (c : Int × Int) xs => xs = [.dat (.int c.1), .dat (.int c.2)]) fun c r => r = .list [.tuple [.int c.1, .int c.2], .tuple [.int (c.1 + 1), .int c.2], .tuple [.int (c.1 + 1), .int (c.2 + 1)], .tuple [.int c.1, .int (c.2 + 1)]]
theorem afT (F : Def K mg "corners" qY pJ) : FnIn P w K mg base (k + 1) "corners" pJ (acF K) := by
 refine F.ok afH rfl fun fa cdv A outer s H E hr => ⟨_, (zg (zu (zV (za (zz (za (pv 0) (za (pv 1) zb))) (za (zz (za (zq zQ (pv 0) ze) (za (pv 1) zb))) (za (zz (za (zq zQ (pv 0) ze) (za (zq zQ (pv 1) ze) zb))) (za (zz (za (pv 0) (za (zq zQ (pv 1) ze) zb))) zb))))))), ?_⟩
 rintro f xs ⟨x, y⟩ hl rfl
 try dsimp only [zI, zj]
 dsimp only at *
 walk_at "w"
 rfl
abbrev aaf (K : ao0) : Sp := spD K 1 (fun (c : Int × Int) xs => xs = [.dat (.tuple [.int c.1, .int c.2])]) fun c r => r = .list ((cg c.1 c.2).map gD3)
theorem aib (F : Def K mg "cell_gates" jh ["cell"]) : FnIn P w K mg base (k + 1) "cell_gates" ["cell"] (aaf K) := by
 refine F.ok sc_cell_gates rfl fun fa cdv A outer s H E hr => ⟨_, (zc (yg (pv 0) (zT (K := K) (n := 2) rfl rfl (zo (zk (i := 1) sc_cell_gates.nd rfl (Or.inl rfl) (Or.inr rfl)) (zo (zk (i := 2) sc_cell_gates.nd rfl (Or.inl rfl) (Or.inr rfl)) zN)))) (zg (zu (zV (za (zz (za (pv 1) (za (pv 2) (za ze zb)))) (za (zz (za (pv 1) (za (pv 2) (za ze zb)))) (za (zz (za (pv 1) (za (zq zQ (pv 2) ze) (za ze zb)))) (za (zz (za (zq zQ (pv 1) ze) (za (pv 2) (za ze zb)))) zb)))))))), ?_⟩
 rintro f xs ⟨x, y⟩ hl rfl
 try dsimp only [zI, zj]
 dsimp only at *
 walk_at "w"
 rfl
abbrev alu (c : CC) (xs : List DV) : Prop := xs = [.dat (tab c.1), .dat (.int c.2.2.1), .dat (.tuple [.int c.2.2.2.1, .int c.2.2.2.2])] /\ Good c.2.1 c.1 /\ zF c.1 c.2.1 c.2.2.2.1 c.2.2.2.2 = true
abbrev aay (K : ao0) : Sp := spD K 3 alu fun c r => r = .bool (yP c.1 c.2.1 c.2.2.1 c.2.2.2.1 c.2.2.2.2)
theorem afU (F : Def K mg "is_crossed" ji pq) (uaB : mg "all" = none) (uav : FnIn P w K mg base k "is_open" pf (abJ K)) (uaL : FnIn P w K mg base k "cell_gates" ["cell"] (aaf K)) : FnIn P w K mg base (k + 1) "is_crossed" pq (aay K) := by
 refine F.ok ab5 rfl fun fa cdv A outer s H E hr => ⟨_, (zg (zu (zx (acj (K := K) rfl rfl) rfl uaB asI (za (yv (N := pH) (own := 1) (fr := [0, 1]) ⟨rfl, by decide +kernel, of_decide_eq_true (by kernel_rfl), of_decide_eq_true (by kernel_rfl), of_decide_eq_true (by kernel_rfl), rfl⟩ rfl (zY (K := K) rfl (zd uaL hr rfl (za (pv 2) zb))) (fun _ _ _ _ => (zk (i := 0) (show (pH : List Str).Nodup by decide +kernel) rfl (Or.inl rfl) (Or.inr rfl))) (fun _ _ _ _ => yJ) (fun _ _ _ _ => (zd uav hr rfl (za (pv 1) (za (pv 2) (za (pv 0) zb))))) rfl rfl (fun _ => rfl)) zb)))), ?_⟩
 rintro f xs ⟨rows, wd, cut, x, y⟩ hl ⟨rfl, g, hc⟩
 try dsimp only [zI, zj]
 dsimp only at *
 refine ya (ama (PEdO.ped (aee (A := gD3) (B := fun q => PyData.bool (opG rows wd cut q)) (cg x y) (yy (zm (x, y) ?_)))))
 walk_at "w"
 rintro _ rfl
 refine ⟨_, rfl, rfl, show 4 <= 1000 by decide, ?_, ?_⟩
 ·rintro D q ρ' es hq ho hes
  obtain ⟨u, rfl⟩ := ho.one
  refine zi (qL ?_)
  rw [if_pos rfl]
  refine yF hes (zm (rows, wd, cut, q.1, q.2.1, q.2.2) ?_)
  unfold gD3
  walk_at "w"
  rintro _ rfl
  exact ⟨.mk1, rfl⟩
 ·refine ⟨(cg x y).map (opG rows wd cut), by rw [aqL]; rfl, ?_⟩
  show PyData.bool _ = PyData.bool _
  unfold yP
  rw [List.all_map]
  rfl
abbrev ajO (K : ao0) : Sp := spD K 3 alu fun c r => r = .bool (vQ c.1 c.2.2.1 c.2.2.2.1 c.2.2.2.2)
theorem anE (F : Def K mg "has_high_middle" yA pq) (uaZ : mg "sum" = none) (ubW : FnIn P w K mg base k "corners" pJ (acF K)) : FnIn P w K mg base (k + 1) "has_high_middle" pq (ajO K) := by
 refine F.ok sc_has_high_middle rfl fun fa cdv A outer s H E hr => ⟨_, (zc (yg (pv 2) (zT (K := K) (n := 2) rfl rfl (zo (zk (i := 3) sc_has_high_middle.nd rfl (Or.inl rfl) (Or.inr rfl)) (zo (zk (i := 4) sc_has_high_middle.nd rfl (Or.inl rfl) (Or.inr rfl)) zN)))) (zg (zu (qh al3 (zx (aft (K := K) rfl rfl) rfl uaZ PyProof.Rows.boot_sum (za (yv (N := pG) (own := 2) (fr := [0]) ⟨rfl, by decide +kernel, of_decide_eq_true (by kernel_rfl), of_decide_eq_true (by kernel_rfl), of_decide_eq_true (by kernel_rfl), rfl⟩ rfl (zY (K := K) rfl (zd ubW hr rfl (za (pv 3) (za (pv 4) zb)))) (fun _ _ _ _ => (zT (K := K) (n := 2) rfl rfl (zo (zk (i := 0) (show (pG : List Str).Nodup by decide +kernel) rfl (Or.inl rfl) (Or.inr rfl)) (zo (zk (i := 1) (show (pG : List Str).Nodup by decide +kernel) rfl (Or.inl rfl) (Or.inr rfl)) zN)))) (fun _ _ _ _ => yJ) (fun _ _ _ _ => (zS (zD (K := K) rfl) (zS (zD (K := K) rfl) (pv 2) (pv 1) (fun _ _ => rfl)) (pv 0) (fun _ _ => rfl))) rfl rfl (fun _ => rfl)) zb)) (zq zQ (zq vC ze (pv 1)) ze) (zR _))))), ?_⟩
 rintro f xs ⟨rows, wd, cut, x, y⟩ hl ⟨rfl, g, hc⟩
 try dsimp only [zI, zj]
 dsimp only at *
 obtain ⟨i1, i2, i3, i4⟩ := cell_in hc
 refine zW (zE (zh rfl (yH rfl (zt (zi (zt (zi (z9 ?_))))))))
 refine ya (agi (aoq (PEdO.ped (aee (A := fun p : Int × Int => PyData.tuple [.int p.1, .int p.2]) (B := fun p : Int × Int => PyData.int (zZ rows p.1 p.2)) [(x, y), (x + 1, y), (x + 1, y + 1), (x, y + 1)] (yy (zm (x, y) ?_))))))
 walk_at "w"
 rintro _ rfl
 refine ⟨_, rfl, rfl, show 4 <= 1000 by decide, ?_, ?_⟩
 ·rintro D p ρ' es hp ho hes
  obtain ⟨u, v, rfl⟩ := ho.two
  have hi : zM rows wd p.1 p.2 = true := by
   simp only [ao7, apZ, or_false] at hp
   rcases hp with rfl | rfl | rfl | rfl
   ·exact i1
   ·exact i2
   ·exact i3
   ·exact i4
  obtain ⟨r, h1, h2⟩ := abI g hi
  refine yH rfl (zt (zi (zt (zi (z9 (qL ?_))))))
  rw [if_pos rfl]
  refine yF hes ?_
  unfold tab
  walk_at "w"
  refine ⟨_, h1, ?_⟩
  walk_at "w"
  refine ⟨_, h2, ?_⟩
  exact ⟨.mk2, rfl⟩
 ·refine ⟨[zZ rows x y, zZ rows (x + 1) y, zZ rows (x + 1) (y + 1), zZ rows x (y + 1)], rfl, ?_⟩
  walk_at "w"
  rfl
def adI (rows : List (List Int)) (cut x y : Int) : List PyData := if (hiB rows cut x y == vQ rows cut x y) = true then [pairD (x, y, 0) (x + 1, y, 1), pairD (x, y, 1) (x, y + 1, 0)] else [pairD (x, y, 0) (x, y, 1), pairD (x, y + 1, 0) (x + 1, y, 1)]
def thr (rows : List (List Int)) (wd : Nat) (cut x y : Int) : List (Int × Int × Int) := (cg x y).filter (opG rows wd cut)
def ajP : List (Int × Int × Int) -> List PyData
 | a :: b :: _ => [pairD a b]
 | _ => []
def ag7 (rows : List (List Int)) (wd : Nat) (cut x y : Int) : List PyData := if yP rows wd cut x y = true then adI rows cut x y else ajP (thr rows wd cut x y)
theorem alv {rows : List (List Int)} {wd : Nat} {cut x y : Int} (h : zF rows wd x y = true) : thr rows wd cut x y = [] \/ ∃ a b r, thr rows wd cut x y = a :: b :: r := by
 have e1 : opG rows wd cut (x, y, 0) = _ := adF (cut := cut) h
 have e2 : opG rows wd cut (x, y, 1) = _ := afS (cut := cut) h
 have e3 : opG rows wd cut (x, y + 1, 0) = _ := adG (cut := cut) h
 have e4 : opG rows wd cut (x + 1, y, 1) = _ := adH (cut := cut) h
 unfold thr cg
 simp only [apQ, e1, e2, e3, e4, asG]
 cases hiB rows cut x y <;> cases hiB rows cut (x + 1) y <;> cases hiB rows cut (x + 1) (y + 1) <;> cases hiB rows cut x (y + 1) <;> simp
abbrev aeY (K : ao0) : Sp := spN K 3 alu fun c es => es = adI c.1 c.2.2.1 c.2.2.2.1 c.2.2.2.2
theorem aic (F : Def K mg "crossed_ties" yO pq) (uaL : FnIn P w K mg base k "cell_gates" ["cell"] (aaf K)) (uag : FnIn P w K mg base k "stands_high" pB (vP K)) (ua0 : FnIn P w K mg base k "has_high_middle" pq (ajO K)) : FnIn P w K mg base (k + 1) "crossed_ties" pq (aeY K) := by
 refine F.okN sc_crossed_ties rfl fun fa cdv A outer s H E hr => ⟨_, (zc (yg (zd uaL hr rfl (za (pv 2) zb)) (acZ (K := K) (n := 4) rfl rfl (zo (zk (i := 3) sc_crossed_ties.nd rfl (Or.inl rfl) (Or.inr rfl)) (zo (zk (i := 4) sc_crossed_ties.nd rfl (Or.inl rfl) (Or.inr rfl)) (zo (zk (i := 5) sc_crossed_ties.nd rfl (Or.inl rfl) (Or.inr rfl)) (zo (zk (i := 6) sc_crossed_ties.nd rfl (Or.inl rfl) (Or.inr rfl)) zN)))))) (zc (yz (zL (vF (K := K) rfl hr.units) (zd uag hr rfl (za (pv 0) (za (pv 1) (za (pv 2) zb)))) (zd ua0 hr rfl (za (pv 0) (za (pv 1) (za (pv 2) zb)))) (zR _)) (zg (zu (zV (za (zz (za (pv 3) (za (pv 6) zb))) (za (zz (za (pv 4) (za (pv 5) zb))) zb))))) zO) (zg (zu (zV (za (zz (za (pv 3) (za (pv 4) zb))) (za (zz (za (pv 5) (za (pv 6) zb))) zb))))))), ?_⟩
 rintro f xs ⟨rows, wd, cut, x, y⟩ hl ⟨rfl, g, hc⟩
 try dsimp only [zI, zj]
 dsimp only at *
 have hi := (cell_in hc).1
 refine aaH (zE (zm (x, y) ?_))
 walk_at "w"
 rintro _ rfl
 refine aiZ rfl (zt (zi (zt (zi (zt (zi (zt (zi (z9 ?_)))))))))
 refine amc (yt (jb (zm (rows, wd, cut, x, y) ?_)))
 walk_at "w"
 rintro _ rfl
 refine zm (rows, wd, cut, x, y) ?_
 walk_at "w"
 rintro _ rfl
 dsimp only
 walk_at "w"
 rw [if_neg aoY, aeT]
 unfold adI
 refine yq (fun h => ?_) fun h => ?_
 ·rw [if_pos (show (hiB rows cut x y == vQ rows cut x y) = true from h)]
  refine acm ?_
  walk_at "w"
  rfl
 ·rw [if_neg (show ¬ (hiB rows cut x y == vQ rows cut x y) = true from by rw [show (hiB rows cut x y == vQ rows cut x y) = false from h]; exact aoY)]
  refine aei (acm ?_)
  walk_at "w"
  rfl
abbrev adJ (K : ao0) : Sp := spN K 3 alu fun c es => es = ag7 c.1 c.2.1 c.2.2.1 c.2.2.2.1 c.2.2.2.2
theorem ajQ (F : Def K mg "cell_ties" jL pq) (ua1 : FnIn P w K mg base k "is_crossed" pq (aay K)) (ubX : FnIn P w K mg base k "crossed_ties" pq (aeY K)) (uaL : FnIn P w K mg base k "cell_gates" ["cell"] (aaf K)) (uav : FnIn P w K mg base k "is_open" pf (abJ K)) : FnIn P w K mg base (k + 1) "cell_ties" pq (adJ K) := by
 refine F.okN sc_cell_ties rfl fun fa cdv A outer s H E hr => ⟨_, (zc (yz (z7 (K := K) rfl (zd ua1 hr rfl (za (pv 0) (za (pv 1) (za (pv 2) zb)))) (fun _ => rfl)) (zg (zu (zd ubX hr rfl (za (pv 0) (za (pv 1) (za (pv 2) zb)))))) zO) (zc (jF (i := 3) (N := pH) (own := 1) (fr := [0, 1]) ⟨rfl, by decide +kernel, of_decide_eq_true (by kernel_rfl), of_decide_eq_true (by kernel_rfl), of_decide_eq_true (by kernel_rfl), rfl⟩ rfl sc_cell_ties.nd rfl (Or.inl rfl) (zY (K := K) rfl (zd uaL hr rfl (za (pv 2) zb))) (fun _ _ _ _ => (zk (i := 0) (show (pH : List Str).Nodup by decide +kernel) rfl (Or.inl rfl) (Or.inr rfl))) (fun _ _ _ _ => (jE (z7 (K := K) rfl (zd uav hr rfl (za (pv 1) (za (pv 2) (za (pv 0) zb)))) (fun _ => rfl)))) (fun _ _ _ _ => (pv 0)) rfl rfl (fun _ => rfl) (Or.inl rfl) rfl) (zg (zu (qI (z7 (K := K) rfl (pv 3) (fun _ => rfl)) (zV (za (zz (za (zS (zD (K := K) rfl) (pv 3) ze (fun _ _ => rfl)) (za (zS (zD (K := K) rfl) (pv 3) ze (fun _ _ => rfl)) zb))) zb)) (zV zb)))))), ?_⟩
 rintro f xs ⟨rows, wd, cut, x, y⟩ hl ⟨rfl, g, hc⟩
 try dsimp only [zI, zj]
 dsimp only at *
 refine amc (yN (zm (rows, wd, cut, x, y) ?_))
 walk_at "w"
 rintro _ rfl
 dsimp only
 refine ⟨_, rfl, ?_⟩
 unfold ag7
 refine yq (fun h => ?_) fun h => ?_
 ·rw [if_pos h]
  refine vG (rows, wd, cut, x, y) ?_
  walk_at "w"
  exact fun es he => he
 ·rw [if_neg (by rw [h]; exact aoY)]
  refine aaH (zE (PEdO.ped (qK (yy (zm (x, y) ?_)))))
  walk_at "w"
  rintro _ rfl
  refine ⟨_, rfl, fun n ρ es => (∃ u, ρ = [u, some (.dat (tab rows)), some (.dat (.int cut))]) /\ es = (((cg x y).take n).filter (opG rows wd cut)).map gD3, ⟨⟨_, rfl⟩, rfl⟩, ?_, ?_⟩
  ·rintro D n d ρ' es hd ⟨⟨u, rfl⟩, rfl⟩
   rw [ao8] at hd
   cases hq : (cg x y)[n]? with
   | none => rw [hq] at hd; cases hd
   | some q =>
    rw [hq] at hd
    cases hd
    have hn : n < (cg x y).length := (ao1.mp hq).1
    have n4 : n < 4 := hn
    have tk : (cg x y).take (n + 1) = (cg x y).take n ++ [q] := by
     rw [arB, hq]
     rfl
    have len : ((((cg x y).take n).filter (opG rows wd cut)).map gD3).length < 1000 := by
     rw [aoZ]
     have a1 := apK (opG rows wd cut) ((cg x y).take n)
     rw [apP] at a1
     omega
    refine zi (yN (zm (rows, wd, cut, q.1, q.2.1, q.2.2) ?_))
    unfold gD3 at *
    walk_at "w"
    rintro _ rfl
    dsimp only
    refine ⟨_, rfl, ?_⟩
    refine yq (fun h => ?_) fun h => ?_
    ·refine yF len ?_
     walk_at "w"
     rw [tk, apU, aps, apQ, show opG rows wd cut q = true from h, if_pos rfl]
     rfl
    ·refine ⟨⟨_, rfl⟩, ?_⟩
     rw [tk, apU, aps, apQ, show opG rows wd cut q = false from h, if_neg aoY]
     simp
  ·rintro ρ' es ⟨_, rfl⟩
   rw [aoZ, apM]
   rw [show List.filter (opG rows wd cut) (cg (x, y).1 (x, y).2) = thr rows wd cut x y from rfl]
   rcases alv (cut := cut) hc with e | ⟨a, b, r, e⟩
   ·rw [e]
    refine zi (aei (amd (yN (zh rfl ⟨false, rfl, ?_⟩))))
    rw [if_neg aoY]
    exact al9 rfl
   ·rw [e]
    have h0 : atI ((a :: b :: r).map gD3) 0 = some (gD3 a) := yX (xs := a :: b :: r) (j := 0) rfl (arY _)
    have h1 : atI ((a :: b :: r).map gD3) 1 = some (gD3 b) := yX (xs := a :: b :: r) (j := 1) rfl (Nat.succ_lt_succ (arY _))
    refine zi (aei (amd (yN (zh rfl ⟨true, rfl, ?_⟩))))
    rw [if_pos rfl]
    refine acm ?_
    walk_at "w"
    refine ⟨_, h0, ?_⟩
    walk_at "w"
    refine ⟨_, h1, ?_⟩
    walk_at "w"
    rfl
def opF (A B C D : Bool) (i : Fin 4) : Bool := match i with
 | 0 => A != B
 | 1 => A != D
 | 2 => D != C
 | 3 => B != C
def enF (A B C D : Bool) (i : Fin 4) : Bool := match i with
 | 0 => !A
 | 1 => A
 | 2 => D
 | 3 => !B
def abN (A B C D M : Bool) : List (Fin 4 × Fin 4) :=
 if (opF A B C D 0 && opF A B C D 1 && opF A B C D 2 && opF A B C D 3) = true then (if (A == M) = true then [(0, 3), (1, 2)] else [(0, 1), (2, 3)]) else
 match ([0, 1, 2, 3] : List (Fin 4)).filter (opF A B C D) with
 | a :: b :: _ => [(a, b)]
 | _ => []
def prt {α : Type} [DecidableEq α] (l : List (α × α)) (g : α) : Option α := l.findSome? fun p => if p.1 = g then some p.2 else if p.2 = g then some p.1 else none
theorem alw : ∀ (A B C D M : Bool) (i : Fin 4), opF A B C D i = true -> ∃ j, prt (abN A B C D M) i = some j /\ j ≠ i /\ opF A B C D j = true /\ prt (abN A B C D M) j = some i /\ enF A B C D j = !enF A B C D i := by decide
theorem aeZ : ∀ (A B C D M : Bool), abN A B C D M = [] \/ (∃ a b, a ≠ b /\ abN A B C D M = [(a, b)]) \/ ∃ a b c d, a ≠ b /\ a ≠ c /\ a ≠ d /\ b ≠ c /\ b ≠ d /\ c ≠ d /\ abN A B C D M = [(a, b), (c, d)] := by decide
abbrev Gt := Int × Int × Int
def gt (x y : Int) (i : Fin 4) : Gt := match i with
 | 0 => (x, y, 0)
 | 1 => (x, y, 1)
 | 2 => (x, y + 1, 0)
 | 3 => (x + 1, y, 1)
theorem adK {x y : Int} {i j : Fin 4} (h : gt x y i = gt x y j) : i = j := by
 have h1 : (gt x y i).1 = (gt x y j).1 := by rw [h]
 have h2 : (gt x y i).2.1 = (gt x y j).2.1 := by rw [h]
 have h3 : (gt x y i).2.2 = (gt x y j).2.2 := by rw [h]
 revert h1 h2 h3
 clear h
 match i, j with
 | 0, 0 => intros; rfl
 | 0, 1 => intro _ _ h; simp [gt] at h
 | 0, 2 => intro _ h _; simp [gt] at h; omega
 | 0, 3 => intro _ _ h; simp [gt] at h
 | 1, 0 => intro _ _ h; simp [gt] at h
 | 1, 1 => intros; rfl
 | 1, 2 => intro _ _ h; simp [gt] at h
 | 1, 3 => intro h _ _; simp [gt] at h; omega
 | 2, 0 => intro _ h _; simp [gt] at h; omega
 | 2, 1 => intro _ _ h; simp [gt] at h
 | 2, 2 => intros; rfl
 | 2, 3 => intro _ _ h; simp [gt] at h
 | 3, 0 => intro _ _ h; simp [gt] at h
 | 3, 1 => intro h _ _; simp [gt] at h; omega
 | 3, 2 => intro _ _ h; simp [gt] at h
 | 3, 3 => intros; rfl
theorem ag8 {α β : Type} [DecidableEq α] [DecidableEq β] {f : α -> β} (inj : ∀ i j, f i = f j -> i = j) (l : List (α × α)) (i : α) : prt (l.map fun p => (f p.1, f p.2)) (f i) = (prt l i).map f := by
 unfold prt
 induction l with
 | nil => rfl
 | cons p l ih =>
  rw [apq, arf, arf]
  have e1 : (f p.1 = f i) ↔ p.1 = i := ⟨inj _ _, fun z => by rw [z]⟩
  have e2 : (f p.2 = f i) ↔ p.2 = i := ⟨inj _ _, fun z => by rw [z]⟩
  by_cases h1 : p.1 = i
  ·rw [if_pos h1, if_pos (e1.mpr h1)]; rfl
  ·rw [if_neg h1, if_neg (fun z => h1 (e1.mp z))]
   by_cases h2 : p.2 = i
   ·rw [if_pos h2, if_pos (e2.mpr h2)]; rfl
   ·rw [if_neg h2, if_neg (fun z => h2 (e2.mp z))]; exact ih
section
variable (rows : List (List Int)) (wd : Nat) (cut : Int)
def t4 (x y : Int) : List (Fin 4 × Fin 4) := abN (hiB rows cut x y) (hiB rows cut (x + 1) y) (hiB rows cut (x + 1) (y + 1)) (hiB rows cut x (y + 1)) (vQ rows cut x y)
def qe (x y : Int) : List (Gt × Gt) := (t4 rows cut x y).map fun p => (gt x y p.1, gt x y p.2)
def jC (w : Int) (h : Bool) : Int × Int := if w = 0 then (if h = true then (0, -1) else (0, 0)) else (if h = true then (0, 0) else (-1, 0))
def jD (w : Int) (h : Bool) : Int × Int := if w = 0 then (if h = true then (0, 0) else (0, -1)) else (if h = true then (-1, 0) else (0, 0))
def ahC (g : Gt) : Int × Int := (g.1 + (jC g.2.2 (hiB rows cut g.1 g.2.1)).1, g.2.1 + (jC g.2.2 (hiB rows cut g.1 g.2.1)).2)
def bhC (g : Gt) : Int × Int := (g.1 + (jD g.2.2 (hiB rows cut g.1 g.2.1)).1, g.2.1 + (jD g.2.2 (hiB rows cut g.1 g.2.1)).2)
def yb (g : Gt) : Option Gt := if zF rows wd (ahC rows cut g).1 (ahC rows cut g).2 = true then prt (qe rows cut (ahC rows cut g).1 (ahC rows cut g).2) g else none
def yE (g : Gt) : Option Gt := if zF rows wd (bhC rows cut g).1 (bhC rows cut g).2 = true then prt (qe rows cut (bhC rows cut g).1 (bhC rows cut g).2) g else none
end
section
variable {rows : List (List Int)} {wd : Nat} {cut x y : Int}
theorem aaz (h : zF rows wd x y = true) (i : Fin 4) : opG rows wd cut (gt x y i) = opF (hiB rows cut x y) (hiB rows cut (x + 1) y) (hiB rows cut (x + 1) (y + 1)) (hiB rows cut x (y + 1)) i := by
 match i with
 | 0 => exact adF h
 | 1 => exact afS h
 | 2 => exact adG h
 | 3 => exact adH h
theorem ag9 (i : Fin 4) : (ahC rows cut (gt x y i) = (x, y) ↔ enF (hiB rows cut x y) (hiB rows cut (x + 1) y) (hiB rows cut (x + 1) (y + 1)) (hiB rows cut x (y + 1)) i = true) /\ (bhC rows cut (gt x y i) = (x, y) ↔ enF (hiB rows cut x y) (hiB rows cut (x + 1) y) (hiB rows cut (x + 1) (y + 1)) (hiB rows cut x (y + 1)) i = false) := by
 unfold ahC bhC
 match i with
 | 0 =>
  show ((x + (jC 0 (hiB rows cut x y)).1, y + (jC 0 (hiB rows cut x y)).2) = (x, y) ↔ (!hiB rows cut x y) = true) /\ ((x + (jD 0 (hiB rows cut x y)).1, y + (jD 0 (hiB rows cut x y)).2) = (x, y) ↔ (!hiB rows cut x y) = false)
  cases hiB rows cut x y <;> simp [jC, jD] <;> omega
 | 1 =>
  show ((x + (jC 1 (hiB rows cut x y)).1, y + (jC 1 (hiB rows cut x y)).2) = (x, y) ↔ hiB rows cut x y = true) /\ ((x + (jD 1 (hiB rows cut x y)).1, y + (jD 1 (hiB rows cut x y)).2) = (x, y) ↔ hiB rows cut x y = false)
  cases hiB rows cut x y <;> simp [jC, jD] <;> omega
 | 2 =>
  show ((x + (jC 0 (hiB rows cut x (y + 1))).1, y + 1 + (jC 0 (hiB rows cut x (y + 1))).2) = (x, y) ↔ hiB rows cut x (y + 1) = true) /\ ((x + (jD 0 (hiB rows cut x (y + 1))).1, y + 1 + (jD 0 (hiB rows cut x (y + 1))).2) = (x, y) ↔ hiB rows cut x (y + 1) = false)
  cases hiB rows cut x (y + 1) <;> simp [jC, jD] <;> omega
 | 3 =>
  show ((x + 1 + (jC 1 (hiB rows cut (x + 1) y)).1, y + (jC 1 (hiB rows cut (x + 1) y)).2) = (x, y) ↔ (!hiB rows cut (x + 1) y) = true) /\ ((x + 1 + (jD 1 (hiB rows cut (x + 1) y)).1, y + (jD 1 (hiB rows cut (x + 1) y)).2) = (x, y) ↔ (!hiB rows cut (x + 1) y) = false)
  cases hiB rows cut (x + 1) y <;> simp [jC, jD] <;> omega
theorem aha (h : zF rows wd x y = true) {i : Fin 4} (o : opG rows wd cut (gt x y i) = true) : ∃ j, prt (qe rows cut x y) (gt x y i) = some (gt x y j) /\ j ≠ i /\ opG rows wd cut (gt x y j) = true /\ prt (qe rows cut x y) (gt x y j) = some (gt x y i) /\
  (ahC rows cut (gt x y i) = (x, y) -> bhC rows cut (gt x y j) = (x, y)) /\ (bhC rows cut (gt x y i) = (x, y) -> ahC rows cut (gt x y j) = (x, y)) := by
 rw [aaz h] at o
 obtain ⟨j, h1, h2, h3, h4, h5⟩ := alw _ _ _ _ (vQ rows cut x y) i o
 have inj : ∀ i j, gt x y i = gt x y j -> i = j := fun _ _ => adK
 refine ⟨j, ?_, h2, by rw [aaz h]; exact h3, ?_, fun z => ?_, fun z => ?_⟩
 ·unfold qe t4
  rw [ag8 inj, h1]
  rfl
 ·unfold qe t4
  rw [ag8 inj, h4]
  rfl
 ·rw [(ag9 j).2, h5, (ag9 i).1.mp z]
  rfl
 ·rw [(ag9 j).1, h5, (ag9 i).2.mp z]
  rfl
theorem ajR (g : Gt) (hw : g.2.2 = 0 \/ g.2.2 = 1) : ∃ i, g = gt (ahC rows cut g).1 (ahC rows cut g).2 i := by
 obtain ⟨x, y, w⟩ := g
 unfold ahC
 dsimp only at hw ⊢
 rcases hw with rfl | rfl
 ·cases hiB rows cut x y
  ·exact ⟨0, by simp [jC, gt]⟩
  ·exact ⟨2, by simp [jC, gt]; omega⟩
 ·cases hiB rows cut x y
  ·exact ⟨3, by simp [jC, gt]; omega⟩
  ·exact ⟨1, by simp [jC, gt]⟩
theorem aid (g : Gt) (hw : g.2.2 = 0 \/ g.2.2 = 1) : ∃ i, g = gt (bhC rows cut g).1 (bhC rows cut g).2 i := by
 obtain ⟨x, y, w⟩ := g
 unfold bhC
 dsimp only at hw ⊢
 rcases hw with rfl | rfl
 ·cases hiB rows cut x y
  ·exact ⟨2, by simp [jD, gt]; omega⟩
  ·exact ⟨0, by simp [jD, gt]⟩
 ·cases hiB rows cut x y
  ·exact ⟨1, by simp [jD, gt]⟩
  ·exact ⟨3, by simp [jD, gt]; omega⟩
theorem aaA {g : Gt} (o : opG rows wd cut g = true) : g.2.2 = 0 \/ g.2.2 = 1 := by
 unfold opG yk vk at o
 rw [ao6, ao6] at o
 exact of_decide_eq_true o.1.1
theorem vg {g : Gt} (o : opG rows wd cut g = true) (h : zF rows wd (ahC rows cut g).1 (ahC rows cut g).2 = true) : ∃ n, yb rows wd cut g = some n /\ n ≠ g /\ opG rows wd cut n = true /\ bhC rows cut n = ahC rows cut g /\ yE rows wd cut n = some g := by
 obtain ⟨i, ei⟩ := ajR (rows := rows) (cut := cut) g (aaA o)
 have o' := o
 rw [ei] at o'
 obtain ⟨j, h1, h2, h3, h4, h5, _⟩ := aha h o'
 rw [<- ei] at h1 h4 h5
 have hb := h5 rfl
 refine ⟨gt (ahC rows cut g).1 (ahC rows cut g).2 j, ?_, fun z => h2 (adK (z.trans ei)), h3, hb, ?_⟩
 ·unfold yb
  rw [if_pos h]
  exact h1
 ·unfold yE
  rw [hb, if_pos h]
  exact h4
theorem aa6 {g : Gt} (o : opG rows wd cut g = true) (h : zF rows wd (bhC rows cut g).1 (bhC rows cut g).2 = true) : ∃ n, yE rows wd cut g = some n /\ n ≠ g /\ opG rows wd cut n = true /\ ahC rows cut n = bhC rows cut g /\ yb rows wd cut n = some g := by
 obtain ⟨i, ei⟩ := aid (rows := rows) (cut := cut) g (aaA o)
 have o' := o
 rw [ei] at o'
 obtain ⟨j, h1, h2, h3, h4, _, h5⟩ := aha h o'
 rw [<- ei] at h1 h4 h5
 have hb := h5 rfl
 refine ⟨gt (bhC rows cut g).1 (bhC rows cut g).2 j, ?_, fun z => h2 (adK (z.trans ei)), h3, hb, ?_⟩
 ·unfold yE
  rw [if_pos h]
  exact h1
 ·unfold yb
  rw [hb, if_pos h]
  exact h4
theorem abO {g g' n : Gt} (o : opG rows wd cut g = true) (o' : opG rows wd cut g' = true) (h : yb rows wd cut g = some n) (h' : yb rows wd cut g' = some n) : g = g' := by
 have c : zF rows wd (ahC rows cut g).1 (ahC rows cut g).2 = true := by
  unfold yb at h
  by_cases z : zF rows wd (ahC rows cut g).1 (ahC rows cut g).2 = true
  ·exact z
  ·rw [if_neg z] at h; cases h
 have c' : zF rows wd (ahC rows cut g').1 (ahC rows cut g').2 = true := by
  unfold yb at h'
  by_cases z : zF rows wd (ahC rows cut g').1 (ahC rows cut g').2 = true
  ·exact z
  ·rw [if_neg z] at h'; cases h'
 obtain ⟨m, a1, _, _, _, a2⟩ := vg o c
 obtain ⟨m', b1, _, _, _, b2⟩ := vg o' c'
 rw [h] at a1
 rw [h'] at b1
 cases a1
 cases b1
 rw [a2] at b2
 exact Option.some.inj b2
theorem aaB {g n : Gt} (o : opG rows wd cut g = true) (h : yb rows wd cut g = some n) : opG rows wd cut n = true /\ n ≠ g := by
 have c : zF rows wd (ahC rows cut g).1 (ahC rows cut g).2 = true := by
  unfold yb at h
  by_cases z : zF rows wd (ahC rows cut g).1 (ahC rows cut g).2 = true
  ·exact z
  ·rw [if_neg z] at h; cases h
 obtain ⟨m, a1, a2, a3, _, _⟩ := vg o c
 rw [h] at a1
 cases a1
 exact ⟨a3, a2⟩
end
abbrev adL (K : ao0) : Sp := spD K 3 (fun (c : List (List Int) × Nat × Int × Int × Int × Int) xs => xs = [.dat (tab c.1), .dat (.int c.2.2.1), .dat (jR c.2.2.2.1 c.2.2.2.2.1 c.2.2.2.2.2)] /\ Good c.2.1 c.1 /\ zM c.1 c.2.1 c.2.2.2.1 c.2.2.2.2.1 = true) fun c r => r = .str (aad c.1 c.2.2.1 c.2.2.2.1 c.2.2.2.2.1 c.2.2.2.2.2)
theorem afV (F : Def K mg "heading" vb pf) (uag : FnIn P w K mg base k "stands_high" pB (vP K)) : FnIn P w K mg base (k + 1) "heading" pf (adL K) := by
 refine F.ok sc_heading rfl fun fa cdv A outer s H E hr => ⟨_, (zc (yg (pv 2) (zT (K := K) (n := 3) rfl rfl (zo (zk (i := 3) sc_heading.nd rfl (Or.inl rfl) (Or.inr rfl)) (zo (zk (i := 4) sc_heading.nd rfl (Or.inl rfl) (Or.inr rfl)) (zo (zk (i := 5) sc_heading.nd rfl (Or.inl rfl) (Or.inr rfl)) zN))))) (zc (zC (i := 6) sc_heading.nd rfl (Or.inl rfl) (zd uag hr rfl (za (pv 0) (za (pv 1) (za (zz (za (pv 3) (za (pv 4) zb))) zb))))) (zc (yz (zL (vF (K := K) rfl hr.units) (pv 5) ze (zR _)) (zg (zu (qI (z7 (K := K) rfl (pv 6) (fun _ => rfl)) yL yL))) zO) (zg (zu (qI (z7 (K := K) rfl (pv 6) (fun _ => rfl)) yL yL)))))), ?_⟩
 rintro f xs ⟨rows, wd, cut, x, y, w⟩ hl ⟨rfl, g, hi⟩
 try dsimp only [zI, zj]
 dsimp only at *
 unfold jR
 refine zW (zE (zh rfl (yH rfl (zt (zi (zt (zi (zt (zi (z9 ?_))))))))))
 refine zW (zE (zm (rows, wd, cut, x, y) ?_))
 walk_at "w"
 rintro _ rfl
 dsimp only
 walk_at "w"
 rw [if_neg aoY, adC]
 unfold aad
 refine yq (fun h => ?_) fun h => ?_
 ·have h' := of_decide_eq_true h
  rw [if_pos h']
  walk_at "w"
  refine yq (fun h2 => ?_) fun h2 => ?_
  ·walk_at "w"
   rw [if_pos (of_decide_eq_true h2)]
  ·walk_at "w"
   rw [if_neg (of_decide_eq_false h2)]
 ·have h' := of_decide_eq_false h
  rw [if_neg h']
  walk_at "w"
  refine yq (fun h2 => ?_) fun h2 => ?_
  ·walk_at "w"
   rw [if_pos (of_decide_eq_true h2)]
  ·walk_at "w"
   rw [if_neg (of_decide_eq_false h2)]
abbrev anF : List (Str × List Int) := [("down", [0, 0]), ("up", [0, -1]), ("right", [0, 0]), ("left", [-1, 0])]
abbrev ajS : List (Str × List Int) := [("down", [0, -1]), ("up", [0, 0]), ("right", [-1, 0]), ("left", [0, 0])]
theorem anG {rows : List (List Int)} {cut x y w : Int} (hw : w = 0 \/ w = 1) : asR (aad rows cut x y w) anF = some [(jC w (hiB rows cut x y)).1, (jC w (hiB rows cut x y)).2] := by
 unfold aad jC hiB
 rcases hw with rfl | rfl
 ·by_cases h : cut < zZ rows x y
  ·rw [if_pos rfl, if_pos h, if_pos rfl, decide_eq_true h, if_pos rfl]; decide +kernel
  ·rw [if_pos rfl, if_neg h, if_pos rfl, decide_eq_false h, if_neg aoY]; decide +kernel
 ·have e : ¬ ((1 : Int) = 0) := by decide
  by_cases h : cut < zZ rows x y
  ·rw [if_neg e, if_pos h, if_neg e, decide_eq_true h, if_pos rfl]; decide +kernel
  ·rw [if_neg e, if_neg h, if_neg e, decide_eq_false h, if_neg aoY]; decide +kernel
theorem anH {rows : List (List Int)} {cut x y w : Int} (hw : w = 0 \/ w = 1) : asR (aad rows cut x y w) ajS = some [(jD w (hiB rows cut x y)).1, (jD w (hiB rows cut x y)).2] := by
 unfold aad jD hiB
 rcases hw with rfl | rfl
 ·by_cases h : cut < zZ rows x y
  ·rw [if_pos rfl, if_pos h, if_pos rfl, decide_eq_true h, if_pos rfl]; decide +kernel
  ·rw [if_pos rfl, if_neg h, if_pos rfl, decide_eq_false h, if_neg aoY]; decide +kernel
 ·have e : ¬ ((1 : Int) = 0) := by decide
  by_cases h : cut < zZ rows x y
  ·rw [if_neg e, if_pos h, if_neg e, decide_eq_true h, if_pos rfl]; decide +kernel
  ·rw [if_neg e, if_neg h, if_neg e, decide_eq_false h, if_neg aoY]; decide +kernel
theorem ajT {rows : List (List Int)} {wd : Nat} {cut : Int} {g : Gt} (o : opG rows wd cut g = true) : zM rows wd g.1 g.2.1 = true := by
 unfold opG yk vk at o
 rw [ao6, ao6, ao6] at o
 exact o.1.2.1
abbrev GO := List (List Int) × Nat × Int × Gt
abbrev aie (c : GO) (xs : List DV) : Prop := xs = [.dat (tab c.1), .dat (.int c.2.2.1), .dat (gD3 c.2.2.2)] /\ Good c.2.1 c.1 /\ opG c.1 c.2.1 c.2.2.1 c.2.2.2 = true
abbrev ae0 (K : ao0) : Sp := spD K 3 aie fun c r => r = .tuple [.int (ahC c.1 c.2.2.1 c.2.2.2).1, .int (ahC c.1 c.2.2.1 c.2.2.2).2]
theorem aif {uaM : Addr} (F : Def K mg "cell_ahead" jj pf) (ua2 : mg "AHEAD" = some (.ref uaM)) (uaN : ahM K uaM anF = true) (uaO : FnIn P w K mg base k "heading" pf (adL K)) : FnIn P w K mg base (k + 1) "cell_ahead" pf (ae0 K) := by
 refine F.ok sc_cell_ahead rfl fun fa cdv A outer s H E hr => ⟨_, (zc (yg (ajp (K := K) rfl rfl ua2 uaN (zd uaO hr rfl (za (pv 0) (za (pv 1) (za (pv 2) zb)))) (fun _ _ => rfl)) (zT (K := K) (n := 2) rfl rfl (zo (zk (i := 3) sc_cell_ahead.nd rfl (Or.inl rfl) (Or.inr rfl)) (zo (zk (i := 4) sc_cell_ahead.nd rfl (Or.inl rfl) (Or.inr rfl)) zN)))) (zg (zu (zz (za (zq zQ (zS (je (K := K) rfl) (pv 2) ze (fun _ _ => rfl)) (pv 3)) (za (zq zQ (zS (je (K := K) rfl) (pv 2) ze (fun _ _ => rfl)) (pv 4)) zb)))))), ?_⟩
 rintro f xs ⟨rows, wd, cut, x, y, w⟩ hl ⟨rfl, g, o⟩
 try dsimp only [zI, zj]
 dsimp only at *
 have hw := aaA o
 have hin := ajT o
 refine zW (zE (amh (zm (rows, wd, cut, x, y, w) ?_)))
 unfold gD3 at *
 walk_at "w"
 rintro _ rfl
 refine ⟨_, _, rfl, anG hw, ?_⟩
 refine yH rfl (zt (zi (zt (zi (z9 ?_)))))
 walk_at "w"
 rfl
abbrev ahb (K : ao0) : Sp := spD K 3 aie fun c r => r = .bool (!zF c.1 c.2.1 (bhC c.1 c.2.2.1 c.2.2.2).1 (bhC c.1 c.2.2.1 c.2.2.2).2)
theorem ajU {uaP : Addr} (F : Def K mg "comes_in" qx pf) (ua3 : mg "BEHIND" = some (.ref uaP)) (uaQ : ahM K uaP ajS = true) (uaO : FnIn P w K mg base k "heading" pf (adL K)) (uaw : FnIn P w K mg base k "has_cell" ph (abM K)) : FnIn P w K mg base (k + 1) "comes_in" pf (ahb K) := by
 refine F.ok sc_comes_in rfl fun fa cdv A outer s H E hr => ⟨_, (zc (yg (ajp (K := K) rfl rfl ua3 uaQ (zd uaO hr rfl (za (pv 0) (za (pv 1) (za (pv 2) zb)))) (fun _ _ => rfl)) (zT (K := K) (n := 2) rfl rfl (zo (zk (i := 3) sc_comes_in.nd rfl (Or.inl rfl) (Or.inr rfl)) (zo (zk (i := 4) sc_comes_in.nd rfl (Or.inl rfl) (Or.inr rfl)) zN)))) (zg (zu (amy (zd uaw hr rfl (za (pv 0) (za (zq zQ (zS (je (K := K) rfl) (pv 2) ze (fun _ _ => rfl)) (pv 3)) (za (zq zQ (zS (je (K := K) rfl) (pv 2) ze (fun _ _ => rfl)) (pv 4)) zb)))))))), ?_⟩
 rintro f xs ⟨rows, wd, cut, x, y, w⟩ hl ⟨rfl, g, o⟩
 try dsimp only [zI, zj]
 dsimp only at *
 have hw := aaA o
 have hin := ajT o
 refine zW (zE (amh (zm (rows, wd, cut, x, y, w) ?_)))
 unfold gD3 at *
 walk_at "w"
 rintro _ rfl
 refine ⟨_, _, rfl, anH hw, ?_⟩
 refine yH rfl (zt (zi (zt (zi (z9 ?_)))))
 walk_at "w"
 refine zm (rows, wd, (bhC rows cut (x, y, w)).1, (bhC rows cut (x, y, w)).2) ?_
 walk_at "w"
 rintro _ rfl
 exact ⟨_, rfl, rfl⟩
noncomputable def vA : List (Gt × Gt) -> List (PyData × PyData) -> List (PyData × PyData)
 | [], kvs => kvs
 | p :: l, kvs => vA l (dput (gD3 p.2) (gD3 p.1) (dput (gD3 p.1) (gD3 p.2) kvs))
theorem afW (l : List (Gt × Gt)) (p : Gt × Gt) : ∀ kvs, vA (l ++ [p]) kvs = dput (gD3 p.2) (gD3 p.1) (dput (gD3 p.1) (gD3 p.2) (vA l kvs)) := by
 induction l with
 | nil => intro kvs; rfl
 | cons q l ih => intro kvs; exact ih _
theorem abP (a b : PyData) (kvs : List (PyData × PyData)) : (dput a b kvs).length <= kvs.length + 1 := by
 unfold dput
 split
 ·rw [aoZ]; omega
 ·rw [aph]; exact ao5 _
theorem aih (l : List (Gt × Gt)) : ∀ kvs, (vA l kvs).length <= kvs.length + 2 * l.length := by
 induction l with
 | nil => intro kvs; exact ao5 _
 | cons q l ih =>
  intro kvs
  have h1 := ih (dput (gD3 q.2) (gD3 q.1) (dput (gD3 q.1) (gD3 q.2) kvs))
  have h2 := abP (gD3 q.2) (gD3 q.1) (dput (gD3 q.1) (gD3 q.2) kvs)
  have h3 := abP (gD3 q.1) (gD3 q.2) kvs
  show (vA l _).length <= _
  rw [apn]
  omega
theorem adM {a b : Gt} (h : gD3 a = gD3 b) : a = b := by
 obtain ⟨x, y, w⟩ := a
 obtain ⟨x', y', w'⟩ := b
 unfold gD3 jR at h
 simp at h
 simp [h]
theorem ajV {rows : List (List Int)} {wd : Nat} {cut x y : Int} (h : zF rows wd x y = true) : ag7 rows wd cut x y = (qe rows cut x y).map fun p => pairD p.1 p.2 := by
 have e0 : opG rows wd cut (x, y, 0) = _ := aaz (cut := cut) h 0
 have e1 : opG rows wd cut (x, y, 1) = _ := aaz (cut := cut) h 1
 have e2 : opG rows wd cut (x, y + 1, 0) = _ := aaz (cut := cut) h 2
 have e3 : opG rows wd cut (x + 1, y, 1) = _ := aaz (cut := cut) h 3
 unfold ag7 qe t4 yP adI thr cg abN
 simp only [asj, List.all_nil, apQ, asG, e0, e1, e2, e3, as0]
 generalize vQ rows cut x y = M
 generalize hiB rows cut x y = A
 generalize hiB rows cut (x + 1) y = B
 generalize hiB rows cut (x + 1) (y + 1) = C
 generalize hiB rows cut x (y + 1) = D
 cases A <;> cases B <;> cases C <;> cases D <;> cases M <;> rfl
theorem ajW {rows : List (List Int)} {cut x y : Int} {g n : Gt} (h : prt (qe rows cut x y) g = some n) : jf (gD3 g) (vA (qe rows cut x y) []) = some (gD3 n) := by
 have key : ∀ a b : Gt, a ≠ b -> gD3 a ≠ gD3 b := fun a b ne z => ne (adM z)
 have inj : ∀ i j : Fin 4, i ≠ j -> gt x y i ≠ gt x y j := fun i j ne z => ne (adK z)
 unfold qe t4 at h ⊢
 rcases aeZ (hiB rows cut x y) (hiB rows cut (x + 1) y) (hiB rows cut (x + 1) (y + 1)) (hiB rows cut x (y + 1)) (vQ rows cut x y) with e | ⟨a, b, n1, e⟩ | ⟨a, b, c, d, n1, n2, n3, n4, n5, n6, e⟩
 ·rw [e] at h; cases h
 ·rw [e] at h ⊢
  have k1 := key _ _ (inj a b n1)
  have k1' := aqa k1
  simp only [apq, arX, vA] at h ⊢
  unfold prt at h
  simp only [arf, List.findSome?_nil] at h
  by_cases c1 : gt x y a = g
  ·rw [if_pos c1] at h
   cases h
   simp [dput, jf, k1, k1', <- c1]
  ·rw [if_neg c1] at h
   by_cases c2 : gt x y b = g
   ·rw [if_pos c2] at h
    cases h
    simp [dput, jf, k1, k1', <- c2]
   ·rw [if_neg c2] at h; cases h
 ·rw [e] at h ⊢
  have k1 := key _ _ (inj a b n1)
  have k2 := key _ _ (inj a c n2)
  have k3 := key _ _ (inj a d n3)
  have k4 := key _ _ (inj b c n4)
  have k5 := key _ _ (inj b d n5)
  have k6 := key _ _ (inj c d n6)
  have j1 := aqa k1
  have j2 := aqa k2
  have j3 := aqa k3
  have j4 := aqa k4
  have j5 := aqa k5
  have j6 := aqa k6
  simp only [apq, arX, vA] at h ⊢
  unfold prt at h
  simp only [arf, List.findSome?_nil] at h
  by_cases c1 : gt x y a = g
  ·rw [if_pos c1] at h
   cases h
   simp [dput, jf, k1, k2, k3, k4, k5, k6, j1, j2, j3, j4, j5, j6, <- c1]
  ·rw [if_neg c1] at h
   by_cases c2 : gt x y b = g
   ·rw [if_pos c2] at h
    cases h
    simp [dput, jf, k1, k2, k3, k4, k5, k6, j1, j2, j3, j4, j5, j6, <- c2]
   ·rw [if_neg c2] at h
    by_cases c3 : gt x y c = g
    ·rw [if_pos c3] at h
     cases h
     simp [dput, jf, k1, k2, k3, k4, k5, k6, j1, j2, j3, j4, j5, j6, <- c3]
    ·rw [if_neg c3] at h
     by_cases c4 : gt x y d = g
     ·rw [if_pos c4] at h
      cases h
      simp [dput, jf, k1, k2, k3, k4, k5, k6, j1, j2, j3, j4, j5, j6, <- c4]
     ·rw [if_neg c4] at h; cases h
def adN : Option Gt -> PyData
 | none => .none
 | some g => gD3 g
abbrev ajX (K : ao0) : Sp := spD K 3 aie fun c r => r = adN (yb c.1 c.2.1 c.2.2.1 c.2.2.2)
theorem qQ (g : Gt) : ab1 (gD3 g) := ⟨⟨rfl, apt rfl⟩, _, rfl⟩
theorem alx (F : Def K mg "gate_ahead" jk pf) (ubY : FnIn P w K mg base k "cell_ahead" pf (ae0 K)) (uaw : FnIn P w K mg base k "has_cell" ph (abM K)) (ua4 : FnIn P w K mg base k "cell_ties" pq (adJ K)) :
  FnIn P w K mg base (k + 1) "gate_ahead" pf (ajX K) := by
 refine F.ok sc_gate_ahead rfl fun fa cdv A outer s H E hr => ⟨_, (zc (yg (zd ubY hr rfl (za (pv 0) (za (pv 1) (za (pv 2) zb)))) (zT (K := K) (n := 2) rfl rfl (zo (zk (i := 3) sc_gate_ahead.nd rfl (Or.inl rfl) (Or.inr rfl)) (zo (zk (i := 4) sc_gate_ahead.nd rfl (Or.inl rfl) (Or.inr rfl)) zN)))) (zc (yz (vB (z7 (K := K) rfl (zd uaw hr rfl (za (pv 0) (za (pv 3) (za (pv 4) zb)))) (fun _ => rfl))) (zg (zu afc)) zO) (zc (zC (i := 5) sc_gate_ahead.nd rfl (Or.inl rfl) (acw (w := w) rfl)) (zc (jr apR rfl (zY (K := K) rfl (zd ua4 hr rfl (za (pv 0) (za (pv 1) (za (zz (za (pv 3) (za (pv 4) zb))) zb))))) (zT (K := K) (n := 2) rfl rfl (zo (zk (i := 6) sc_gate_ahead.nd rfl (Or.inl rfl) (Or.inr rfl)) (zo (zk (i := 7) sc_gate_ahead.nd rfl (Or.inl rfl) (Or.inr rfl)) zN))) (zc (yg (pv 7) (aaj (pv 5) (pv 6) (v5 (w := w) (K := K) rfl rfl hr.units))) (zg (yg (pv 6) (aaj (pv 5) (pv 7) (v5 (w := w) (K := K) rfl rfl hr.units)))))) (zg (zu (zS (agO (w := w) (K := K) rfl rfl hr.units) (pv 5) (pv 2) (fun _ _ => rfl)))))))), ?_⟩
 rintro f xs ⟨rows, wd, cut, g⟩ hl ⟨rfl, gd, o⟩
 try dsimp only [zI, zj]
 dsimp only at *
 refine zW (zE (zm (rows, wd, cut, g) ?_))
 walk_at "w"
 rintro _ rfl
 dsimp only
 refine yH rfl (zt (zi (zt (zi (z9 ?_)))))
 refine zW (abZ (abm (yN (zm (rows, wd, (ahC rows cut g).1, (ahC rows cut g).2) ?_))))
 walk_at "w"
 rintro _ rfl
 refine ⟨_, rfl, ?_⟩
 dsimp only
 refine yq (fun h => ?_) fun h => ?_
 ·have hc : zF rows wd (ahC rows cut g).1 (ahC rows cut g).2 = false := by simpa using h
  walk_at "w"
  unfold yb
  rw [hc, if_neg aoY]
  rfl
 ·have hc : zF rows wd (ahC rows cut g).1 (ahC rows cut g).2 = true := by simpa using h
  obtain ⟨n, hn, _⟩ := vg o hc
  have hp : prt (qe rows cut (ahC rows cut g).1 (ahC rows cut g).2) g = some n := by
   unfold yb at hn
   rw [if_pos hc] at hn
   exact hn
  have tl : (qe rows cut (ahC rows cut g).1 (ahC rows cut g).2).length <= 2 := by
   unfold qe t4
   rw [aoZ]
   rcases aeZ (hiB rows cut (ahC rows cut g).1 (ahC rows cut g).2) (hiB rows cut ((ahC rows cut g).1 + 1) (ahC rows cut g).2) (hiB rows cut ((ahC rows cut g).1 + 1) ((ahC rows cut g).2 + 1)) (hiB rows cut (ahC rows cut g).1 ((ahC rows cut g).2 + 1)) (vQ rows cut (ahC rows cut g).1 (ahC rows cut g).2) with e | ⟨a, b, n1, e⟩ | ⟨a, b, c, d, n1, n2, n3, n4, n5, n6, e⟩ <;> rw [e] <;> simp
  refine yD (afx (w := w) (agL (ajo ⟨show 5 < 8 by decide, fun D => ?_⟩)))
  refine vy (aaL (yy (PEdO.ped (vG (rows, wd, cut, (ahC rows cut g).1, (ahC rows cut g).2) ?_))))
  walk_at "w"
  rintro _ rfl
  dsimp only
  rw [ajV hc]
  refine ⟨_, rfl, fun i ρ cs => (∃ u v, ρ = [some (.dat (tab rows)), some (.dat (.int cut)), some (.dat (gD3 g)), some (.dat (.int (ahC rows cut g).1)), some (.dat (.int (ahC rows cut g).2)), some (.own (f.M.length + 0)), u, v]) /\ cs = [.dic (vA ((qe rows cut (ahC rows cut g).1 (ahC rows cut g).2).take i) [])], ⟨⟨_, _, rfl⟩, rfl⟩, ?_, ?_⟩
  ·rintro i d _ _ hd ⟨⟨u, v, rfl⟩, rfl⟩
   rw [ao8] at hd
   cases hq : (qe rows cut (ahC rows cut g).1 (ahC rows cut g).2)[i]? with
   | none => rw [hq] at hd; cases hd
   | some q =>
    rw [hq] at hd
    cases hd
    have tk : (qe rows cut (ahC rows cut g).1 (ahC rows cut g).2).take (i + 1) = (qe rows cut (ahC rows cut g).1 (ahC rows cut g).2).take i ++ [q] := by
     rw [arB, hq]
     rfl
    have hl := aih ((qe rows cut (ahC rows cut g).1 (ahC rows cut g).2).take i) []
    rw [apP] at hl
    simp only [aqI] at hl
    refine yH rfl (zt (zi (zt (zi (z9 ?_)))))
    refine vy (agS (i := 5) (j := 0) rfl rfl (by omega) ?_)
    walk_at "w"
    refine ⟨qQ _, ?_⟩
    have hl2 := abP (gD3 q.1) (gD3 q.2) (vA ((qe rows cut (ahC rows cut g).1 (ahC rows cut g).2).take i) [])
    refine agS (i := 5) (j := 0) rfl rfl (by omega) ?_
    walk_at "w"
    refine ⟨qQ _, ⟨_, _, rfl⟩, ?_⟩
    rw [tk, afW]
    rfl
  ·rintro _ _ ⟨⟨u, v, rfl⟩, rfl⟩
   rw [aoZ, apM]
   refine amg (aot (i := 5) (j := 0) rfl rfl (ab0 (zh rfl ⟨qQ _, _, ajW hp, ?_⟩)))
   show gD3 n = adN (yb rows wd cut g)
   rw [hn]
   rfl
theorem ahc {α : Type} [DecidableEq α] : ∀ (l m : List α), l.Nodup -> (∀ x ∈ l, x ∈ m) -> m.length <= l.length -> ∀ x ∈ m, x ∈ l
 | [], m, _, _, hl, x, hx => by
  have : m = [] := List.length_eq_zero_iff.mp (Nat.le_zero.mp hl)
  rw [this] at hx
  exact hx
 | a :: l, m, nd, sub, hl, x, hx => by
  have ha := sub a (ao4 ..)
  have hn := apX.mp nd
  have le := arj ha
  rw [apn] at hl
  by_cases e : x = a
  ·rw [e]; exact ao4 ..
  ·refine ao3 _ (ahc l (m.erase a) hn.2 (fun y hy => ?_) (by omega) x ((aq5 e).mpr hx))
   exact (aq5 (fun (z : y = a) => hn.1 (z ▸ hy))).mpr (sub y (ao3 _ hy))
theorem len_sub {α : Type} [DecidableEq α] : ∀ (l m : List α), l.Nodup -> (∀ x ∈ l, x ∈ m) -> l.length <= m.length
 | [], m, _, _ => apD _
 | a :: l, m, nd, sub => by
  have ha := sub a (ao4 ..)
  have hn := apX.mp nd
  have le := arj ha
  have hp : 0 < m.length := arC ha
  have := len_sub l (m.erase a) hn.2 (fun y hy => (aq5 (fun (z : y = a) => hn.1 (z ▸ hy))).mpr (sub y (ao3 _ hy)))
  rw [apn]
  omega
theorem qq {α β : Type} {f : α -> β} {l1 l2 : List β} (h : l1.Perm l2) : ∀ ts : List α, l2 = ts.map f -> ∃ us : List α, us.Perm ts /\ l1 = us.map f := by
 induction h with
 | nil => intro ts e; exact ⟨ts, .refl _, e⟩
 | cons x _ ih =>
  intro ts e
  cases ts with
  | nil => cases e
  | cons t ts =>
   rw [apq] at e
   injection e with e1 e2
   obtain ⟨us, p, q⟩ := ih ts e2
   exact ⟨t :: us, .cons t p, by rw [apq, <- q, e1]⟩
 | swap x y l =>
  intro ts e
  match ts, e with
  | [], e => cases e
  | [_], e => cases e
  | a :: b :: ts, e =>
   simp only [apq] at e
   injection e with e1 e2
   injection e2 with e2 e3
   exact ⟨b :: a :: ts, .swap a b ts, by rw [apq, apq, e1, e2, e3]⟩
 | trans _ _ ih1 ih2 =>
  intro ts e
  obtain ⟨us, p, q⟩ := ih2 ts e
  obtain ⟨vs, p2, q2⟩ := ih1 us q
  exact ⟨vs, p2.trans p, q2⟩
section
variable (rows : List (List Int)) (wd : Nat) (cut : Int)
structure LineOk (ring : Bool) (l : List Gt) : Prop where
 op : ∀ g ∈ l, opG rows wd cut g = true
 nd : l.Nodup
 ch : ∀ (i : Nat) a b, l[i]? = some a -> l[i + 1]? = some b -> yb rows wd cut a = some b
 ne : l ≠ []
 last : ∀ g, l.getLast? = some g -> yb rows wd cut g = if ring = true then l.head? else none
structure WalkOk (s : Gt) (l : List Gt) : Prop where
 op : ∀ g ∈ l, opG rows wd cut g = true
 nd : l.Nodup
 ch : ∀ (i : Nat) a b, l[i]? = some a -> l[i + 1]? = some b -> yb rows wd cut a = some b
 hd : l.head? = some s
end
section
variable {rows : List (List Int)} {wd : Nat} {cut : Int}
theorem aii {t n : Nat} {x y w : Int} (hx : 0 <= x /\ x < n) (hy : 0 <= y /\ y < t) (hw : w = 0 \/ w = 1) : (x, y, w) ∈ yG t n := by
 obtain ⟨a, rfl⟩ := aro hx.1
 obtain ⟨b, rfl⟩ := aro hy.1
 refine apN.mpr ⟨a, apF.mpr (by omega), apN.mpr ⟨b, apF.mpr (by omega), ?_⟩⟩
 rcases hw with rfl | rfl
 ·exact ao4 ..
 ·exact ao3 _ (ao4 ..)
theorem aly {g : Gt} (o : opG rows wd cut g = true) : zM rows wd g.1 g.2.1 = true := by
 unfold opG yk vk at o
 rw [ao6, ao6, ao6] at o
 exact o.1.2.1
theorem mem_gates {g : Gt} : g ∈ zH rows wd cut ↔ opG rows wd cut g = true := by
 rw [qd, apL]
 refine ⟨fun h => h.2, fun o => ⟨?_, o⟩⟩
 obtain ⟨x, y, w⟩ := g
 have hw := aaA o
 obtain ⟨a, b, c, d⟩ := qP (aly o)
 exact aii ⟨a, b⟩ ⟨c, d⟩ hw
theorem gates_nd : (zH rows wd cut).Nodup := by
 rw [qd]
 refine ((aeX _ _).filter _).imp fun {a b} h e => ?_
 subst e
 unfold gLt at h
 omega
theorem abQ {l : List Gt} (gd : Good wd rows) (o : ∀ g ∈ l, opG rows wd cut g = true) (nd : l.Nodup) : l.length <= 98 :=
 apu (len_sub l (zH rows wd cut) nd fun x hx => mem_gates.mpr (o x hx)) (aax gd)
theorem ajY {s : Gt} (o : opG rows wd cut s = true) : WalkOk rows wd cut s [s] :=
 ⟨fun g hg => by rw [apd.mp hg]; exact o, apX.mpr ⟨apZ, ap8⟩, fun i a b _ h => (nomatch h), rfl⟩
theorem aij {s n g : Gt} {l : List Gt} (W : WalkOk rows wd cut s l) (hl : l.getLast? = some g) (hn : yb rows wd cut g = some n) (ne : n ≠ s) : WalkOk rows wd cut s (l ++ [n]) := by
 have hg : g ∈ l := asS hl
 have hli : l[l.length - 1]? = some g := by rw [<- aqH]; exact hl
 have pos : 0 < l.length := arC hg
 have hnew : n ∉ l := fun hm => by
  obtain ⟨i, hi⟩ := apH hm
  match i, hi with
  | 0, hi =>
   have := W.hd
   rw [apV, hi] at this
   exact ne (Option.some.inj this)
  | i + 1, hi =>
   obtain ⟨hlt, _⟩ := ao1.mp hi
   have hi' : l[i]? = some l[i] := aoX (by omega)
   have hc := W.ch i _ _ hi' hi
   have e := abO (W.op _ (apc hi')) (W.op _ hg) hc hn
   rw [e, <- hli] at hi'
   have := (ash (by omega) W.nd).mp hi'
   omega
 refine ⟨fun x hx => ?_, ?_, fun i a b ha hb => ?_, ?_⟩
 ·rcases apj.mp hx with h | h
  ·exact W.op x h
  ·rw [apd.mp h]; exact (aaB (W.op g hg) hn).1
 ·refine ap3.mpr ⟨W.nd, apX.mpr ⟨apZ, ap8⟩, fun a ha b hb e => ?_⟩
  rw [apd.mp hb] at e
  exact hnew (e ▸ ha)
 ·by_cases h : i + 1 < l.length
  ·rw [ape (by omega)] at ha
   rw [ape h] at hb
   exact W.ch i a b ha hb
  ·obtain ⟨hlt, _⟩ := ao1.mp hb
   rw [aph, apO] at hlt
   have e : i = l.length - 1 := by omega
   rw [ape (by omega), e, hli] at ha
   rw [apl (by omega), show i + 1 - l.length = 0 by omega] at hb
   cases ha
   cases hb
   exact hn
 ·cases l with
  | nil => cases pos
  | cons a l => exact W.hd
theorem acG {s g : Gt} {l : List Gt} (W : WalkOk rows wd cut s l) (hl : l.getLast? = some g) {ring : Bool} (h : yb rows wd cut g = if ring = true then some s else none) : LineOk rows wd cut ring l where
 op := W.op
 nd := W.nd
 ch := W.ch
 ne := fun z => by rw [z] at hl; cases hl
 last := fun g' hg' => by
  rw [hl] at hg'
  cases hg'
  rw [h, W.hd]
def adO (rows : List (List Int)) (wd : Nat) (cut : Int) (t : Bool × List Gt) : Prop := t.1 = false -> ∀ h, t.2.head? = some h -> yE rows wd cut h = none
theorem next_prev {g n : Gt} (o : opG rows wd cut g = true) (h : yb rows wd cut g = some n) : yE rows wd cut n = some g := by
 have c : zF rows wd (ahC rows cut g).1 (ahC rows cut g).2 = true := by
  unfold yb at h
  by_cases z : zF rows wd (ahC rows cut g).1 (ahC rows cut g).2 = true
  ·exact z
  ·rw [if_neg z] at h; cases h
 obtain ⟨m, a1, _, _, _, a2⟩ := vg o c
 rw [h] at a1
 cases a1
 exact a2
theorem prev_next {g n : Gt} (o : opG rows wd cut g = true) (h : yE rows wd cut g = some n) : opG rows wd cut n = true /\ yb rows wd cut n = some g := by
 have c : zF rows wd (bhC rows cut g).1 (bhC rows cut g).2 = true := by
  unfold yE at h
  by_cases z : zF rows wd (bhC rows cut g).1 (bhC rows cut g).2 = true
  ·exact z
  ·rw [if_neg z] at h; cases h
 obtain ⟨m, a1, _, a3, _, a2⟩ := aa6 o c
 rw [h] at a1
 cases a1
 exact ⟨a3, a2⟩
theorem aa7 {t : Bool × List Gt} (ne : t.2 ≠ []) : ∃ z, t.2.getLast? = some z /\ z ∈ t.2 := ⟨t.2.getLast ne, List.getLast?_eq_some_getLast ne, List.getLast_mem ne⟩
theorem aaO {t : Bool × List Gt} (L : LineOk rows wd cut t.1 t.2) (st : adO rows wd cut t) {g n : Gt} (o : opG rows wd cut g = true) (hn : n ∈ t.2) (h : yb rows wd cut g = some n) : g ∈ t.2 := by
 obtain ⟨i, hi⟩ := apH hn
 match i, hi with
 | 0, hi =>
  have hh : t.2.head? = some n := by rw [apV]; exact hi
  cases hr : t.1 with
  | false =>
   have := st hr n hh
   rw [next_prev o h] at this
   cases this
  | true =>
   obtain ⟨z, hz, hm⟩ := aa7 L.ne
   have := L.last z hz
   rw [hr, if_pos rfl, hh] at this
   rw [abO o (L.op z hm) h this]
   exact hm
 | i + 1, hi =>
  obtain ⟨hlt, _⟩ := ao1.mp hi
  have hi' : t.2[i]? = some t.2[i] := aoX (by omega)
  have hc := L.ch i _ _ hi' hi
  have hm := apc hi'
  rw [abO o (L.op _ hm) h hc]
  exact hm
theorem aaP {t : Bool × List Gt} (L : LineOk rows wd cut t.1 t.2) {g n : Gt} (hg : g ∈ t.2) (h : yb rows wd cut g = some n) : n ∈ t.2 := by
 obtain ⟨i, hi⟩ := apH hg
 obtain ⟨hlt, _⟩ := ao1.mp hi
 by_cases hl : i + 1 < t.2.length
 ·have hi' : t.2[i + 1]? = some t.2[i + 1] := aoX hl
  have hc := L.ch i _ _ hi hi'
  rw [h] at hc
  rw [Option.some.inj hc]
  exact apc hi'
 ·have e : i = t.2.length - 1 := by omega
  have hz : t.2.getLast? = some g := by rw [aqH, <- e]; exact hi
  have := L.last g hz
  rw [h] at this
  by_cases hr : t.1 = true
  ·rw [if_pos hr] at this
   exact arD this.symm
  ·rw [if_neg hr] at this
   cases this
theorem alz (gd : Good wd rows) {g : Gt} (o : opG rows wd cut g = true) : zF rows wd (ahC rows cut g).1 (ahC rows cut g).2 = true \/ zF rows wd (bhC rows cut g).1 (bhC rows cut g).2 = true := by
 have hw := aaA o
 obtain ⟨x, y, w⟩ := g
 have o' : yk rows wd cut x y w = true := o
 unfold yk vk at o'
 rw [ao6, ao6, ao6] at o'
 obtain ⟨a0, a1, a2, a3⟩ := qP o'.1.2.1
 obtain ⟨b0, b1, b2, b3⟩ := qP o'.1.2.2
 have h1 := gd.h1
 have w1 := gd.w1
 have cb : ∀ {u v : Int}, 0 <= u -> u + 1 < wd -> 0 <= v -> v + 1 < rows.length -> zF rows wd u v = true := fun p q r s => by
  unfold zF zM
  rw [decide_eq_true (by omega), decide_eq_true (by omega), decide_eq_true (by omega), decide_eq_true (by omega)]
  rfl
 unfold ahC bhC jC jD
 dsimp only at hw ⊢
 rcases hw with rfl | rfl
 ·have e1 : px x 0 = x + 1 := rfl
  rw [e1] at b1
  cases hiB rows cut x y
  ·by_cases h : y + 1 < rows.length
   ·left; exact cb (by simp; omega) (by simp; omega) (by simp; omega) (by simp; omega)
   ·right; exact cb (by simp; omega) (by simp; omega) (by simp; omega) (by simp; omega)
  ·by_cases h : y + 1 < rows.length
   ·right; exact cb (by simp; omega) (by simp; omega) (by simp; omega) (by simp; omega)
   ·left; exact cb (by simp; omega) (by simp; omega) (by simp; omega) (by simp; omega)
 ·have e1 : py y 1 = y + 1 := rfl
  rw [e1] at b3
  cases hiB rows cut x y
  ·by_cases h : x + 1 < wd
   ·right; exact cb (by simp; omega) (by simp; omega) (by simp; omega) (by simp; omega)
   ·left; exact cb (by simp; omega) (by simp; omega) (by simp; omega) (by simp; omega)
  ·by_cases h : x + 1 < wd
   ·left; exact cb (by simp; omega) (by simp; omega) (by simp; omega) (by simp; omega)
   ·right; exact cb (by simp; omega) (by simp; omega) (by simp; omega) (by simp; omega)
theorem anI (gd : Good wd rows) {t : Bool × List Gt} (L : LineOk rows wd cut t.1 t.2) (st : adO rows wd cut t) : 2 <= t.2.length := by
 obtain ⟨r, l⟩ := t
 match l, L, st with
 | [], L, _ => exact absurd rfl L.ne
 | [g], L, st =>
  have o := L.op g (ao4 ..)
  have hl := L.last g rfl
  cases r with
  | true =>
   exact absurd rfl (aaB o hl).2
  | false =>
   have hp : yE rows wd cut g = none := st rfl g rfl
   have hl : yb rows wd cut g = none := hl
   rcases alz gd o with c | c
   ·obtain ⟨n, h, _⟩ := vg o c
    rw [hl] at h; cases h
   ·obtain ⟨n, h, _⟩ := aa6 o c
    rw [hp] at h; cases h
 | _ :: _ :: _, _, _ => exact Nat.le_add_left 2 _
end
section
variable (rows : List (List Int)) (wd : Nat) (cut : Int)
def flat (ts : List (Bool × List Gt)) : List Gt := ts.flatMap (·.2)
structure Told (ts : List (Bool × List Gt)) : Prop where
 line : ∀ t ∈ ts, LineOk rows wd cut t.1 t.2
 st : ∀ t ∈ ts, adO rows wd cut t
 nd : (flat ts).Nodup
 least : ∀ t ∈ ts, t.1 = true -> ∀ h, t.2.head? = some h -> ∀ g ∈ t.2, g = h \/ gLt h g
end
section
variable {rows : List (List Int)} {wd : Nat} {cut : Int} {ts : List (Bool × List Gt)}
theorem Told.op (T : Told rows wd cut ts) {g : Gt} (h : g ∈ flat ts) : opG rows wd cut g = true := by
 obtain ⟨t, ht, hg⟩ := apN.mp h
 exact (T.line t ht).op g hg
theorem Told.len (T : Told rows wd cut ts) (gd : Good wd rows) : (flat ts).length <= 98 := abQ gd (fun g hg => T.op hg) T.nd
theorem ae1 : ∀ (ts : List (Bool × List Gt)), (∀ t ∈ ts, 2 <= t.2.length) -> 2 * ts.length <= (flat ts).length
 | [], _ => ao5 _
 | t :: ts, h => by
  have h1 := h t (ao4 ..)
  have h2 := ae1 ts fun u hu => h u (ao3 _ hu)
  show 2 * (ts.length + 1) <= (t.2 ++ flat ts).length
  rw [aph]
  omega
theorem Told.few (T : Told rows wd cut ts) (gd : Good wd rows) : ts.length <= 49 := by
 have h1 := ae1 ts fun t ht => anI gd (T.line t ht) (T.st t ht)
 have h2 := T.len gd
 omega
theorem vh (ts : List (Bool × List Gt)) (t : Bool × List Gt) : flat (ts ++ [t]) = flat ts ++ t.2 := by
 unfold flat
 rw [aqi]
 simp
theorem Told.fresh (T : Told rows wd cut ts) {r : Bool} {l : List Gt} (L : LineOk rows wd cut r l) {s : Gt} (hs : l.head? = some s) (hn : s ∉ flat ts) : ∀ g ∈ l, g ∉ flat ts := by
 have key : ∀ (i : Nat) g, l[i]? = some g -> g ∉ flat ts := fun i => by
  induction i with
  | zero =>
   intro g hg
   rw [apV, hg] at hs
   rw [Option.some.inj hs]
   exact hn
  | succ i ih =>
   intro g hg hm
   obtain ⟨hlt, _⟩ := ao1.mp hg
   have hi' : l[i]? = some l[i] := aoX (by omega)
   have hc := L.ch i _ _ hi' hg
   obtain ⟨t, ht, hgt⟩ := apN.mp hm
   exact ih _ hi' (apN.mpr ⟨t, ht, aaO (T.line t ht) (T.st t ht) (L.op _ (apc hi')) hgt hc⟩)
 intro g hg
 obtain ⟨i, hi⟩ := apH hg
 exact key i g hi
theorem Told.more (T : Told rows wd cut ts) {r : Bool} {l : List Gt} (L : LineOk rows wd cut r l) {s : Gt} (hs : l.head? = some s) (hn : s ∉ flat ts) (st : r = false -> yE rows wd cut s = none) (le : r = true -> ∀ g ∈ l, g = s \/ gLt s g) : Told rows wd cut (ts ++ [(r, l)]) where
 line := fun t ht => by
  rcases apj.mp ht with h | h
  ·exact T.line t h
  ·rw [apd.mp h]; exact L
 st := fun t ht => by
  rcases apj.mp ht with h | h
  ·exact T.st t h
  ·rw [apd.mp h]
   intro hr h hh
   rw [show (r, l).2.head? = some s from hs] at hh
   rw [<- Option.some.inj hh]
   exact st hr
 nd := by
  rw [vh]
  refine ap3.mpr ⟨T.nd, L.nd, fun a ha b hb e => ?_⟩
  exact T.fresh L hs hn b hb (e ▸ ha)
 least := fun t ht => by
  rcases apj.mp ht with h | h
  ·exact T.least t h
  ·rw [apd.mp h]
   intro hr h hh
   rw [show (r, l).2.head? = some s from hs] at hh
   rw [<- Option.some.inj hh]
   exact le hr
theorem anJ {r : Bool} {l : List Gt} (L : LineOk rows wd cut r l) {s : Gt} (hs : l.head? = some s) (hp : yE rows wd cut s = none) : r = false := by
 cases r with
 | false => rfl
 | true =>
  obtain ⟨z, hz, hm⟩ := aa7 (t := (true, l)) L.ne
  have := L.last z hz
  rw [if_pos rfl, hs] at this
  have := next_prev (L.op z hm) this
  rw [hp] at this
  cases this
theorem alA (T : Told rows wd cut ts) (all : ∀ g, opG rows wd cut g = true -> yE rows wd cut g = none -> g ∈ flat ts) {r : Bool} {l : List Gt} (L : LineOk rows wd cut r l) {s : Gt} (hs : l.head? = some s) (hn : s ∉ flat ts) : r = true := by
 cases r with
 | true => rfl
 | false =>
  obtain ⟨z, hz, hm⟩ := aa7 (t := (false, l)) L.ne
  have hnone : yb rows wd cut z = none := L.last z hz
  let U := (zH rows wd cut).filter fun g => decide (g ∉ flat ts)
  have memU : ∀ g, g ∈ U ↔ opG rows wd cut g = true /\ g ∉ flat ts := fun g => by
   show g ∈ List.filter _ _ ↔ _
   rw [apL, mem_gates, decide_eq_true_eq]
  let pr : Gt -> Gt := fun g => (yE rows wd cut g).getD g
  have prU : ∀ g ∈ U, yE rows wd cut g = some (pr g) /\ yb rows wd cut (pr g) = some g /\ pr g ∈ U := fun g hg => by
   obtain ⟨o, nf⟩ := (memU g).mp hg
   cases hp : yE rows wd cut g with
   | none => exact absurd (all g o hp) nf
   | some p =>
    have e : pr g = p := by show (yE rows wd cut g).getD g = p; rw [hp]; rfl
    obtain ⟨op, hnx⟩ := prev_next o hp
    rw [e]
    refine ⟨rfl, hnx, (memU p).mpr ⟨op, fun hm => ?_⟩⟩
    obtain ⟨t, ht, hpt⟩ := apN.mp hm
    exact nf (apN.mpr ⟨t, ht, aaP (T.line t ht) hpt hnx⟩)
  have ndU : U.Nodup := gates_nd.filter _
  have ndP : (U.map pr).Nodup := by
   refine ap7.mpr (ndU.imp_of_mem fun {a b} ha hb ne e => ne ?_)
   have h1 := (prU a ha).2.1
   have h2 := (prU b hb).2.1
   rw [e, h2] at h1
   exact (Option.some.inj h1).symm
  have zU : z ∈ U := (memU z).mpr ⟨L.op z hm, T.fresh L hs hn z hm⟩
  have := ahc (U.map pr) U ndP (fun x hx => by obtain ⟨g, hg, rfl⟩ := apm.mp hx; exact (prU g hg).2.2) (by rw [aoZ]; exact ao5 _) z zU
  obtain ⟨g, hg, rfl⟩ := apm.mp this
  rw [(prU g hg).2.1] at hnone
  cases hnone
def yl (t : Bool × List Gt) : PyData := .tuple [.str (if t.1 = true then "ring" else "run"), .tuple (t.2.map gD3)]
theorem ae2 (l : List Gt) : zK (l.map gD3) = true := by
 induction l with
 | nil => rfl
 | cons g l ih => show (zA (gD3 g) && zK (l.map gD3)) = true; rw [ih]; rfl
theorem abR (t : Bool × List Gt) : zA (yl t) = true := by
 show (zA (.str _) && (zA (.tuple (t.2.map gD3)) && true)) = true
 rw [show zA (.tuple (t.2.map gD3)) = zK (t.2.map gD3) from rfl, ae2]
 cases t.1 <;> decide +kernel
theorem acH : ∀ l m : List Gt, vH (l.map gD3) (m.map gD3) = true
 | [], m => by rw [arX, vH]
 | g :: l, [] => rfl
 | (x, y, w) :: l, (x', y', w') :: m => by
  rw [apq, apq, vH]
  split
  ·exact acH l m
  ·show vW (.tuple [.int x, .int y, .int w]) (.tuple [.int x', .int y', .int w']) = true
   simp only [vW, vH]
   split
   ·split
    ·split <;> rfl
    ·rfl
   ·rfl
theorem ajZ (t u : Bool × List Gt) : vW (yl t) (yl u) = true := by
 unfold yl
 generalize (if t.1 = true then ("ring" : Str) else "run") = a
 generalize (if u.1 = true then ("ring" : Str) else "run") = b
 rw [vW, vH]
 split
 ·rw [vH]
  split
  ·rfl
  ·rw [vW]; exact acH _ _
 ·rfl
theorem ae3 (l : List Gt) : ao9 (l.map gD3) <= 1 := by
 induction l with
 | nil => exact apD _
 | cons g l ih => exact as2.mpr ⟨ao5 1, ih⟩
theorem afX (t : Bool × List Gt) : (yl t).depth <= 3 := by
 show max 0 (max (ao9 (t.2.map gD3) + 1) 0) + 1 <= 3
 have := ae3 t.2
 omega
theorem ae4 {a b : Gt} (h : gD3 a = gD3 b) : a = b := by
 obtain ⟨x, y, w⟩ := a
 obtain ⟨x', y', w'⟩ := b
 unfold gD3 jR at h
 simp at h
 simp [h]
theorem aj0 (T : Told rows wd cut ts) : SortOk "str" (ts.map yl) where
 plain := fun d hd => by obtain ⟨t, _, rfl⟩ := apm.mp hd; exact abR t
 head := fun d hd => by obtain ⟨t, _, rfl⟩ := apm.mp hd; rfl
 cmp := fun d hd e he => by
  obtain ⟨t, _, rfl⟩ := apm.mp hd
  obtain ⟨u, _, rfl⟩ := apm.mp he
  exact ajZ t u
 depth := fun d hd => by obtain ⟨t, _, rfl⟩ := apm.mp hd; exact apu (afX t) (by decide)
 nd := by
  have h := (List.pairwise_flatMap.mp T.nd).2
  refine ap7.mpr (h.imp_of_mem fun {a b} ha hb hd e => ?_)
  unfold yl at e
  have e2 : a.2.map gD3 = b.2.map gD3 := by
   injection e with e
   injection e with _ e
   injection e with e _
   injection e
  cases ha2 : a.2 with
  | nil => exact (T.line a ha).ne ha2
  | cons g l =>
   cases hb2 : b.2 with
   | nil => exact (T.line b hb).ne hb2
   | cons g' l' =>
    rw [ha2, hb2, apq, apq] at e2
    injection e2 with e2 _
    exact hd g (by rw [ha2]; exact ao4 ..) g' (by rw [hb2]; exact ao4 ..) (ae4 e2)
theorem Told.perm {us : List (Bool × List Gt)} (T : Told rows wd cut ts) (p : us.Perm ts) : Told rows wd cut us where
 line := fun t ht => T.line t (p.mem_iff.mp ht)
 st := fun t ht => T.st t (p.mem_iff.mp ht)
 nd := (p.flatMap_right _).nodup_iff.mpr T.nd
 least := fun t ht => T.least t (p.mem_iff.mp ht)
end
section
variable {rows : List (List Int)} {wd : Nat} {cut : Int} {r : List Gt}
theorem aik (L : LineOk rows wd cut true r) {g : Gt} (hg : g ∈ r) : zF rows wd (ahC rows cut g).1 (ahC rows cut g).2 = true /\ zF rows wd (bhC rows cut g).1 (bhC rows cut g).2 = true := by
 have o := L.op g hg
 constructor
 ·have hn : ∃ n, yb rows wd cut g = some n := by
   obtain ⟨i, hi⟩ := apH hg
   obtain ⟨hlt, _⟩ := ao1.mp hi
   by_cases hl : i + 1 < r.length
   ·exact ⟨_, L.ch i _ _ hi (aoX hl)⟩
   ·have e : i = r.length - 1 := by omega
    have hz : r.getLast? = some g := by rw [aqH, <- e]; exact hi
    have := L.last g hz
    rw [if_pos rfl] at this
    cases hh : r.head? with
    | none => exact absurd (List.head?_eq_none_iff.mp hh) L.ne
    | some h => exact ⟨h, this.trans hh⟩
  obtain ⟨n, hn⟩ := hn
  unfold yb at hn
  by_cases z : zF rows wd (ahC rows cut g).1 (ahC rows cut g).2 = true
  ·exact z
  ·rw [if_neg z] at hn; cases hn
 ·have hp : ∃ p, opG rows wd cut p = true /\ yb rows wd cut p = some g := by
   obtain ⟨i, hi⟩ := apH hg
   obtain ⟨hlt, _⟩ := ao1.mp hi
   match i, hi with
   | 0, hi =>
    obtain ⟨z, hz, hzm⟩ := aa7 (t := (true, r)) L.ne
    have := L.last z hz
    rw [if_pos rfl, apV] at this
    exact ⟨z, L.op z hzm, this.trans hi⟩
   | i + 1, hi =>
    have hi' : r[i]? = some r[i] := aoX (by omega)
    exact ⟨_, L.op _ (apc hi'), L.ch i _ _ hi' hi⟩
  obtain ⟨p, op, hp⟩ := hp
  have hq := next_prev op hp
  unfold yE at hq
  by_cases z : zF rows wd (bhC rows cut g).1 (bhC rows cut g).2 = true
  ·exact z
  ·rw [if_neg z] at hq; cases hq
end
section
variable {K : ao0} {f : Fx} {ρ : zr} {ta : TE} {P : PyData -> Prop}
def abS : PyData -> Bool
 | .none => true
 | _ => false
theorem acI {H : Hp} {d : PyData} {v : V} (r : Rep K H d v) (h : d = .none \/ ∃ ds, d = .tuple ds) : decide (v = .non) = abS d := by
 rcases h with rfl | ⟨ds, rfl⟩
 ·rw [show v = .non from r]; rfl
 ·obtain ⟨a, xs, rfl, _⟩ := rep_tuple.mp r
  rfl
theorem anK (h : PEd K f ta ρ fun d => (d = .none \/ ∃ ds, d = .tuple ds) /\ P (.bool (!abS d))) : PEd K f (tOp (fun x y H Q => y = .non /\ Q (.bl (!decide (x = .non))) H) ta (tC .non)) ρ P := fun σ H Q e q =>
 h σ H _ e fun d v H1 g1 r1 ⟨hd, p⟩ => ⟨rfl, q _ _ H1 g1 (by show Rep K _ (.bool _) (.bl _); rw [acI r1 hd]; rfl) p⟩
theorem amo (h : PEd K f ta ρ fun d => (d = .none \/ ∃ ds, d = .tuple ds) /\ P (.bool (abS d))) : PEd K f (tOp (fun x y H Q => y = .non /\ Q (.bl (decide (x = .non))) H) ta (tC .non)) ρ P := fun σ H Q e q =>
 h σ H _ e fun d v H1 g1 r1 ⟨hd, p⟩ => ⟨rfl, q _ _ H1 g1 (by show Rep K _ (.bool _) (.bl _); rw [acI r1 hd]; rfl) p⟩
end
abbrev aj1 (K : ao0) : Sp := spD K 3 aie fun c r => ∃ ring l, r = yl (ring, l) /\ LineOk c.1 c.2.1 c.2.2.1 ring l /\ l.head? = some c.2.2.2
theorem afY (a b : Gt) : apw (gD3 a) (gD3 b) = decide (a = b) := by
 obtain ⟨x, y, w⟩ := a
 obtain ⟨x', y', w'⟩ := b
 show (decide (x = x') && (decide (y = y') && (decide (w = w') && true))) = _
 by_cases h1 : x = x' <;> by_cases h2 : y = y' <;> by_cases h3 : w = w' <;> simp [h1, h2, h3]
theorem afZ (q : Option Gt) : adN q = .none \/ ∃ ds, adN q = .tuple ds := by
 cases q with
 | none => exact .inl rfl
 | some g => exact .inr ⟨_, rfl⟩
theorem alB (F : Def K mg "line_from" jM pC) (uaC : mg "tuple" = none) (ubO : FnIn P w K mg base k "gate_ahead" pf (ajX K)) :
  FnIn P w K mg base (k + 1) "line_from" pC (aj1 K) := by
 refine F.ok sc_line_from rfl fun fa cdv A outer s H E hr => ⟨_, (zc (zC (i := 3) sc_line_from.nd rfl (Or.inl rfl) (zV (za (pv 2) zb))) (zc (zC (i := 4) sc_line_from.nd rfl (Or.inl rfl) (zd ubO hr rfl (za (pv 0) (za (pv 1) (za (pv 2) zb))))) (zc (abb apR (PW.pt (acN (zL akz (pv 4) afc (zR _)) (aaT (zL (jU (K := K) rfl hr.units) (pv 4) (pv 2) (zR _))))) (zc (z6 (agd aqr aqO aqP qU (pv 3) (za (pv 4) zb))) (zg (zC (i := 4) sc_line_from.nd rfl (Or.inl rfl) (zd ubO hr rfl (za (pv 0) (za (pv 1) (za (pv 4) zb)))))))) (zg (zu (zz (za (qI (zL amH (pv 4) afc (zR _)) yL yL) (za (qT (aaF (K := K) rfl) rfl uaC asz (za (pv 3) zb)) zb)))))))), ?_⟩
 rintro f xs ⟨rows, wd, cut, g⟩ hl ⟨rfl, gd, o⟩
 try dsimp only [zI, zj]
 dsimp only at *
 refine afx (w := w) (agL (aa0 (acm ?_)))
 walk_at "w"
 refine ⟨show 3 < 5 by decide, fun D => ?_⟩
 refine vy (adf (zE (zm (rows, wd, cut, g) ?_)))
 walk_at "w"
 rintro _ rfl
 refine zi ?_
 refine vy (agJ (fun ρ cs => ∃ l z, ρ = [some (.dat (tab rows)), some (.dat (.int cut)), some (.dat (gD3 g)), some (.own (f.M.length + 0)), some (.dat (adN (yb rows wd cut z)))] /\ cs = [.lst (l.map gD3)] /\ WalkOk rows wd cut g l /\ l.getLast? = some z) (fun _ cs => match cs with | [.lst es] => 200 - es.length | _ => 0) ⟨[g], g, rfl, rfl, ajY o, rfl⟩ ?_)
 rintro _ _ ⟨l, z, rfl, rfl, W, hz⟩
 have oz := W.op z (asS hz)
 have wl := abQ gd W.op W.nd
 have ml : (l.map gD3).length = l.length := aoZ ..
 refine aoT (aci (yt (anK (zh rfl ⟨afZ _, ?_⟩))))
 refine ⟨_, rfl, ?_⟩
 have fr : ∀ x : PyData, asx (freed f.M.length [OC.lst (l.map gD3)]) [some (DV.dat (tab rows)), some (.dat (.int cut)), some (.dat (gD3 g)), some (.own (f.M.length + 0)), some (.dat x)] = [some (.dat (tab rows)), some (.dat (.int cut)), some (.dat (gD3 g)), some (.dat (.list (l.map gD3))), some (.dat x)] := fun x => by simp [freed]
 cases hn : yb rows wd cut z with
 | none =>
  rw [show (!abS (adN none)) = false from rfl, if_neg aoY, if_neg aoY]
  refine ajj ?_
  rw [fr]
  refine ya (jY (zp (aiI (yt (amo (zh rfl ⟨.inl rfl, _, rfl, ?_⟩))))))
  rw [show abS (adN none) = true from rfl, if_pos rfl]
  walk_at "w"
  exact ⟨false, l, rfl, acG W hz (by rw [hn]; rfl), W.hd⟩
 | some n =>
  rw [show (!abS (adN (some n))) = true from rfl, if_pos rfl]
  rw [show adN (some n) = gD3 n from rfl]
  refine yt (jb (zh rfl (zh rfl ⟨rfl, rfl, apt rfl, _, rfl, ?_⟩)))
  rw [if_pos rfl, afY]
  by_cases ng : n = g
  ·rw [decide_eq_true ng, show (!true) = false from rfl, if_neg aoY]
   refine ajj ?_
   rw [fr]
   refine ya (jY (zp (aiI (yt (amo (zh rfl ⟨.inr ⟨_, rfl⟩, _, rfl, ?_⟩))))))
   rw [show abS (gD3 n) = false from rfl, if_neg aoY]
   walk_at "w"
   exact ⟨true, l, rfl, acG W hz (by rw [hn, ng]; rfl), W.hd⟩
  ·rw [decide_eq_false ng, show (!false) = true from rfl, if_pos rfl]
   have W2 := aij W hz hn ng
   have wl2 := abQ gd W2.op W2.nd
   rw [aph, apO] at wl2
   refine vy (agK (i := 3) (j := 0) rfl rfl (by omega) (ab0 (zh rfl ?_)))
   refine adf (zE (zm (rows, wd, cut, n) ?_))
   have on := (aaB oz hn).1
   walk_at "w"
   rintro _ rfl
   refine zi ⟨⟨l ++ [n], n, rfl, ?_, W2, by simp⟩, ?_⟩
   ·show [OC.lst (l.map gD3 ++ [gD3 n])] = [OC.lst ((l ++ [n]).map gD3)]
    rw [aps]
    rfl
   ·show 200 - (l.map gD3 ++ [gD3 n]).length < 200 - (l.map gD3).length
    rw [aph, apO]
    omega
abbrev ahd (K : ao0) : Sp := spN K 2 (fun (c : List (List Int) × Nat × Int) xs => xs = [.dat (tab c.1), .dat (.int c.2.2)] /\ Good c.2.1 c.1) fun c es => ∃ ts, es = ts.map yl /\ Told c.1 c.2.1 c.2.2 ts /\ (∀ g, opG c.1 c.2.1 c.2.2 g = true -> g ∈ flat ts) /\ es.Pairwise fun d e => ltD d e = true
def inB (rows : List (List Int)) (wd : Nat) (cut : Int) (g : Gt) : Bool := !zF rows wd (bhC rows cut g).1 (bhC rows cut g).2
theorem aj2 {rows : List (List Int)} {wd : Nat} {cut : Int} {g : Gt} (o : opG rows wd cut g = true) : inB rows wd cut g = true ↔ yE rows wd cut g = none := by
 unfold inB
 by_cases h : zF rows wd (bhC rows cut g).1 (bhC rows cut g).2 = true
 ·obtain ⟨n, hn, _⟩ := aa6 o h
  rw [h, hn]
  simp
 ·rw [Bool.not_eq_true] at h
  unfold yE
  rw [h]
  simp
theorem aj3 (F : Def K mg "lines" aa3 pz) (uaD : mg "set" = none) (uaE : mg "sorted" = none) (uae : FnIn P w K mg base k "ask_table" pj (vz K)) (ua5 : FnIn P w K mg base k "gates" pz (adE K)) (ubZ : FnIn P w K mg base k "comes_in" pf (ahb K)) (ub0 : FnIn P w K mg base k "line_from" pC (aj1 K)) : FnIn P w K mg base (k + 1) "lines" pz (ahd K) := by
 refine F.okN sc_lines rfl fun fa cdv A outer s H E hr => ⟨_, (zc (z6 (zd uae hr rfl (za (pv 0) zb))) (zc (zC (i := 2) sc_lines.nd rfl (Or.inl rfl) (zd ua5 hr rfl (za (pv 0) (za (pv 1) zb)))) (zc (zC (i := 3) sc_lines.nd rfl (Or.inl rfl) (zq (jy (K := K) rfl) (yv (N := pH) (own := 1) (fr := [0, 1]) ⟨rfl, by decide +kernel, of_decide_eq_true (by kernel_rfl), of_decide_eq_true (by kernel_rfl), of_decide_eq_true (by kernel_rfl), rfl⟩ rfl (zY (K := K) rfl (pv 2)) (fun _ _ _ _ => (zk (i := 0) (show (pH : List Str).Nodup by decide +kernel) rfl (Or.inl rfl) (Or.inr rfl))) (fun _ _ _ _ => (jE (z7 (K := K) rfl (zd ubZ hr rfl (za (pv 1) (za (pv 2) (za (pv 0) zb)))) (fun _ => rfl)))) (fun _ _ _ _ => (pv 0)) rfl rfl (fun _ => rfl)) (pv 2))) (zc (zC (i := 4) sc_lines.nd rfl (Or.inl rfl) (zV zb)) (zc (zC (i := 5) sc_lines.nd rfl (Or.inl rfl) (abh (v3 (w := w) rfl) rfl uaD asJ)) (zc (jr apR rfl (zY (K := K) rfl (pv 3)) (zk (i := 6) sc_lines.nd rfl (Or.inl rfl) (Or.inr rfl)) (zg (yz (zL (aby (w := w) (K := K) rfl rfl hr.units) (pv 6) (pv 5) rfl) (zc (zC (i := 7) sc_lines.nd rfl (Or.inl rfl) (zd ub0 hr rfl (za (pv 0) (za (pv 1) (za (pv 6) zb))))) (zc (z6 (agd aqr aqO aqP qU (pv 4) (za (pv 7) zb))) (zg (jr apR rfl (aaU (K := K) rfl (zS (je (K := K) rfl) (pv 7) ze (fun _ _ => rfl))) (zk (i := 8) sc_lines.nd rfl (Or.inl rfl) (Or.inr rfl)) (zg (z6 (ajm (w := w) rfl arN asT (aew (w := w) (K := K) rfl rfl hr.units) (pv 5) (za (pv 8) zb)))))))) zO))) (zg (zu (zx (ac5 (K := K) rfl hr.units) rfl uaE ass (za (pv 4) zb)))))))))), ?_⟩
 rintro f xs ⟨rows, wd, cut⟩ hl ⟨rfl, gd⟩
 try dsimp only [zI, zj]
 dsimp only at *
 have gl := aax (cut := cut) gd
 refine aaH (jw (zm (rows, wd) ?_))
 walk_at "w"
 rintro _ rfl
 refine aaH (zE (PEdO.ped (vG (rows, wd, cut) ?_)))
 walk_at "w"
 rintro _ rfl
 dsimp only
 rw [<- qd]
 refine zi ?_
 refine aaH (zE (jz (PEdO.ped (qK (yy (zh rfl ⟨_, rfl, fun n ρ es => (∃ u, ρ = [u, some (.dat (tab rows)), some (.dat (.int cut))]) /\ es = (((zH rows wd cut).take n).filter (inB rows wd cut)).map gD3, ⟨⟨_, rfl⟩, rfl⟩, ?_, ?_⟩))))))
 ·rintro D n d ρ' es hd ⟨⟨u, rfl⟩, rfl⟩
  rw [ao8] at hd
  cases hq : (zH rows wd cut)[n]? with
  | none => rw [hq] at hd; cases hd
  | some q =>
   rw [hq] at hd
   cases hd
   have oq := mem_gates.mp (apc hq)
   have tk : (zH rows wd cut).take (n + 1) = (zH rows wd cut).take n ++ [q] := by
    rw [arB, hq]
    rfl
   have len : ((((zH rows wd cut).take n).filter (inB rows wd cut)).map gD3).length < 1000 := by
    rw [aoZ]
    have a1 := apK (inB rows wd cut) ((zH rows wd cut).take n)
    rw [apP] at a1
    omega
   refine zi (yN (zm (rows, wd, cut, q) ?_))
   walk_at "w"
   rintro _ rfl
   dsimp only
   refine ⟨_, rfl, ?_⟩
   refine yq (fun h => ?_) fun h => ?_
   ·refine yF len ?_
    walk_at "w"
    rw [tk, apU, aps, apQ, show inB rows wd cut q = true from h, if_pos rfl]
    rfl
   ·refine ⟨⟨_, rfl⟩, ?_⟩
    rw [tk, apU, aps, apQ, show inB rows wd cut q = false from h, if_neg aoY]
    simp
 ·rintro ρ' es ⟨_, rfl⟩
  rw [aoZ, apM]
  have il : ((zH rows wd cut).filter (inB rows wd cut)).length <= 98 := apu (apK _ _) gl
  refine ⟨_, rfl, zh rfl ⟨_, rfl, by rw [aoZ, aoZ]; omega, ?_⟩⟩
  refine zi ?_
  dsimp only
  rw [<- aps]
  refine akU (w := w) (ajk (aa0 (acm ?_)))
  walk_at "w"
  refine ⟨show 4 < 9 by decide, fun D1 => ?_⟩
  refine ajk (ajn ⟨show 5 < 9 by decide, fun D2 => ?_⟩)
  refine am9 (aaL (yy (zh rfl ?_)))
  generalize hS : (zH rows wd cut).filter (inB rows wd cut) ++ zH rows wd cut = S
  generalize hG : PyData.list (asx gD3 (zH rows wd cut)) = G
  refine ⟨_, rfl, fun i ρ cs => ∃ ts u v x, ρ = [some (.dat (tab rows)), some (.dat (.int cut)), some (.dat G), some (.dat (.list (S.map gD3))), some (.own (f.M.length + 0)), some (.own (f.M.length + 1)), u, v, x] /\ cs = [.lst (ts.map yl), .set ((flat ts).map gD3).reverse] /\ Told rows wd cut ts /\ ∀ j g, j < i -> S[j]? = some g -> g ∈ flat ts, ?_, ?_, ?_⟩
  ·exact ⟨[], _, _, _, rfl, rfl, ⟨(fun _ h => nomatch h), (fun _ h => nomatch h), ap8, (fun _ h => nomatch h)⟩, fun j g h => absurd h (aqj _)⟩
  ·rintro i d _ _ hd ⟨ts, u, v, x, rfl, rfl, T, past⟩
   rw [ao8] at hd
   cases hq : S[i]? with
   | none => rw [hq] at hd; cases hd
   | some q =>
    rw [hq] at hd
    cases hd
    have oq : opG rows wd cut q = true := by
     have hm := apc hq
     rw [<- hS] at hm
     rcases apj.mp hm with h | h
     ·exact mem_gates.mp (apL.mp h).1
     ·exact mem_gates.mp h
    have memk : (gD3 q ∈ ((flat ts).map gD3).reverse) ↔ q ∈ flat ts := by
     rw [aqy, apm]
     exact ⟨fun ⟨a, ha, e⟩ => adM e ▸ ha, fun h => ⟨q, h, rfl⟩⟩
    refine zi (am8 (ame (i := 5) (j := 1) rfl rfl (ab0 (zh rfl ⟨qQ _, ?_⟩))))
    rw [if_pos rfl]
    by_cases hin : q ∈ flat ts
    ·rw [decide_eq_true (memk.mpr hin), show (!true) = false from rfl, if_neg aoY]
     refine afy ⟨ts, _, _, _, rfl, rfl, T, fun j g hj hg => ?_⟩
     rcases asu.mp hj with h | h
     ·exact past j g h hg
     ·rw [h, hq] at hg
      cases hg
      exact hin
    ·rw [decide_eq_false (fun z => hin (memk.mp z)), show (!false) = true from rfl, if_pos rfl]
     refine vy (adf (zE (zm (rows, wd, cut, q) ?_)))
     walk_at "w"
     rintro _ ⟨ring, l, rfl, L, hh⟩
     dsimp only at L hh
     have T2 : Told rows wd cut (ts ++ [(ring, l)]) := by
      by_cases hi : i < ((zH rows wd cut).filter (inB rows wd cut)).length
      ·have hp : yE rows wd cut q = none := by
        rw [<- hS, ape hi] at hq
        exact (aj2 oq).mp (apL.mp (apc hq)).2
       have r0 := anJ L hh hp
       exact T.more L hh hin (fun _ => hp) fun z => by rw [r0] at z; cases z
      ·have all : ∀ g, opG rows wd cut g = true -> yE rows wd cut g = none -> g ∈ flat ts := fun g og hp => by
        have hm : g ∈ (zH rows wd cut).filter (inB rows wd cut) := apL.mpr ⟨mem_gates.mpr og, (aj2 og).mpr hp⟩
        obtain ⟨j, hj⟩ := apH hm
        obtain ⟨hlt, _⟩ := ao1.mp hj
        refine past j g (by omega) ?_
        rw [<- hS, ape hlt]
        exact hj
       have r1 := alA T all L hh hin
       refine T.more L hh hin (fun z => by rw [r1] at z; cases z) fun _ g hg => ?_
       have fr := T.fresh L hh hin g hg
       obtain ⟨j, hj⟩ := apH (mem_gates.mpr (L.op g hg))
       have hq' := hq
       rw [<- hS, apl (by omega)] at hq'
       have pw : (zH rows wd cut).Pairwise gLt := by rw [qd]; exact (aeX _ _).filter _
       obtain ⟨l1, e1⟩ := ao1.mp hj
       obtain ⟨l2, e2⟩ := ao1.mp hq'
       rcases Nat.lt_trichotomy j (i - ((zH rows wd cut).filter (inB rows wd cut)).length) with h | h | h
       ·refine absurd (past (j + ((zH rows wd cut).filter (inB rows wd cut)).length) g (by omega) ?_) fr
        rw [<- hS, apl (by omega), Nat.add_sub_cancel]
        exact hj
       ·left
        rw [<- e1, <- e2]
        congr 1
       ·right
        rw [<- e1, <- e2]
        exact aqF.mp pw _ _ l2 l1 h
     have hf := T2.len gd
     have nd2 := T2.nd
     rw [vh] at nd2 hf
     have few := T.few gd
     refine zi ?_
     refine vy (agK (i := 4) (j := 0) rfl rfl (by rw [aoZ]; omega) (ab0 (zh rfl ?_)))
     refine aaL (agm (vu (zh rfl ?_)))
     walk_at "w"
     refine ⟨fun m ρ cs => ∃ x, ρ = [some (.dat (tab rows)), some (.dat (.int cut)), some (.dat G), some (.dat (.list (S.map gD3))), some (.own (f.M.length + 0)), some (.own (f.M.length + 1)), some (.dat (gD3 q)), some (.dat (yl (ring, l))), x] /\ cs = [.lst ((ts ++ [(ring, l)]).map yl), .set ((flat ts ++ l.take m).map gD3).reverse], ?_, ?_, ?_⟩
     ·refine ⟨_, rfl, ?_⟩
      rw [arE, apC, aps]
      rfl
     ·rintro m d _ _ hd ⟨x, rfl, rfl⟩
      rw [ao8] at hd
      cases hg : l[m]? with
      | none => rw [show (ring, l).2[m]? = none from hg] at hd; cases hd
      | some g =>
       rw [show (ring, l).2[m]? = some g from hg] at hd
       cases hd
       have tk : l.take (m + 1) = l.take m ++ [g] := by
        rw [arB, hg]
        rfl
       have sp : l = l.take m ++ g :: l.drop (m + 1) := by
        obtain ⟨hlt, e⟩ := ao1.mp hg
        rw [<- e, <- asd hlt, aq0]
       have hnew : g ∉ flat ts ++ l.take m := fun z => by
        have nd3 : (flat ts ++ l).Nodup := nd2
        rw [sp, <- aqf] at nd3
        exact (ap3.mp nd3).2.2 g z g (ao4 ..) rfl
       have len : (((flat ts ++ l.take m).map gD3).reverse).length < 300 := by
        rw [asW, aoZ, aph, apP]
        have : (flat ts ++ l).length <= 98 := hf
        rw [aph] at this
        omega
       refine zi (amf (i := 5) (j := 1) rfl rfl len (ab0 (zh rfl ⟨qQ _, fun z => ?_, fun _ => ?_⟩)))
       ·rw [aqy, apm] at z
        obtain ⟨a, ha, e⟩ := z
        exact absurd (adM e ▸ ha) hnew
       ·refine ⟨_, rfl, ?_⟩
        show [OC.lst _, OC.set (gD3 g :: ((flat ts ++ l.take m).map gD3).reverse)] = _
        rw [tk, <- aqf, aps (l₁ := flat ts ++ l.take m), arc]
        rfl
     ·rintro _ _ ⟨x, rfl, rfl⟩
      refine ⟨ts ++ [(ring, l)], _, _, _, rfl, ?_, T2, fun j g hj hg => ?_⟩
      ·rw [aoZ, show (ring, l).2.length = l.length from rfl, apM, vh]
      ·rw [vh]
       rcases asu.mp hj with h | h
       ·exact apx _ (past j g h hg)
       ·rw [h, hq] at hg
        cases hg
        exact api _ (arD hh)
  ·rintro _ _ ⟨ts, u, v, x, rfl, rfl, T, past⟩
   have few := T.few gd
   refine akV (aei (ai7 "str" (zh (i := 4) (d := .list (ts.map yl)) ?_ ⟨_, rfl, aj0 T, by rw [aoZ]; omega, .inl (by rw [aoZ]; omega), fun es pm up => ?_⟩)))
   ·show some (freed _ _ _) = _
    simp [freed]
   ·obtain ⟨us, p, rfl⟩ := qq pm ts rfl
    refine ⟨us, rfl, T.perm p, fun g og => ?_, up⟩
    have hm : g ∈ S := by rw [<- hS]; exact api _ (mem_gates.mpr og)
    obtain ⟨j, hj⟩ := apH hm
    obtain ⟨hlt, _⟩ := ao1.mp hj
    exact (p.flatMap_right _).mem_iff.mpr (past j g (by rw [aoZ]; exact hlt) hj)
section
variable {rows : List (List Int)} {wd : Nat} {cut : Int}
theorem ae5 {q : Bool} {l m : List Gt} (L : LineOk rows wd cut q l) (M : LineOk rows wd cut q m) (hh : l.head? = m.head?) : ∀ i, i < l.length -> i < m.length /\ l[i]? = m[i]? := by
 intro i
 induction i with
 | zero =>
  intro hi
  rw [apV, apV] at hh
  refine ⟨?_, hh⟩
  rw [aoX hi] at hh
  exact (ao1.mp hh.symm).1
 | succ i ih =>
  intro hi
  obtain ⟨h1, h2⟩ := ih (by omega)
  have a1 : l[i]? = some l[i] := aoX (by omega)
  have a2 : l[i + 1]? = some l[i + 1] := aoX hi
  have hn := L.ch i _ _ a1 a2
  rw [a1] at h2
  by_cases hm : i + 1 < m.length
  ·have b2 : m[i + 1]? = some m[i + 1] := aoX hm
   have hn' := M.ch i _ _ h2.symm b2
   rw [hn] at hn'
   exact ⟨hm, by rw [a2, b2, hn']⟩
  ·have hz : m.getLast? = some l[i] := by rw [aqH, show m.length - 1 = i by omega]; exact h2.symm
   have hl := M.last _ hz
   rw [hn] at hl
   cases q with
   | false => cases hl
   | true =>
    rw [if_pos rfl, <- hh, apV, <- a2] at hl
    have := (ash hi L.nd).mp hl
    omega
theorem aj4 {q : Bool} {l m : List Gt} (L : LineOk rows wd cut q l) (M : LineOk rows wd cut q m) (hh : l.head? = m.head?) : l = m := by
 refine aqK fun i => ?_
 by_cases h : i < l.length
 ·exact (ae5 L M hh i h).2
 ·by_cases h2 : i < m.length
  ·exact ((ae5 M L hh.symm i h2).2).symm
  ·rw [apy (by omega), apy (by omega)]
theorem adb {q : Bool} {l : List Gt} (L : LineOk rows wd cut q l) {t : Bool × List Gt} (T : LineOk rows wd cut t.1 t.2) (st : adO rows wd cut t) {h : Gt} (hl : h ∈ l) (ht : h ∈ t.2) : ∀ g ∈ l, g ∈ t.2 := by
 obtain ⟨j, hj⟩ := apH hl
 obtain ⟨hlt, _⟩ := ao1.mp hj
 have up : ∀ n i, i = j + n -> ∀ g, l[i]? = some g -> g ∈ t.2 := fun n => by
  induction n with
  | zero =>
   intro i hi g hg
   rw [hi, Nat.add_zero, hj] at hg
   cases hg
   exact ht
  | succ n ih =>
   intro i hi g hg
   obtain ⟨hl2, _⟩ := ao1.mp hg
   have a1 : l[j + n]? = some l[j + n] := aoX (by omega)
   rw [show i = j + n + 1 by omega] at hg
   exact aaP T (ih _ rfl _ a1) (L.ch _ _ _ a1 hg)
 have dn : ∀ n i, i + n = j -> ∀ g, l[i]? = some g -> g ∈ t.2 := fun n => by
  induction n with
  | zero =>
   intro i hi g hg
   rw [show i = j by omega, hj] at hg
   cases hg
   exact ht
  | succ n ih =>
   intro i hi g hg
   have a1 : l[i + 1]? = some l[i + 1] := aoX (by omega)
   exact aaO T st (L.op g (apc hg)) (ih (i + 1) (by omega) _ a1) (L.ch i _ _ hg a1)
 intro g hg
 obtain ⟨i, hi⟩ := apH hg
 by_cases h' : j <= i
 ·exact up (i - j) i (by omega) g hi
 ·exact dn (j - i) i (by omega) g hi
theorem aj5 {a b : Gt} (h : gLt a b) (h' : gLt b a) : False := by
 unfold gLt at h h'
 omega
theorem ae6 {ts us : List (Bool × List Gt)} (T : Told rows wd cut ts) (U : Told rows wd cut us) (all : ∀ g, opG rows wd cut g = true -> g ∈ flat us) {t : Bool × List Gt} (ht : t ∈ ts) : t ∈ us := by
 have L := T.line t ht
 obtain ⟨h, hh⟩ : ∃ h, t.2.head? = some h := by
  cases q : t.2 with
  | nil => exact absurd q L.ne
  | cons x l => exact ⟨x, rfl⟩
 have hm := arD hh
 obtain ⟨u, hu, hmu⟩ := apN.mp (all h (L.op h hm))
 have M := U.line u hu
 have s1 := adb L M (U.st u hu) hm hmu
 have s2 := adb M L (T.st t ht) hmu hm
 obtain ⟨k, hk⟩ : ∃ k, u.2.head? = some k := by
  cases q : u.2 with
  | nil => exact absurd q M.ne
  | cons x l => exact ⟨x, rfl⟩
 have hkm := arD hk
 have noPrev : ∀ {r : List Gt} {g : Gt}, LineOk rows wd cut true r -> g ∈ r -> yE rows wd cut g ≠ none := fun R hg z => by
  obtain ⟨n, hn, _⟩ := aa6 (R.op _ hg) (aik R hg).2
  rw [z] at hn
  cases hn
 have kind : t.1 = u.1 := by
  cases h1 : t.1 with
  | true =>
   cases h2 : u.1 with
   | true => rfl
   | false =>
    rw [h1] at L
    exact absurd (U.st u hu h2 k hk) (noPrev L (s2 k hkm))
  | false =>
   cases h2 : u.1 with
   | false => rfl
   | true =>
    rw [h2] at M
    exact absurd (T.st t ht h1 h hh) (noPrev M hmu)
 have hd : h = k := by
  cases h1 : t.1 with
  | true =>
   rcases T.least t ht h1 h hh k (s2 k hkm) with e | e
   ·exact e.symm
   ·rcases U.least u hu (kind ▸ h1) k hk h hmu with e' | e'
    ·exact e'
    ·exact (aj5 e e').elim
  | false =>
   have hp := T.st t ht h1 h hh
   obtain ⟨i, hi⟩ := apH hmu
   match i, hi with
   | 0, hi =>
    rw [apV, hi] at hk
    exact Option.some.inj hk
   | i + 1, hi =>
    obtain ⟨hlt, _⟩ := ao1.mp hi
    have a1 : u.2[i]? = some u.2[i] := aoX (by omega)
    have := next_prev (M.op _ (apc a1)) (M.ch i _ _ a1 hi)
    rw [hp] at this
    cases this
 have e2 : t.2 = u.2 := by
  rw [<- kind] at M
  exact aj4 L M (by rw [hh, hk, hd])
 have : t = u := Prod.ext kind e2
 rw [this]
 exact hu
theorem ail {t u : Bool × List Gt} (h : yl t = yl u) : t = u := by
 unfold yl at h
 injection h with h
 injection h with h1 h2
 injection h2 with h2 _
 injection h2 with h2
 refine Prod.ext ?_ ?_
 ·have ne : PyData.str "ring" ≠ PyData.str "run" := fun z => by
   have := aq4 (PyData.str "ring") (by decide +kernel)
   rw [show apw (.str "ring") (.str "ring") = apw (.str "ring") (.str "run") by rw [<- z]] at this
   exact absurd this (by decide +kernel)
  cases h3 : t.1 <;> cases h4 : u.1
  ·rfl
  ·rw [h3, h4] at h1; exact absurd h1.symm ne
  ·rw [h3, h4] at h1; exact absurd h1 ne
  ·rfl
 ·exact ar7 (fun _ _ => ae4) |>.mp h2
theorem vR : ∀ {l m : List PyData}, (∀ d ∈ l, zA d = true) -> (l.Pairwise fun d e => ltD d e = true) -> (m.Pairwise fun d e => ltD d e = true) -> (∀ d, d ∈ l ↔ d ∈ m) -> l = m
 | [], [], _, _, _, _ => rfl
 | [], b :: m, _, _, _, h => nomatch (h b).mpr (ao4 ..)
 | a :: l, [], _, _, _, h => nomatch (h a).mp (ao4 ..)
 | a :: l, b :: m, pl, p, q, h => by
  obtain ⟨p1, p2⟩ := aqz.mp p
  obtain ⟨q1, q2⟩ := aqz.mp q
  have pa := pl a (ao4 ..)
  have pb := pl b ((h b).mpr (ao4 ..))
  have ab : a = b := by
   rcases ao7.mp ((h a).mp (ao4 ..)) with e | e
   ·exact e
   ·rcases ao7.mp ((h b).mpr (ao4 ..)) with e' | e'
    ·exact e'.symm
    ·have := ac0 _ _ _ pa pb pa (p1 b e') (q1 a e)
     rw [vI a pa] at this
     cases this
  subst ab
  rw [vR (fun d hd => pl d (ao3 _ hd)) p2 q2 fun d => ?_]
  constructor
  ·intro hd
   rcases ao7.mp ((h d).mp (ao3 _ hd)) with e | e
   ·have := p1 d hd
    rw [e, vI a pa] at this
    cases this
   ·exact e
  ·intro hd
   rcases ao7.mp ((h d).mpr (ao3 _ hd)) with e | e
   ·have := q1 d hd
    rw [e, vI a pa] at this
    cases this
   ·exact e
theorem aj6 {ts us : List (Bool × List Gt)} (T : Told rows wd cut ts) (U : Told rows wd cut us) (aT : ∀ g, opG rows wd cut g = true -> g ∈ flat ts) (aU : ∀ g, opG rows wd cut g = true -> g ∈ flat us)
  (pT : (ts.map yl).Pairwise fun d e => ltD d e = true) (pU : (us.map yl).Pairwise fun d e => ltD d e = true) : ts = us := by
 have e : ts.map yl = us.map yl := vR (fun d hd => by obtain ⟨t, _, rfl⟩ := apm.mp hd; exact abR t) pT pU fun d => by
  constructor
  ·intro hd
   obtain ⟨t, ht, rfl⟩ := apm.mp hd
   exact apm.mpr ⟨t, ae6 T U aU ht, rfl⟩
  ·intro hd
   obtain ⟨t, ht, rfl⟩ := apm.mp hd
   exact apm.mpr ⟨t, ae6 U T aT ht, rfl⟩
 exact (ar7 fun _ _ => ail).mp e
end
abbrev Pt := Int × Int
def pD (p : Pt) : PyData := .tuple [.int p.1, .int p.2]
theorem aaC {a b : Pt} (h : pD a = pD b) : a = b := by
 obtain ⟨x, y⟩ := a
 obtain ⟨x', y'⟩ := b
 unfold pD at h
 simp at h
 simp [h]
theorem vS (p : Pt) : ab1 (pD p) := ⟨⟨rfl, apt rfl⟩, _, rfl⟩
theorem mem_pD {l : List Pt} {p : Pt} : pD p ∈ l.map pD ↔ p ∈ l := by
 rw [apm]
 exact ⟨fun ⟨q, hq, e⟩ => aaC e ▸ hq, fun h => ⟨p, h, rfl⟩⟩
theorem anL {l : List Pt} (nd : l.Nodup) : SortOk "int" (l.map pD) where
 plain := fun d hd => by obtain ⟨g, _, rfl⟩ := apm.mp hd; rfl
 head := fun d hd => by obtain ⟨g, _, rfl⟩ := apm.mp hd; rfl
 cmp := fun d hd e he => by
  obtain ⟨⟨x, y⟩, _, rfl⟩ := apm.mp hd
  obtain ⟨⟨x', y'⟩, _, rfl⟩ := apm.mp he
  show vW (.tuple [.int x, .int y]) (.tuple [.int x', .int y']) = true
  simp only [vW, vH]
  split
  ·split <;> rfl
  ·rfl
 depth := fun d hd => by obtain ⟨g, _, rfl⟩ := apm.mp hd; exact apt rfl
 nd := ap7.mpr (nd.imp fun {a b} h e => h (aaC e))
theorem aim (l : List Pt) : ∀ d ∈ l.map pD, zA d = true := fun d hd => by obtain ⟨g, _, rfl⟩ := apm.mp hd; rfl
theorem alC {l m : List Pt} (p : (l.map pD).Pairwise fun d e => ltD d e = true) (q : (m.map pD).Pairwise fun d e => ltD d e = true) (h : ∀ x, x ∈ l ↔ x ∈ m) : l = m := by
 have e : l.map pD = m.map pD := vR (aim l) p q fun d => by
  constructor
  ·intro hd
   obtain ⟨x, hx, rfl⟩ := apm.mp hd
   exact mem_pD.mpr ((h x).mp hx)
  ·intro hd
   obtain ⟨x, hx, rfl⟩ := apm.mp hd
   exact mem_pD.mpr ((h x).mpr hx)
 exact (ar7 fun _ _ => aaC).mp e
section
variable (rows : List (List Int)) (wd : Nat) (cut : Int)
def inP (p : Pt) : Bool := zM rows wd p.1 p.2
def hiP (p : Pt) : Bool := hiB rows cut p.1 p.2
def nbL (p : Pt) : List Pt := [(p.1 - 1, p.2), (p.1, p.2 - 1), (p.1, p.2 + 1), (p.1 + 1, p.2)]
def caL (p : Pt) : List Pt := [(p.1 - 1, p.2 - 1), (p.1 - 1, p.2), (p.1, p.2 - 1), (p.1, p.2)]
def asl (p c : Pt) : Pt := (2 * c.1 + 1 - p.1, 2 * c.2 + 1 - p.2)
def aaQ (c : Pt) : Bool := zF rows wd c.1 c.2
def jc (p : Pt) : List Pt := (((nbL p).filter (inP rows wd)).filter fun q => hiP rows cut q == hiP rows cut p) ++ ((((caL p).filter (aaQ rows wd)).filter fun c => yP rows wd cut c.1 c.2 && (vQ rows cut c.1 c.2 == hiP rows cut p)).map (asl p))
inductive Reach (s : Pt) : Pt -> Prop where
 | refl : Reach s s
 | step {p q : Pt} : Reach s p -> q ∈ jc rows wd cut p -> Reach s q
end
section
variable {rows : List (List Int)} {wd : Nat} {cut : Int}
theorem aj7 {a b : Int} (c : zF rows wd a b = true) (h : yP rows wd cut a b = true) : hiB rows cut (a + 1) b = !hiB rows cut a b /\ hiB rows cut a (b + 1) = !hiB rows cut a b /\ hiB rows cut (a + 1) (b + 1) = hiB rows cut a b := by
 unfold yP cg opG at h
 simp only [asj, List.all_nil, as0, ao6] at h
 rw [adF c, afS c, adG c, adH c] at h
 revert h
 cases hiB rows cut a b <;> cases hiB rows cut (a + 1) b <;> cases hiB rows cut a (b + 1) <;> cases hiB rows cut (a + 1) (b + 1) <;> decide
theorem anM {p q : Pt} : q ∈ nbL p ↔ (q = (p.1 - 1, p.2) \/ q = (p.1, p.2 - 1) \/ q = (p.1, p.2 + 1) \/ q = (p.1 + 1, p.2)) := by
 unfold nbL
 simp only [ao7, apZ, or_false]
theorem alD {p q : Pt} (h : q ∈ nbL p) : p ∈ nbL q := by
 rw [anM] at h ⊢
 obtain ⟨x, y⟩ := p
 rcases h with rfl | rfl | rfl | rfl
 ·exact .inr (.inr (.inr (by simp)))
 ·exact .inr (.inr (.inl (by simp)))
 ·exact .inr (.inl (by simp))
 ·exact .inl (by simp)
theorem anN {p c : Pt} : c ∈ caL p ↔ (c = (p.1 - 1, p.2 - 1) \/ c = (p.1 - 1, p.2) \/ c = (p.1, p.2 - 1) \/ c = (p.1, p.2)) := by
 unfold caL
 simp only [ao7, apZ, or_false]
theorem aj8 {p c : Pt} : c ∈ caL p ↔ ((p.1 = c.1 \/ p.1 = c.1 + 1) /\ (p.2 = c.2 \/ p.2 = c.2 + 1)) := by
 rw [anN]
 obtain ⟨x, y⟩ := p
 obtain ⟨a, b⟩ := c
 simp only [Prod.mk.injEq]
 omega
theorem alE (p c : Pt) : asl (asl p c) c = p := by
 obtain ⟨x, y⟩ := p
 unfold asl
 simp only [Prod.mk.injEq]
 omega
theorem anO {p c : Pt} (h : c ∈ caL p) : c ∈ caL (asl p c) := by
 rw [aj8] at h ⊢
 unfold asl
 dsimp only
 omega
theorem af0 {p c : Pt} (h : c ∈ caL p) (cc : aaQ rows wd c = true) (x : yP rows wd cut c.1 c.2 = true) : hiP rows cut (asl p c) = hiP rows cut p /\ inP rows wd (asl p c) = true := by
 obtain ⟨h1, h2, h3⟩ := aj7 cc x
 obtain ⟨i1, i2, i3, i4⟩ := cell_in cc
 obtain ⟨a, b⟩ := c
 obtain ⟨u, v⟩ := p
 rw [aj8] at h
 dsimp only at h h1 h2 h3 i1 i2 i3 i4
 unfold hiP inP asl
 dsimp only
 obtain ⟨hu, hv⟩ := h
 rcases hu with rfl | rfl <;> rcases hv with rfl | rfl
 ·rw [show 2 * u + 1 - u = u + 1 by omega, show 2 * v + 1 - v = v + 1 by omega]
  exact ⟨h3, i3⟩
 ·rw [show 2 * u + 1 - u = u + 1 by omega, show 2 * b + 1 - (b + 1) = b by omega]
  exact ⟨by rw [h1, h2], i2⟩
 ·rw [show 2 * a + 1 - (a + 1) = a by omega, show 2 * v + 1 - v = v + 1 by omega]
  exact ⟨by rw [h1, h2], i4⟩
 ·rw [show 2 * a + 1 - (a + 1) = a by omega, show 2 * b + 1 - (b + 1) = b by omega]
  exact ⟨h3.symm, i1⟩
theorem mem_join {p q : Pt} : q ∈ jc rows wd cut p ↔ ((q ∈ nbL p /\ inP rows wd q = true /\ hiP rows cut q = hiP rows cut p) \/ ∃ c, c ∈ caL p /\ aaQ rows wd c = true /\ yP rows wd cut c.1 c.2 = true /\ vQ rows cut c.1 c.2 = hiP rows cut p /\ q = asl p c) := by
 unfold jc
 rw [apj, apL, apL, apm]
 constructor
 ·rintro (⟨⟨h1, h2⟩, h3⟩ | ⟨c, hc, rfl⟩)
  ·exact .inl ⟨h1, h2, by simpa using h3⟩
  ·obtain ⟨h1, h2⟩ := apL.mp hc
   obtain ⟨h3, h4⟩ := apL.mp h1
   rw [ao6] at h2
   exact .inr ⟨c, h3, h4, h2.1, by simpa using h2.2, rfl⟩
 ·rintro (⟨h1, h2, h3⟩ | ⟨c, h1, h2, h3, h4, rfl⟩)
  ·exact .inl ⟨⟨h1, h2⟩, by simpa using h3⟩
  ·refine .inr ⟨c, apL.mpr ⟨apL.mpr ⟨h1, h2⟩, ?_⟩, rfl⟩
   rw [h3, h4]
   simp
theorem adP {p q : Pt} (h : q ∈ jc rows wd cut p) : inP rows wd q = true /\ hiP rows cut q = hiP rows cut p := by
 rcases mem_join.mp h with ⟨_, h2, h3⟩ | ⟨c, h1, h2, h3, _, rfl⟩
 ·exact ⟨h2, h3⟩
 ·exact ⟨(af0 h1 h2 h3).2, (af0 h1 h2 h3).1⟩
theorem ain {p q : Pt} (hp : inP rows wd p = true) (h : q ∈ jc rows wd cut p) : p ∈ jc rows wd cut q := by
 rcases mem_join.mp h with ⟨h1, h2, h3⟩ | ⟨c, h1, h2, h3, h4, rfl⟩
 ·exact mem_join.mpr (.inl ⟨alD h1, hp, h3.symm⟩)
 ·exact mem_join.mpr (.inr ⟨c, anO h1, h2, h3, h4.trans (af0 h1 h2 h3).1.symm, (alE p c).symm⟩)
theorem Reach.trans {s p q : Pt} (h : Reach rows wd cut s p) (h' : Reach rows wd cut p q) : Reach rows wd cut s q := by
 induction h' with
 | refl => exact h
 | step _ hq ih => exact ih.step hq
theorem Reach.ins {s p : Pt} (hs : inP rows wd s = true) (h : Reach rows wd cut s p) : inP rows wd p = true /\ hiP rows cut p = hiP rows cut s := by
 induction h with
 | refl => exact ⟨hs, rfl⟩
 | step _ hq ih => exact ⟨(adP hq).1, (adP hq).2.trans ih.2⟩
theorem Reach.symm {s p : Pt} (hs : inP rows wd s = true) (h : Reach rows wd cut s p) : Reach rows wd cut p s := by
 induction h with
 | refl => exact .refl
 | step h1 hq ih => exact (Reach.refl.step (ain (h1.ins hs).1 hq)).trans ih
structure Reg (rows : List (List Int)) (wd : Nat) (cut : Int) (r : Bool × List Pt) (h : Pt) : Prop where
 hd : r.2.head? = some h
 up : (r.2.map pD).Pairwise fun d e => ltD d e = true
 mem : ∀ q, q ∈ r.2 ↔ Reach rows wd cut h q
 inn : inP rows wd h = true
 hi : r.1 = hiP rows cut h
structure Regs (rows : List (List Int)) (wd : Nat) (cut : Int) (rs : List (Bool × List Pt)) : Prop where
 reg : ∀ r ∈ rs, ∃ h, Reg rows wd cut r h
 all : ∀ p, inP rows wd p = true -> ∃ r ∈ rs, p ∈ r.2
 ord : rs.Pairwise fun a b => ∀ p q, a.2.head? = some p -> b.2.head? = some q -> ltD (pD p) (pD q) = true
theorem alF {r r' : Bool × List Pt} {h h' : Pt} (R : Reg rows wd cut r h) (R' : Reg rows wd cut r' h') {p : Pt} (hp : p ∈ r.2) (hp' : p ∈ r'.2) : r = r' := by
 have a1 := (R.mem p).mp hp
 have a2 := (R'.mem p).mp hp'
 have e : r.2 = r'.2 := alC R.up R'.up fun x => by
  rw [R.mem, R'.mem]
  exact ⟨fun z => a2.trans ((a1.symm R.inn).trans z), fun z => a1.trans ((a2.symm R'.inn).trans z)⟩
 have eh : h = h' := by
  have := R.hd
  rw [e, R'.hd] at this
  exact (Option.some.inj this).symm
 exact Prod.ext (by rw [R.hi, R'.hi, eh]) e
def qf (t n : Nat) : List Pt := (apo n).flatMap fun (x : Nat) => (apo t).map fun (y : Nat) => ((x : Int), (y : Int))
theorem alG (t n : Nat) : qc t n = (qf t n).map pD := by
 unfold qc qf
 rw [asy]
 congr 1
 funext x
 rw [aqL]
 rfl
theorem mem_pts {p : Pt} : p ∈ qf rows.length wd ↔ inP rows wd p = true := by
 unfold qf inP zM
 rw [apN]
 constructor
 ·rintro ⟨x, hx, h⟩
  obtain ⟨y, hy, rfl⟩ := apm.mp h
  rw [apF] at hx hy
  simp only [ao6, decide_eq_true_eq]
  omega
 ·intro h
  simp only [ao6, decide_eq_true_eq] at h
  obtain ⟨u, v⟩ := p
  dsimp only at h
  refine ⟨u.toNat, apF.mpr (by omega), apm.mpr ⟨v.toNat, apF.mpr (by omega), ?_⟩⟩
  simp only [Prod.mk.injEq]
  omega
theorem abT (t : Nat) : ∀ n, (qf t n).length = t * n
 | 0 => rfl
 | n + 1 => by
  unfold qf
  rw [ark, aqi, aph]
  have := abT t n
  unfold qf at this
  rw [this]
  simp only [List.flatMap_cons, List.flatMap_nil, apC, aoZ, ap2]
  rw [as5]
theorem aj9 {a b : Pt} (h : a.1 < b.1 \/ (a.1 = b.1 /\ a.2 < b.2)) : ltD (pD a) (pD b) = true := by
 obtain ⟨x, y⟩ := a
 obtain ⟨x', y'⟩ := b
 dsimp only at h
 show ltD (.tuple [.int x, .int y]) (.tuple [.int x', .int y']) = true
 have e : ∀ i j : Int, apw (.int i) (.int j) = (i == j) := fun i j => rfl
 simp only [ltD, ltL, e, beq_iff_eq]
 by_cases h1 : x = x'
 ·rw [if_pos h1, if_neg (by omega)]
  exact decide_eq_true (by omega)
 ·rw [if_neg h1]
  exact decide_eq_true (by omega)
theorem alH (t n : Nat) : ((qf t n).map pD).Pairwise fun d e => ltD d e = true := by
 rw [ap7]
 unfold qf
 refine adD n (fun x _ => ?_) fun x x' hx _ a ha b hb => ?_
 ·rw [ap7]
  refine List.Pairwise.imp (fun {a b} h => ?_) asC
  exact aj9 (a := ((x : Int), (a : Int))) (b := ((x : Int), (b : Int))) (.inr ⟨rfl, by show (a : Int) < b; omega⟩)
 ·obtain ⟨y, _, rfl⟩ := apm.mp ha
  obtain ⟨y', _, rfl⟩ := apm.mp hb
  exact aj9 (.inl (by show (x : Int) < x'; omega))
theorem aag (g : Good wd rows) {l : List Pt} (nd : l.Nodup) (h : ∀ p ∈ l, inP rows wd p = true) : l.length <= 49 := by
 have key : ∀ (l m : List Pt), l.Nodup -> (∀ x ∈ l, x ∈ m) -> l.length <= m.length := fun l => by
  induction l with
  | nil => intro m _ _; exact apD _
  | cons a l ih =>
   intro m nd sub
   have ha := sub a (ao4 ..)
   have hn := apX.mp nd
   have le := arj ha
   have hp : 0 < m.length := arC ha
   have := ih (m.erase a) hn.2 (fun y hy => (aq5 (fun (z : y = a) => hn.1 (z ▸ hy))).mpr (sub y (ao3 _ hy)))
   rw [apn]
   omega
 have h1 := key l (qf rows.length wd) nd fun p hp => mem_pts.mpr (h p hp)
 rw [abT] at h1
 exact apu h1 (ar6 g.h2 g.w2)
end
structure Seek (rows : List (List Int)) (wd : Nat) (cut : Int) (st : Pt) (fs ws : List Pt) : Prop where
 nd : fs.Nodup
 wn : ws.Nodup
 fst : st ∈ fs
 re : ∀ p ∈ fs, Reach rows wd cut st p
 sub : ∀ p ∈ ws, p ∈ fs
 cl : ∀ p ∈ fs, p ∉ ws -> ∀ q ∈ jc rows wd cut p, q ∈ fs
theorem Seek.done {rows : List (List Int)} {wd : Nat} {cut : Int} {st : Pt} {fs : List Pt} (S : Seek rows wd cut st fs []) (q : Pt) : q ∈ fs ↔ Reach rows wd cut st q := by
 refine ⟨S.re q, fun h => ?_⟩
 induction h with
 | refl => exact S.fst
 | step _ hq ih => exact S.cl _ ih apZ _ hq
theorem Seek.turn {rows : List (List Int)} {wd : Nat} {cut : Int} {st p : Pt} {fs ws new : List Pt} (S : Seek rows wd cut st fs (ws ++ [p])) (nd : (fs ++ new).Nodup) (hn : ∀ q ∈ new, q ∈ jc rows wd cut p) (all : ∀ q ∈ jc rows wd cut p, q ∈ fs ++ new) : Seek rows wd cut st (fs ++ new) (ws ++ new) where
 nd := nd
 wn := by
  obtain ⟨n1, n2, n3⟩ := ap3.mp nd
  obtain ⟨m1, _, _⟩ := ap3.mp S.wn
  exact ap3.mpr ⟨m1, n2, fun a ha b hb => n3 a (S.sub a (apx _ ha)) b hb⟩
 fst := apx _ S.fst
 re := fun q hq => by
  rcases apj.mp hq with h | h
  ·exact S.re q h
  ·exact (S.re p (S.sub p (by simp))).step (hn q h)
 sub := fun q hq => by
  rcases apj.mp hq with h | h
  ·exact apx _ (S.sub q (apx _ h))
  ·exact api _ h
 cl := fun r hr nw q hq => by
  by_cases e : r = p
  ·rw [e] at hq
   exact all q hq
  ·rcases apj.mp hr with h | h
   ·refine apx _ (S.cl r h (fun z => ?_) q hq)
    rcases apj.mp z with z | z
    ·exact nw (apx _ z)
    ·exact e (apd.mp z)
   ·exact absurd (api _ h) nw
theorem Seek.few {rows : List (List Int)} {wd : Nat} {cut : Int} {st : Pt} {fs ws : List Pt} (S : Seek rows wd cut st fs ws) (g : Good wd rows) (hi : inP rows wd st = true) : fs.length <= 49 := aag g S.nd fun p hp => ((S.re p hp).ins hi).1
abbrev ab7 (fs : List Pt) : List (PyData × PyData) := fs.map fun p => (pD p, .bool true)
theorem vi (fs : List Pt) : (ab7 fs).map (·.1) = fs.map pD := by rw [aqL]; rfl
theorem aka {fs : List Pt} {q : Pt} (h : q ∉ fs) : dput (pD q) (.bool true) (ab7 fs) = ab7 (fs ++ [q]) := by
 unfold dput
 rw [if_neg (by rw [vi, mem_pD]; exact h)]
 unfold ab7
 rw [aps]
 rfl
def ae7 (r : Bool × List Pt) : PyData := .tuple [.str (if r.1 = true then "high" else "low"), .tuple (r.2.map pD)]
abbrev TP := List (List Int) × Nat × Int × Int
abbrev aoE (K : ao0) : Sp := spD K 3 (fun (c : TP) xs => xs = [.dat (tab c.1), .dat (.int c.2.2.1), .dat (.int c.2.2.2)] /\ Good c.2.1 c.1) fun c r => r = .list (((nbL (c.2.2.1, c.2.2.2)).filter (inP c.1 c.2.1)).map pD)
theorem aoF (F : Def K mg "neighbours" jg ph) (uak : FnIn P w K mg base k "has_point" ph (aeU K)) : FnIn P w K mg base (k + 1) "neighbours" ph (aoE K) := by
 refine F.ok sc_neighbours rfl fun fa cdv A outer s H E hr => ⟨_, (zc (zC (i := 3) sc_neighbours.nd rfl (Or.inl rfl) (zV (za (zz (za (zq ym (pv 1) ze) (za (pv 2) zb))) (za (zz (za (pv 1) (za (zq ym (pv 2) ze) zb))) (za (zz (za (pv 1) (za (zq zQ (pv 2) ze) zb))) (za (zz (za (zq zQ (pv 1) ze) (za (pv 2) zb))) zb)))))) (zg (zu (yv (N := pG) (own := 2) (fr := [0]) ⟨rfl, by decide +kernel, of_decide_eq_true (by kernel_rfl), of_decide_eq_true (by kernel_rfl), of_decide_eq_true (by kernel_rfl), rfl⟩ rfl (zY (K := K) rfl (pv 3)) (fun _ _ _ _ => (zT (K := K) (n := 2) rfl rfl (zo (zk (i := 0) (show (pG : List Str).Nodup by decide +kernel) rfl (Or.inl rfl) (Or.inr rfl)) (zo (zk (i := 1) (show (pG : List Str).Nodup by decide +kernel) rfl (Or.inl rfl) (Or.inr rfl)) zN)))) (fun _ _ _ _ => (jE (z7 (K := K) rfl (zd uak hr rfl (za (pv 2) (za (pv 0) (za (pv 1) zb)))) (fun _ => rfl)))) (fun _ _ _ _ => (zz (za (pv 0) (za (pv 1) zb)))) rfl rfl (fun _ => rfl))))), ?_⟩
 rintro f xs ⟨rows, wd, x, y⟩ hl ⟨rfl, g⟩
 try dsimp only [zI, zj]
 dsimp only at *
 refine yZ (fun ρ => ρ = [some (.dat (tab rows)), some (.dat (.int x)), some (.dat (.int y)), some (.dat (.list ((nbL (x, y)).map pD)))]) ?_ ?_
 ·walk_at "w"
  rfl
 rintro _ rfl
 refine ya (PEdO.ped (adl (A := pD) (B := pD) (inP rows wd) (nbL (x, y)) (yy (zh rfl ⟨_, rfl, rfl, apt rfl, ?_, rfl⟩))))
 rintro D ⟨a, b⟩ ρ' es hg ho hes
 obtain ⟨us, hus, rfl⟩ := ho
 match us, hus with
 | [u1, u2], _ =>
  refine yH rfl (zt (zi (zt (zi (z9 (yN (zm (rows, wd, a, b) ?_)))))))
  walk_at "w"
  rintro _ rfl
  refine ⟨_, rfl, rfl, yq (fun h => ?_) fun h => ?_⟩
  ·refine yF hes ?_
   walk_at "w"
   exact ⟨⟨[_, _], rfl, rfl⟩, rfl⟩
  ·exact ⟨[_, _], rfl, rfl⟩
abbrev aoG (K : ao0) : Sp := spD K 3 (fun (c : TP) xs => xs = [.dat (tab c.1), .dat (.int c.2.2.1), .dat (.int c.2.2.2)] /\ Good c.2.1 c.1) fun c r => r = .list (((caL (c.2.2.1, c.2.2.2)).filter (aaQ c.1 c.2.1)).map pD)
theorem aoH (F : Def K mg "cells_at" qu ph) (uaw : FnIn P w K mg base k "has_cell" ph (abM K)) : FnIn P w K mg base (k + 1) "cells_at" ph (aoG K) := by
 refine F.ok sc_cells_at rfl fun fa cdv A outer s H E hr => ⟨_, (zc (zC (i := 3) sc_cells_at.nd rfl (Or.inl rfl) (zV (za (zz (za (zq ym (pv 1) ze) (za (zq ym (pv 2) ze) zb))) (za (zz (za (zq ym (pv 1) ze) (za (pv 2) zb))) (za (zz (za (pv 1) (za (zq ym (pv 2) ze) zb))) (za (zz (za (pv 1) (za (pv 2) zb))) zb)))))) (zg (zu (yv (N := pG) (own := 2) (fr := [0]) ⟨rfl, by decide +kernel, of_decide_eq_true (by kernel_rfl), of_decide_eq_true (by kernel_rfl), of_decide_eq_true (by kernel_rfl), rfl⟩ rfl (zY (K := K) rfl (pv 3)) (fun _ _ _ _ => (zT (K := K) (n := 2) rfl rfl (zo (zk (i := 0) (show (pG : List Str).Nodup by decide +kernel) rfl (Or.inl rfl) (Or.inr rfl)) (zo (zk (i := 1) (show (pG : List Str).Nodup by decide +kernel) rfl (Or.inl rfl) (Or.inr rfl)) zN)))) (fun _ _ _ _ => (jE (z7 (K := K) rfl (zd uaw hr rfl (za (pv 2) (za (pv 0) (za (pv 1) zb)))) (fun _ => rfl)))) (fun _ _ _ _ => (zz (za (pv 0) (za (pv 1) zb)))) rfl rfl (fun _ => rfl))))), ?_⟩
 rintro f xs ⟨rows, wd, x, y⟩ hl ⟨rfl, g⟩
 try dsimp only [zI, zj]
 dsimp only at *
 refine yZ (fun ρ => ρ = [some (.dat (tab rows)), some (.dat (.int x)), some (.dat (.int y)), some (.dat (.list ((caL (x, y)).map pD)))]) ?_ ?_
 ·walk_at "w"
  rfl
 rintro _ rfl
 refine ya (PEdO.ped (adl (A := pD) (B := pD) (aaQ rows wd) (caL (x, y)) (yy (zh rfl ⟨_, rfl, rfl, apt rfl, ?_, rfl⟩))))
 rintro D ⟨a, b⟩ ρ' es hg ho hes
 obtain ⟨us, hus, rfl⟩ := ho
 match us, hus with
 | [u1, u2], _ =>
  refine yH rfl (zt (zi (zt (zi (z9 (yN (zm (rows, wd, a, b) ?_)))))))
  walk_at "w"
  rintro _ rfl
  refine ⟨_, rfl, rfl, yq (fun h => ?_) fun h => ?_⟩
  ·refine yF hes ?_
   walk_at "w"
   exact ⟨⟨[_, _], rfl, rfl⟩, rfl⟩
  ·exact ⟨[_, _], rfl, rfl⟩
abbrev TC := List (List Int) × Nat × Int × Pt
abbrev aoI (c : TC) (xs : List DV) : Prop := xs = [.dat (tab c.1), .dat (.int c.2.2.1), .dat (pD c.2.2.2)] /\ Good c.2.1 c.1 /\ inP c.1 c.2.1 c.2.2.2 = true
abbrev akb (K : ao0) : Sp := spD K 3 aoI fun c r => r = .list ((jc c.1 c.2.1 c.2.2.1 c.2.2.2).map pD)
theorem ae8 {α : Type} {p q : α -> Bool} {l : List α} {n : Nat} (h : l.length <= n) : ((l.filter p).filter q).length <= n := apu (apK _ _) (apu (apK _ _) h)
theorem alI (F : Def K mg "joined" aac pB) (uag : FnIn P w K mg base k "stands_high" pB (vP K)) (ub1 : FnIn P w K mg base k "neighbours" ph (aoE K)) (ub2 : FnIn P w K mg base k "cells_at" ph (aoG K))
  (ua1 : FnIn P w K mg base k "is_crossed" pq (aay K)) (ua0 : FnIn P w K mg base k "has_high_middle" pq (ajO K)) : FnIn P w K mg base (k + 1) "joined" pB (akb K) := by
 refine F.ok sc_joined rfl fun fa cdv A outer s H E hr => ⟨_, (zc (yg (pv 2) (zT (K := K) (n := 2) rfl rfl (zo (zk (i := 3) sc_joined.nd rfl (Or.inr rfl) (Or.inl rfl)) (zo (zk (i := 4) sc_joined.nd rfl (Or.inr rfl) (Or.inl rfl)) zN)))) (zc (zC (i := 5) sc_joined.nd rfl (Or.inr rfl) (zd uag hr rfl (za (pv 0) (za (pv 1) (za (pv 2) zb))))) (zc (jF (i := 6) (N := ["other", "rows", "cut", "high"]) (own := 1) (fr := [0, 1, 5]) ⟨rfl, by decide +kernel, of_decide_eq_true (by kernel_rfl), of_decide_eq_true (by kernel_rfl), of_decide_eq_true (by kernel_rfl), rfl⟩ rfl sc_joined.nd rfl (Or.inl rfl) (zY (K := K) rfl (zd ub1 hr rfl (za (pv 0) (za (pv 3) (za (pv 4) zb))))) (fun _ _ _ _ => (zk (i := 0) (show (["other", "rows", "cut", "high"] : List Str).Nodup by decide +kernel) rfl (Or.inl rfl) (Or.inr rfl))) (fun _ _ _ _ => (jE (zL (vF (K := K) rfl hr.units) (zd uag hr rfl (za (pv 1) (za (pv 2) (za (pv 0) zb)))) (pv 3) (zR _)))) (fun _ _ _ _ => (pv 0)) rfl rfl (fun _ => rfl) (Or.inl rfl) rfl) (zc (jF (i := 7) (N := pX) (own := 2) (fr := [0, 1, 3, 4, 5]) ⟨rfl, by decide +kernel, of_decide_eq_true (by kernel_rfl), of_decide_eq_true (by kernel_rfl), of_decide_eq_true (by kernel_rfl), rfl⟩ rfl sc_joined.nd rfl (Or.inl rfl) (zY (K := K) rfl (zd ub2 hr rfl (za (pv 0) (za (pv 3) (za (pv 4) zb))))) (fun _ _ _ _ => (zT (K := K) (n := 2) rfl rfl (zo (zk (i := 0) (show (pX : List Str).Nodup by decide +kernel) rfl (Or.inl rfl) (Or.inr rfl)) (zo (zk (i := 1) (show (pX : List Str).Nodup by decide +kernel) rfl (Or.inl rfl) (Or.inr rfl)) zN)))) (fun _ _ _ _ => (jE (PW.pt (acN (z7 (K := K) rfl (zd ua1 hr rfl (za (pv 2) (za (pv 3) (za (zz (za (pv 0) (za (pv 1) zb))) zb)))) (fun _ => rfl)) (aaT (zL (vF (K := K) rfl hr.units) (zd ua0 hr rfl (za (pv 2) (za (pv 3) (za (zz (za (pv 0) (za (pv 1) zb))) zb)))) (pv 6) (zR _))))))) (fun _ _ _ _ => (zz (za (zq ym (zq zQ (zq vC ze (pv 0)) ze) (pv 4)) (za (zq ym (zq zQ (zq vC ze (pv 1)) ze) (pv 5)) zb)))) rfl rfl (fun _ => rfl) (Or.inl rfl) rfl) (zg (zu (zq (jy (K := K) rfl) (pv 6) (pv 7)))))))), ?_⟩
 rintro f xs ⟨rows, wd, cut, ⟨x, y⟩⟩ hl ⟨rfl, g, ip⟩
 try dsimp only [zI, zj]
 dsimp only at *
 refine zW (zE (zh rfl (yH rfl (zt (zi (zt (zi (z9 ?_))))))))
 refine yZ (fun ρ => ρ = [some (.dat (tab rows)), some (.dat (.int cut)), some (.dat (pD (x, y))), some (.dat (.int x)), some (.dat (.int y)), some (.dat (.bool (hiP rows cut (x, y)))), none, none]) (zE (zm (rows, wd, cut, x, y) ?_)) ?_
 ·walk_at "w"
  rintro _ rfl
  exact zi rfl
 rintro _ rfl
 refine yZ (fun ρ => ρ = [some (.dat (tab rows)), some (.dat (.int cut)), some (.dat (pD (x, y))), some (.dat (.int x)), some (.dat (.int y)), some (.dat (.bool (hiP rows cut (x, y)))), some (.dat (.list ((((nbL (x, y)).filter (inP rows wd)).filter fun q => hiP rows cut q == hiP rows cut (x, y)).map pD))), none])
  (zE (PEdO.ped (adl (A := pD) (B := pD) (fun q => hiP rows cut q == hiP rows cut (x, y)) ((nbL (x, y)).filter (inP rows wd)) (yy (zm (rows, wd, x, y) ?_))))) ?_
 ·walk_at "w"
  rintro _ rfl
  refine ⟨_, rfl, rfl, apu (apK _ _) (apt rfl), ?_, zi rfl⟩
  rintro D ⟨a, b⟩ ρ' es hg ho hes
  have hi : inP rows wd (a, b) = true := (apL.mp hg).2
  obtain ⟨us, hus, rfl⟩ := ho
  match us, hus with
  | [u1], _ =>
   refine zi (yt (jb (zm (rows, wd, cut, a, b) ?_)))
   walk_at "w"
   rintro _ rfl
   walk_at "w"
   refine yq (fun h => ?_) fun h => ?_
   ·refine yF hes ?_
    walk_at "w"
    exact ⟨⟨[_], rfl, rfl⟩, rfl⟩
   ·exact ⟨[_], rfl, rfl⟩
 rintro _ rfl
 refine yZ (fun ρ => ρ = [some (.dat (tab rows)), some (.dat (.int cut)), some (.dat (pD (x, y))), some (.dat (.int x)), some (.dat (.int y)), some (.dat (.bool (hiP rows cut (x, y)))), some (.dat (.list ((((nbL (x, y)).filter (inP rows wd)).filter fun q => hiP rows cut q == hiP rows cut (x, y)).map pD))), some (.dat (.list (((((caL (x, y)).filter (aaQ rows wd)).filter fun c => yP rows wd cut c.1 c.2 && (vQ rows cut c.1 c.2 == hiP rows cut (x, y))).map (asl (x, y))).map pD)))])
  (zE (PEdO.ped (adl (A := pD) (B := fun c => pD (asl (x, y) c)) (fun c => yP rows wd cut c.1 c.2 && (vQ rows cut c.1 c.2 == hiP rows cut (x, y))) ((caL (x, y)).filter (aaQ rows wd)) (yy (zm (rows, wd, x, y) ?_))))) ?_
 ·walk_at "w"
  rintro _ rfl
  refine ⟨_, rfl, rfl, apu (apK _ _) (apt rfl), ?_, zi (by rw [aqL]; rfl)⟩
  rintro D ⟨a, b⟩ ρ' es hg ho hes
  have hi : zF rows wd a b = true := (apL.mp hg).2
  obtain ⟨us, hus, rfl⟩ := ho
  match us, hus with
  | [u1, u2], _ =>
   refine yH rfl (zt (zi (zt (zi (z9 (aci (yN (zm (rows, wd, cut, a, b) ?_))))))))
   walk_at "w"
   rintro _ rfl
   refine ⟨_, rfl, yq (fun h1 => ?_) fun h1 => ?_⟩
   ·have h1 : yP rows wd cut a b = true := h1
    refine yt (jb (zm (rows, wd, cut, a, b) ?_))
    walk_at "w"
    rintro _ rfl
    walk_at "w"
    refine ⟨by dsimp only; rw [h1, ari]; rfl, yq (fun h => ?_) fun h => ?_⟩
    ·refine yF hes ?_
     walk_at "w"
     exact ⟨⟨[_, _], rfl, rfl⟩, rfl⟩
    ·exact ⟨[_, _], rfl, rfl⟩
   ·have h1 : yP rows wd cut a b = false := h1
    exact ⟨by dsimp only; rw [h1, aqS], ⟨[_, _], rfl, rfl⟩⟩
 rintro _ rfl
 refine ya (jz (zh rfl ⟨_, rfl, zh rfl ⟨_, rfl, ?_, ?_⟩⟩))
 ·rw [aoZ, aoZ, aoZ]
  have h1 := ae8 (p := inP rows wd) (q := fun q => hiP rows cut q == hiP rows cut (x, y)) (l := nbL (x, y)) (n := 4) (ao5 4)
  have h2 := ae8 (p := aaQ rows wd) (q := fun c => yP rows wd cut c.1 c.2 && (vQ rows cut c.1 c.2 == hiP rows cut (x, y))) (l := caL (x, y)) (n := 4) (ao5 4)
  omega
 ·rw [<- aps]
  rfl
def aoJ (cs : List OC) : Nat := match cs with
 | [.dic kvs, .lst es] => 2 * (100 - kvs.length) + es.length
 | _ => 0
abbrev akc (K : ao0) : Sp := spD K 3 aoI fun c r => ∃ l : List Pt, r = .tuple (l.map pD) /\ ((l.map pD).Pairwise fun d e => ltD d e = true) /\ ∀ q, q ∈ l ↔ Reach c.1 c.2.1 c.2.2.1 c.2.2.2 q
theorem alJ (F : Def K mg "all_joined" jl pC) (uaE : mg "sorted" = none) (uaC : mg "tuple" = none) (ub3 : FnIn P w K mg base k "joined" pB (akb K)) : FnIn P w K mg base (k + 1) "all_joined" pC (akc K) := by
 refine F.ok sc_all_joined rfl fun fa cdv A outer s H E hr => ⟨_, (zc (zC (i := 3) sc_all_joined.nd rfl (Or.inl rfl) (ak0 (w := w) (K := K) rfl rfl hr.units (pv 2) vm)) (zc (zC (i := 4) sc_all_joined.nd rfl (Or.inl rfl) (zV (za (pv 2) zb))) (zc (abb apR (z7 (K := K) rfl (pv 4) (fun _ => rfl)) (zc (zC (i := 5) sc_all_joined.nd rfl (Or.inl rfl) (amO aqr PySem.F.slot_list_pop PySem.F.type_list_pop amP (pv 4))) (zg (jr apR rfl (zY (K := K) rfl (zd ub3 hr rfl (za (pv 0) (za (pv 1) (za (pv 5) zb))))) (zk (i := 6) sc_all_joined.nd rfl (Or.inl rfl) (Or.inr rfl)) (zg (yz (zL (adk (w := w) (K := K) rfl rfl hr.units) (pv 6) (pv 3) rfl) (zc (yg vm (aaj (pv 3) (pv 6) (v5 (w := w) (K := K) rfl rfl hr.units))) (zg (z6 (agd aqr aqO aqP qU (pv 4) (za (pv 6) zb))))) zO)))))) (zg (zu (qT (aaF (K := K) rfl) rfl uaC asz (za (zx (aex (w := w) (K := K) rfl rfl rfl hr.units) rfl uaE ass (za (pv 3) zb)) zb))))))), ?_⟩
 rintro f xs ⟨rows, wd, cut, st⟩ hl ⟨rfl, g, ip⟩
 try dsimp only [zI, zj]
 dsimp only at *
 refine afx (w := w) (agL (ak2 fun p => zh rfl ⟨vS st, aiG ⟨show 3 < 7 by decide, fun D0 => ?_⟩⟩))
 refine agL (aa0 (acm (zp (zh rfl (zJ ⟨[pD st], rfl, apt rfl, show 4 < 7 by decide, fun D1 => ?_⟩)))))
 refine ajr (fun ρ cs => ∃ (u5 u6 : Option DV) (fs : List Pt), ρ = [some (.dat (tab rows)), some (.dat (.int cut)), some (.dat (pD st)), some (.own (f.M.length + 0)), some (.own (f.M.length + 1)), u5, u6] /\ cs = [.dic (ab7 fs), .lst []] /\ Seek rows wd cut st fs [])
  (agJ (fun ρ cs => ∃ (u5 u6 : Option DV) (fs ws : List Pt), ρ = [some (.dat (tab rows)), some (.dat (.int cut)), some (.dat (pD st)), some (.own (f.M.length + 0)), some (.own (f.M.length + 1)), u5, u6] /\ cs = [.dic (ab7 fs), .lst (ws.map pD)] /\ Seek rows wd cut st fs ws) (fun _ cs => aoJ cs) ⟨none, none, [st], [st], rfl, rfl, ?_⟩ ?_) ?_
 ·exact ⟨by simp, by simp, apd.mpr rfl, fun p hp => by rw [apd.mp hp]; exact .refl, fun p hp => hp, fun p hp nw => absurd hp nw⟩
 ·rintro _ _ ⟨u5, u6, fs, ws, rfl, rfl, S⟩
  have few := S.few g ip
  rcases List.eq_nil_or_concat ws with rfl | ⟨ws', p, rfl⟩
  ·refine agT (yN (zh (i := 4) (d := .list []) ?_ ⟨false, rfl, ?_⟩))
   ·show some (freed _ _ _) = _
    simp [freed]
   ·rw [if_neg aoY]
    exact ⟨u5, u6, fs, rfl, rfl, S⟩
  ·rw [List.concat_eq_append] at S ⊢
   have hp := S.sub p (by simp)
   have ipp := ((S.re p hp).ins ip).1
   have fw : (ws' ++ [p]).length <= 49 := aag g S.wn fun q hq => ((S.re q (S.sub q hq)).ins ip).1
   rw [aph] at fw
   refine agT (yN (zh (i := 4) (d := .list ((ws' ++ [p]).map pD)) ?_ ⟨true, ?_, ?_⟩))
   ·show some (freed _ _ _) = _
    simp [freed]
   ·rw [aps]
    show some _ = some _
    simp
   ·rw [if_pos rfl]
    refine vy (aov (i := 4) (j := 1) (es := ws'.map pD) (d := pD p) rfl (by rw [aps]; rfl) ?_)
    refine aaL (yy (zm (rows, wd, cut, p) ?_))
    walk_at "w"
    rintro _ rfl
    refine ⟨_, rfl, fun i ρ cs => ∃ (u6 : Option DV) (new : List Pt), ρ = [some (.dat (tab rows)), some (.dat (.int cut)), some (.dat (pD st)), some (.own (f.M.length + 0)), some (.own (f.M.length + 1)), some (.dat (pD p)), u6] /\ cs = [.dic (ab7 (fs ++ new)), .lst ((ws' ++ new).map pD)] /\ (fs ++ new).Nodup /\ (∀ q ∈ new, q ∈ jc rows wd cut p) /\ ∀ q ∈ (jc rows wd cut p).take i, q ∈ fs ++ new, ⟨u6, [], rfl, ?_, ?_, ?_, ?_⟩, ?_, ?_⟩
    ·rw [apC, apC]
     rfl
    ·rw [apC]
     exact S.nd
    ·exact fun q hq => nomatch hq
    ·exact fun q hq => by rw [arE] at hq; cases hq
    ·rintro i d _ _ hd ⟨u6, new, rfl, rfl, nd, hn, tk⟩
     rw [ao8] at hd
     cases eq : (jc rows wd cut p)[i]? with
     | none => rw [eq] at hd; cases hd
     | some q =>
      rw [eq] at hd
      cases hd
      have hq : q ∈ jc rows wd cut p := apc eq
      have few2 : (fs ++ new).length <= 49 := aag g nd fun r hr => by
       rcases apj.mp hr with h | h
       ·exact ((S.re r h).ins ip).1
       ·exact (adP (hn r h)).1
      rw [aph] at few2
      have tk' : (jc rows wd cut p).take (i + 1) = (jc rows wd cut p).take i ++ [q] := by rw [aqe, eq]; rfl
      have dec : decide (pD q ∈ (ab7 (fs ++ new)).map (·.1)) = decide (q ∈ fs ++ new) := by
       rw [vi]
       exact decide_eq_decide.mpr mem_pD
      refine zi (am8 (ak1 (neg := true) (i := 3) (j := 0) rfl rfl (ab0 (zh rfl ⟨vS q, ?_⟩))))
      rw [if_pos rfl, dec]
      refine yq (fun h => ?_) fun h => ?_
      ·have hq' : q ∉ fs ++ new := by simpa using h
       refine vy (agS (i := 3) (j := 0) rfl rfl (by rw [aoZ, aph]; omega) (aiG (zh rfl ⟨vS q, ?_⟩)))
       refine agK (i := 4) (j := 1) rfl rfl (by rw [aoZ, aph]; omega) (ab0 (zh rfl ?_))
       refine ⟨_, new ++ [q], rfl, ?_, ?_, ?_, ?_⟩
       ·rw [aka hq', aqf, <- aqf ws', aps (l₁ := ws' ++ new)]
        rfl
       ·rw [<- aqf]
        exact ap3.mpr ⟨nd, by simp, fun a ha b hb e => hq' (by rw [apd.mp hb] at e; exact e ▸ ha)⟩
       ·intro r hr
        rcases apj.mp hr with h | h
        ·exact hn r h
        ·rw [apd.mp h]; exact hq
       ·intro r hr
        rw [tk'] at hr
        rw [<- aqf]
        rcases apj.mp hr with h | h
        ·exact apx _ (tk r h)
        ·exact api _ h
      ·have hq' : q ∈ fs ++ new := apT fun z => by rw [decide_eq_false z] at h; cases h
       refine afy ⟨_, new, rfl, rfl, nd, hn, fun r hr => ?_⟩
       rw [tk'] at hr
       rcases apj.mp hr with h | h
       ·exact tk r h
       ·rw [apd.mp h]; exact hq'
    ·rintro _ _ ⟨u6, new, rfl, rfl, nd, hn, tk⟩
     rw [aoZ] at tk
     rw [apM] at tk
     refine ⟨⟨_, u6, fs ++ new, ws' ++ new, rfl, rfl, S.turn nd hn tk⟩, ?_⟩
     have few2 := (S.turn nd hn tk).few g ip
     show 2 * (100 - (ab7 (fs ++ new)).length) + ((ws' ++ new).map pD).length < 2 * (100 - (ab7 fs).length) + ((ws' ++ [p]).map pD).length
     simp only [aoZ, aph, apO] at few2 ⊢
     omega
 rintro _ _ ⟨u5, u6, fs, rfl, rfl, S⟩
 have few := S.few g ip
 refine amg (anf "int" (i := 3) (j := 0) rfl rfl (by rw [vi]; exact anL S.nd) (by rw [aoZ]; omega) fun es pm up => ?_)
 rw [vi] at pm
 obtain ⟨l, pl, rfl⟩ := qq pm fs rfl
 exact ⟨l, rfl, up, fun q => by rw [pl.mem_iff]; exact S.done q⟩
theorem aio {rows : List (List Int)} {wd : Nat} {cut : Int} {st : Pt} {l : List Pt} (up : (l.map pD).Pairwise fun d e => ltD d e = true) (mem : ∀ q, q ∈ l ↔ Reach rows wd cut st q) (least : ∀ q, Reach rows wd cut st q -> q = st \/ ltD (pD st) (pD q) = true) : l.head? = some st := by
 have hs : st ∈ l := (mem st).mpr .refl
 cases l with
 | nil => cases hs
 | cons a l =>
  rcases ao7.mp hs with e | e
  ·rw [e]; rfl
  ·have h1 := (aqz.mp up).1 (pD st) (mem_pD.mpr e)
   rcases least a ((mem a).mp (ao4 ..)) with e' | e'
   ·rw [e']; rfl
   ·have := ac0 (pD a) (pD st) (pD a) rfl rfl rfl h1 e'
    rw [vI _ rfl] at this
    cases this
structure Sofar (rows : List (List Int)) (wd : Nat) (cut : Int) (ps : List Pt) (rs : List (Bool × List Pt)) (ks : List PyData) : Prop where
 reg : ∀ r ∈ rs, ∃ h, Reg rows wd cut r h /\ h ∈ ps
 all : ∀ p ∈ ps, ∃ r ∈ rs, p ∈ r.2
 ord : rs.Pairwise fun a b => ∀ p q, a.2.head? = some p -> b.2.head? = some q -> ltD (pD p) (pD q) = true
 key : ∀ p, pD p ∈ ks ↔ ∃ r ∈ rs, p ∈ r.2
theorem Sofar.done {rows : List (List Int)} {wd : Nat} {cut : Int} {rs : List (Bool × List Pt)} {ks : List PyData} (S : Sofar rows wd cut (qf rows.length wd) rs ks) : Regs rows wd cut rs :=
 ⟨fun r hr => let ⟨h, R, _⟩ := S.reg r hr; ⟨h, R⟩, fun p hp => S.all p (mem_pts.mpr hp), S.ord⟩
theorem Sofar.more {rows : List (List Int)} {wd : Nat} {cut : Int} {ps : List Pt} {rs : List (Bool × List Pt)} {ks : List PyData} (S : Sofar rows wd cut ps rs ks) {p : Pt} {qs : List Pt} (e : qf rows.length wd = ps ++ p :: qs) (hn : pD p ∉ ks) {l : List Pt} (up : (l.map pD).Pairwise fun d e => ltD d e = true) (mem : ∀ q, q ∈ l ↔ Reach rows wd cut p q) :
  Sofar rows wd cut (ps ++ [p]) (rs ++ [(hiP rows cut p, l)]) (l.map pD ++ ks) := by
 have ip : inP rows wd p = true := mem_pts.mp (by rw [e]; simp)
 have hup := alH rows.length wd
 rw [e, aps, apq, arO] at hup
 obtain ⟨_, u2, u3⟩ := hup
 obtain ⟨u4, _⟩ := aqz.mp u2
 have free : ∀ q, Reach rows wd cut p q -> ∀ r ∈ rs, q ∉ r.2 := fun q hq r hr hm => by
  obtain ⟨h, R, _⟩ := S.reg r hr
  exact hn ((S.key p).mpr ⟨r, hr, (R.mem p).mpr (((R.mem q).mp hm).trans (hq.symm ip))⟩)
 have least : ∀ q, Reach rows wd cut p q -> q = p \/ ltD (pD p) (pD q) = true := fun q hq => by
  have iq := (hq.ins ip).1
  have hm := mem_pts.mpr iq
  rw [e, apj, ao7] at hm
  rcases hm with h | h | h
  ·obtain ⟨r, hr, hm⟩ := S.all q h
   exact absurd hm (free q hq r hr)
  ·exact .inl h
  ·exact .inr (u4 _ (mem_pD.mpr h))
 have hd := aio up mem least
 have R : Reg rows wd cut (hiP rows cut p, l) p := ⟨hd, up, mem, ip, rfl⟩
 refine ⟨fun r hr => ?_, fun q hq => ?_, ?_, fun q => ?_⟩
 ·rcases apj.mp hr with h | h
  ·obtain ⟨h', R', m⟩ := S.reg r h
   exact ⟨h', R', apx _ m⟩
  ·rw [apd.mp h]
   exact ⟨p, R, by simp⟩
 ·rcases apj.mp hq with h | h
  ·obtain ⟨r, hr, hm⟩ := S.all q h
   exact ⟨r, apx _ hr, hm⟩
  ·rw [apd.mp h]
   exact ⟨_, api _ (apd.mpr rfl), (mem p).mpr .refl⟩
 ·refine arO.mpr ⟨S.ord, by simp, fun a ha b hb x y hx hy => ?_⟩
  rw [apd.mp hb, hd] at hy
  cases hy
  obtain ⟨h, R', m⟩ := S.reg a ha
  rw [R'.hd] at hx
  cases hx
  exact u3 _ (mem_pD.mpr m) _ (ao4 ..)
 ·rw [apj, mem_pD, S.key]
  constructor
  ·rintro (h | ⟨r, hr, hm⟩)
   ·exact ⟨_, api _ (apd.mpr rfl), h⟩
   ·exact ⟨r, apx _ hr, hm⟩
  ·rintro ⟨r, hr, hm⟩
   rcases apj.mp hr with h | h
   ·exact .inr ⟨r, h, hm⟩
   ·rw [apd.mp h] at hm
    exact .inl hm
theorem Sofar.skip {rows : List (List Int)} {wd : Nat} {cut : Int} {ps : List Pt} {rs : List (Bool × List Pt)} {ks : List PyData} (S : Sofar rows wd cut ps rs ks) {p : Pt} (h : pD p ∈ ks) : Sofar rows wd cut (ps ++ [p]) rs ks :=
 ⟨fun r hr => let ⟨h, R, m⟩ := S.reg r hr; ⟨h, R, apx _ m⟩, fun q hq => by
  rcases apj.mp hq with h' | h'
  ·exact S.all q h'
  ·rw [apd.mp h']
   exact (S.key p).mp h, S.ord, S.key⟩
theorem Sofar.keys {rows : List (List Int)} {wd : Nat} {cut : Int} {ps : List Pt} {rs : List (Bool × List Pt)} {ks ks' : List PyData} (S : Sofar rows wd cut ps rs ks) (h : ∀ p, pD p ∈ ks' ↔ pD p ∈ ks) : Sofar rows wd cut ps rs ks' := ⟨S.reg, S.all, S.ord, fun p => (h p).trans (S.key p)⟩
theorem Sofar.nil {rows : List (List Int)} {wd : Nat} {cut : Int} : Sofar rows wd cut [] [] [] := ⟨fun _ h => (nomatch h), fun _ h => (nomatch h), List.Pairwise.nil, fun p => ⟨fun h => (nomatch h), fun ⟨_, h, _⟩ => (nomatch h)⟩⟩
def aip (w : World) (K : ao0) (f : Fx) (Ds : List Addr) (ts : TS) (ρ : zr) (cs : List OC) (j : Nat) (R : List PyData -> Prop) : Prop := Sep f Ds -> ∀ (σ : L2.St) (H H2 : Hp) (E : Ends), CM w K f Ds H2 ρ cs σ H ->
 (∀ D es ρ' cs' σ' H', CM w K f Ds H2 ρ' cs' σ' H' -> Ds[j]? = some D -> cs'[j]? = some (.lst es) -> R es -> E.rt (.ref D) H') -> ts E σ H
section
variable {w : World} {K : ao0} {f : Fx} {Ds : List Addr} {ρ : zr} {cs : List OC} {ts tu : TS} {te : TE} {R : List PyData -> Prop} {i j : Nat}
theorem anP (h : PSm w K f Ds ts ρ cs { nx := fun ρ' cs' => aip w K f Ds tu ρ' cs' j R, rt := fun _ => False }) : aip w K f Ds (qH ts tu) ρ cs j R := fun se σ H H2 E x q =>
 h se σ H H2 _ x (fun ρ' cs' σ' H' x' p => p se σ' H' H2 E x' q) (fun _ _ _ _ _ _ _ _ z => z.elim) (fun _ _ _ _ _ z => z.elim) (fun _ _ _ _ _ z => z.elim)
theorem anQ (hj : j < Ds.length) (h : ade w K (f.withs Ds) te ρ fun c => i < ρ.length /\ ∀ D, aip w K f (Ds ++ [D]) ts (ρ.set i (some (.own (f.M.length + Ds.length)))) (cs ++ [c]) j R) : aip w K f Ds (qH (jV te (y6 i)) ts) ρ cs j R := fun se σ H H2 E x q =>
 h σ H _ x.env fun c D H1 g1 hn ho ⟨hi, p⟩ =>
  p D (se.more x.env.fd hn) _ H1 H1 E (x.more g1 hn ho hi) fun D' es ρ' cs' σ' H' y h1 h2 r => by
   rw [ape hj] at h1
   exact q D' es _ _ σ' H' (x.less g1 hn y) h1 (by rw [aqM hj]; exact h2) r
theorem anR {es : List PyData} (hi : ρ[i]? = some (some (.own (f.M.length + j)))) (hc : cs[j]? = some (.lst es)) (h : R es) : aip w K f Ds (acP (yf i)) ρ cs j R := fun se σ H H2 E x q => by
 have hj : j < Ds.length := by rw [<- x.len]; exact (ao1.mp hc).1
 have hD : Ds[j]? = some Ds[j] := aoX hj
 exact ⟨_, yU hi x hD, q _ es ρ cs σ H x hD hc h⟩
theorem anS (h : ade w K f te ρ fun c => i < ρ.length /\ ∀ D, aip w K f [D] ts (ρ.set i (some (.own (f.M.length + 0)))) [c] 0 R) : PSn K f (qH (jV te (y6 i)) ts) ρ R := fun σ H E e q => by
 have se0 : Sep f [] := ⟨ap8, (fun _ z => nomatch z), (fun _ z => nomatch z)⟩
 have x0 : CM w K f [] H ρ [] σ H := ⟨e, Same.refl _, fun _ _ => rfl, rfl, (fun i D c z => nomatch z)⟩
 refine h σ H _ e fun c D H1 g1 hn ho ⟨hi, p⟩ => ?_
 refine p D (se0.more e.fd hn) _ H1 H1 E (x0.more g1 hn ho hi) fun D' es ρ' cs' σ' H' y h1 h2 r => ?_
 cases h1
 have z := x0.less g1 hn y
 obtain ⟨vs, h3, h4⟩ := y.own 0 D _ rfl h2
 exact q es D vs H' ⟨z.sm, z.env.fd, z.kp⟩ hn h3 h4 r
end
theorem ae9 {rows : List (List Int)} {wd : Nat} (g : Good wd rows) {ks : List PyData} (nd : ks.Nodup) (h : ∀ d ∈ ks, ∃ p, d = pD p /\ inP rows wd p = true) : ks.length <= 49 := by
 have key : ∀ ks : List PyData, (∀ d ∈ ks, ∃ p, d = pD p /\ inP rows wd p = true) -> ∃ l : List Pt, ks = l.map pD /\ ∀ p ∈ l, inP rows wd p = true := fun ks => by
  induction ks with
  | nil => exact fun _ => ⟨[], rfl, (fun _ z => nomatch z)⟩
  | cons d ks ih =>
   intro h
   obtain ⟨p, rfl, hp⟩ := h d (ao4 ..)
   obtain ⟨l, rfl, hl⟩ := ih fun e he => h e (ao3 _ he)
   exact ⟨p :: l, rfl, fun q hq => by
    rcases ao7.mp hq with rfl | hq
    ·exact hp
    ·exact hl q hq⟩
 obtain ⟨l, rfl, hl⟩ := key ks h
 rw [aoZ]
 exact aag g (asU _ (fun a b z e => z (by rw [e])) nd) hl
abbrev aoK (c : List (List Int) × Nat × Int) (xs : List DV) : Prop := xs = [.dat (tab c.1), .dat (.int c.2.2)] /\ Good c.2.1 c.1
abbrev akd (K : ao0) : Sp := spN K 2 aoK fun c es => ∃ rs, es = rs.map ae7 /\ Regs c.1 c.2.1 c.2.2 rs /\ rs.length <= 49
theorem alK (F : Def K mg "regions" vd pz) (uaD : mg "set" = none) (uae : FnIn P w K mg base k "ask_table" pj (vz K)) (uaY : FnIn P w K mg base k "points" pj (abK K)) (ub4 : FnIn P w K mg base k "all_joined" pC (akc K)) (uag : FnIn P w K mg base k "stands_high" pB (vP K)) : FnIn P w K mg base (k + 1) "regions" pz (akd K) := by
 refine F.okN sc_regions rfl fun fa cdv A outer s H E hr => ⟨_, (zc (z6 (zd uae hr rfl (za (pv 0) zb))) (zc (zC (i := 2) sc_regions.nd rfl (Or.inl rfl) (zV zb)) (zc (zC (i := 3) sc_regions.nd rfl (Or.inl rfl) (abh (v3 (w := w) rfl) rfl uaD asJ)) (zc (jr apR rfl (zY (K := K) rfl (zd uaY hr rfl (za (pv 0) zb))) (zk (i := 4) sc_regions.nd rfl (Or.inl rfl) (Or.inr rfl)) (zg (yz (zL (aby (w := w) (K := K) rfl rfl hr.units) (pv 4) (pv 3) rfl) (zc (zC (i := 5) sc_regions.nd rfl (Or.inl rfl) (zd ub4 hr rfl (za (pv 0) (za (pv 1) (za (pv 4) zb))))) (zc (z6 (agd aqr aqO aqP qU (pv 2) (za (zz (za (qI (z7 (K := K) rfl (zd uag hr rfl (za (pv 0) (za (pv 1) (za (pv 4) zb)))) (fun _ => rfl)) yL yL) (za (pv 5) zb))) zb))) (zg (jr apR rfl (aaU (K := K) rfl (pv 5)) (zk (i := 6) sc_regions.nd rfl (Or.inl rfl) (Or.inr rfl)) (zg (z6 (ajm (w := w) rfl arN asT (aew (w := w) (K := K) rfl rfl hr.units) (pv 3) (za (pv 6) zb)))))))) zO))) (zg (zu (pv 2))))))), ?_⟩
 rintro f xs ⟨rows, wd, cut⟩ hl ⟨rfl, g⟩
 try dsimp only [zI, zj]
 dsimp only at *
 refine aaH (jw (zm (rows, wd) ?_))
 walk_at "w"
 rintro _ rfl
 refine anS (w := w) (aa0 (al9 ⟨show 2 < 7 by decide, fun D0 => ?_⟩))
 refine anQ (show 0 < 1 by decide) (ajn ⟨show 3 < 7 by decide, fun D1 => ?_⟩)
 refine anP (aaL (yy (zm (rows, wd) ?_)))
 walk_at "w"
 rintro _ rfl
 dsimp only
 rw [alG]
 have pl : (qf rows.length wd).length <= 49 := by rw [abT]; exact ar6 g.h2 g.w2
 refine ⟨_, rfl, fun i ρ cs => ∃ (u4 u5 u6 : Option DV) (rs : List (Bool × List Pt)) (ks : List PyData), ρ = [some (.dat (tab rows)), some (.dat (.int cut)), some (.own (f.M.length + 0)), some (.own (f.M.length + 1)), u4, u5, u6] /\ cs = [.lst (rs.map ae7), .set ks] /\ Sofar rows wd cut ((qf rows.length wd).take i) rs ks /\ rs.length <= i /\ ks.Nodup /\ ∀ d ∈ ks, ∃ p, d = pD p /\ inP rows wd p = true, ⟨_, _, _, [], [], rfl, rfl, by rw [arE]; exact .nil, ao5 0, ap8, (fun _ z => nomatch z)⟩, ?_, ?_⟩
 ·rintro i d _ _ hd ⟨u4, u5, u6, rs, ks, rfl, rfl, S, rl, kl, kp⟩
  rw [ao8] at hd
  cases eq : (qf rows.length wd)[i]? with
  | none => rw [eq] at hd; cases hd
  | some p =>
   rw [eq] at hd
   cases hd
   have hil := (ao1.mp eq).1
   have ip : inP rows wd p = true := mem_pts.mp (apc eq)
   have tk : (qf rows.length wd).take (i + 1) = (qf rows.length wd).take i ++ [p] := by rw [aqe, eq]; rfl
   have sp : qf rows.length wd = (qf rows.length wd).take i ++ p :: (qf rows.length wd).drop (i + 1) := by
    have := ao1.mp eq
    rw [<- this.2, <- asd this.1, aq0]
   refine zi (am8 (ame (neg := true) (i := 3) (j := 1) rfl rfl (ab0 (zh rfl ⟨vS p, ?_⟩))))
   rw [if_pos rfl]
   refine yq (fun h => ?_) fun h => ?_
   ·have hn : pD p ∉ ks := by simpa using h
    refine ajr (fun ρ cs => ∃ l : List Pt, ρ = [some (.dat (tab rows)), some (.dat (.int cut)), some (.own (f.M.length + 0)), some (.own (f.M.length + 1)), some (.dat (pD p)), some (.dat (.tuple (l.map pD))), u6] /\ cs = [.lst (rs.map ae7), .set ks] /\ ((l.map pD).Pairwise fun d e => ltD d e = true) /\ ∀ q, q ∈ l ↔ Reach rows wd cut p q) (adf (zE (zm (rows, wd, cut, p) ?_))) ?_
    ·walk_at "w"
     rintro _ ⟨l, rfl, up, mem⟩
     exact zi ⟨l, rfl, rfl, up, mem⟩
    rintro _ _ ⟨l, rfl, rfl, up, mem⟩
    have S' := S.more sp hn up mem
    rw [<- tk] at S'
    have nd : l.Nodup := asU _ (fun a b (z : ltD (pD a) (pD b) = true) e => by rw [e, vI _ rfl] at z; cases z) up
    have ll : l.length <= 49 := aag g nd fun q hq => (((mem q).mp hq).ins ip).1
    refine ajr (fun ρ cs => ρ = [some (.dat (tab rows)), some (.dat (.int cut)), some (.own (f.M.length + 0)), some (.own (f.M.length + 1)), some (.dat (pD p)), some (.dat (.tuple (l.map pD))), u6] /\ cs = [.lst ((rs ++ [(hiP rows cut p, l)]).map ae7), .set ks]) (agK (i := 2) (j := 0) rfl rfl (by rw [aoZ]; omega) (ab0 (jY (zp (aiI (yN (zm (rows, wd, cut, p.1, p.2) ?_)))))))  ?_
    ·walk_at "w"
     rintro _ rfl
     refine ⟨_, rfl, yq (fun h1 => ?_) fun h1 => ?_⟩
     ·have h1 : hiP rows cut p = true := h1
      walk_at "w"
      rw [h1, aps]
      rfl
     ·have h1 : hiP rows cut p = false := h1
      walk_at "w"
      rw [h1, aps]
      rfl
    rintro _ _ ⟨rfl, rfl⟩
    refine aaL (agm (zh rfl ⟨_, rfl, fun j ρ cs => ∃ (u6 : Option DV) (ks' : List PyData), ρ = [some (.dat (tab rows)), some (.dat (.int cut)), some (.own (f.M.length + 0)), some (.own (f.M.length + 1)), some (.dat (pD p)), some (.dat (.tuple (l.map pD))), u6] /\ cs = [.lst ((rs ++ [(hiP rows cut p, l)]).map ae7), .set ks'] /\ ks'.Nodup /\ (∀ d ∈ ks', ∃ p, d = pD p /\ inP rows wd p = true) /\ ∀ q, pD q ∈ ks' ↔ (q ∈ l.take j \/ pD q ∈ ks), ⟨_, ks, rfl, rfl, kl, kp, fun q => ⟨.inr, fun z => z.elim (fun z => by rw [arE] at z; cases z) id⟩⟩, ?_, ?_⟩))
    ·rintro j d _ _ hd ⟨u6, ks', rfl, rfl, nd', kp', mk⟩
     rw [ao8] at hd
     cases eq' : l[j]? with
     | none => rw [eq'] at hd; cases hd
     | some q =>
      rw [eq'] at hd
      cases hd
      have hq : q ∈ l := apc eq'
      have iq := (((mem q).mp hq).ins ip).1
      have tk' : l.take (j + 1) = l.take j ++ [q] := by rw [aqe, eq']; rfl
      have kl' := ae9 g nd' kp'
      refine zi (amf (i := 3) (j := 1) rfl rfl (by omega) (ab0 (zh rfl ⟨vS q, fun h => ?_, fun h => ?_⟩)))
      ·refine ⟨_, ks', rfl, rfl, nd', kp', fun r => ?_⟩
       rw [tk', apj, apd, mk]
       constructor
       ·rintro (z | z)
        ·exact .inl (.inl z)
        ·exact .inr z
       ·rintro ((z | z) | z)
        ·exact .inl z
        ·rw [z]; exact (mk q).mp h
        ·exact .inr z
      ·refine ⟨_, pD q :: ks', rfl, rfl, apX.mpr ⟨h, nd'⟩, fun d hd => ?_, fun r => ?_⟩
       ·rcases ao7.mp hd with rfl | hd
        ·exact ⟨q, rfl, iq⟩
        ·exact kp' d hd
       ·rw [tk', apj, apd, ao7, mk]
        constructor
        ·rintro (z | z | z)
         ·exact .inl (.inr (aaC z))
         ·exact .inl (.inl z)
         ·exact .inr z
        ·rintro ((z | z) | z)
         ·exact .inr (.inl z)
         ·exact .inl (by rw [z])
         ·exact .inr (.inr z)
    ·rintro _ _ ⟨u6, ks', rfl, rfl, nd', kp', mk⟩
     rw [aoZ, apM] at mk
     refine ⟨_, _, _, rs ++ [(hiP rows cut p, l)], ks', rfl, rfl, S'.keys fun q => ?_, by rw [aph, apO]; omega, nd', kp'⟩
     rw [mk, apj, mem_pD]
   ·have hm : pD p ∈ ks := apT fun z => by rw [decide_eq_false z] at h; cases h
    refine afy ⟨_, _, _, rs, ks, rfl, rfl, ?_, by omega, kl, kp⟩
    rw [tk]
    exact S.skip hm
 ·rintro _ _ ⟨u4, u5, u6, rs, ks, rfl, rfl, S, rl, kl, kp⟩
  rw [aoZ, apM] at S
  rw [aoZ] at rl
  exact anR (i := 2) (j := 0) rfl rfl ⟨rs, rfl, S.done, by omega⟩
theorem anT {rows : List (List Int)} {wd : Nat} {cut : Int} {rs : List (Bool × List Pt)} (R : Regs rows wd cut rs) {i j : Nat} {r r' : Bool × List Pt} (hi : rs[i]? = some r) (hj : rs[j]? = some r') {p : Pt} (h : p ∈ r.2) (h' : p ∈ r'.2) : i = j := by
 obtain ⟨x, X⟩ := R.reg r (apc hi)
 obtain ⟨y, Y⟩ := R.reg r' (apc hj)
 have e := alF X Y h h'
 have nd : rs.Nodup := R.ord.imp_of_mem fun {a b} ha hb z e => by
  obtain ⟨x, X⟩ := R.reg a ha
  have := z x x X.hd (e ▸ X.hd)
  rw [vI _ rfl] at this
  cases this
 rw [<- e] at hj
 exact (ash (ao1.mp hi).1 nd).mp (hi.trans hj.symm)
theorem vj {k v : PyData} {kvs : List (PyData × PyData)} : (dput k v kvs).map (·.1) = if k ∈ kvs.map (·.1) then kvs.map (·.1) else kvs.map (·.1) ++ [k] := by
 unfold dput
 by_cases h : k ∈ kvs.map (·.1)
 ·rw [if_pos h, if_pos h, aqL]
  refine ara fun p _ => ?_
  show (if p.1 = k then (p.1, v) else p).1 = p.1
  split <;> rfl
 ·rw [if_neg h, if_neg h, aps]
  rfl
structure Keyed (rows : List (List Int)) (wd : Nat) (kvs : List (PyData × PyData)) : Prop where
 nd : (kvs.map (·.1)).Nodup
 pt : ∀ d ∈ kvs.map (·.1), ∃ p, d = pD p /\ inP rows wd p = true
theorem Keyed.put {rows : List (List Int)} {wd : Nat} {kvs : List (PyData × PyData)} (h : Keyed rows wd kvs) {p : Pt} (ip : inP rows wd p = true) (v : PyData) : Keyed rows wd (dput (pD p) v kvs) := by
 by_cases z : pD p ∈ kvs.map (·.1)
 ·exact ⟨by rw [vj, if_pos z]; exact h.nd, by rw [vj, if_pos z]; exact h.pt⟩
 ·refine ⟨?_, ?_⟩
  ·rw [vj, if_neg z]
   exact ap3.mpr ⟨h.nd, by simp, fun a ha b hb e => z (by rw [apd.mp hb] at e; exact e ▸ ha)⟩
  ·rw [vj, if_neg z]
   intro d hd
   rcases apj.mp hd with hd | hd
   ·exact h.pt d hd
   ·rw [apd.mp hd]; exact ⟨p, rfl, ip⟩
theorem Keyed.few {rows : List (List Int)} {wd : Nat} {kvs : List (PyData × PyData)} (g : Good wd rows) (h : Keyed rows wd kvs) : kvs.length <= 49 := by
 have := ae9 g h.nd h.pt
 rw [aoZ] at this
 exact this
theorem anU {rows : List (List Int)} {wd : Nat} {cut : Int} {rs : List (Bool × List Pt)} (R : Regs rows wd cut rs) {r : Bool × List Pt} (hr : r ∈ rs) {p : Pt} (h : p ∈ r.2) : inP rows wd p = true := by
 obtain ⟨x, X⟩ := R.reg r hr
 exact (((X.mem p).mp h).ins X.inn).1
def told (rs : List (Bool × List Pt)) (kvs : List (PyData × PyData)) : Prop := ∀ (n : Nat) r p, rs[n]? = some r -> p ∈ r.2 -> jf (pD p) kvs = some (.int n)
def aoL (b : Bool) : PyData := .str (if b = true then "high" else "low")
theorem alL {rs : List (Bool × List Pt)} {n : Nat} {d : PyData} (h : (aaG (rs.map ae7))[n]? = some d) : ∃ r, rs[n]? = some r /\ d = .tuple [.int n, ae7 r] := by
 unfold aaG at h
 rw [asM, ao8] at h
 cases e : rs[n]? with
 | none => rw [e] at h; cases h
 | some r =>
  rw [e] at h
  cases h
  exact ⟨r, rfl, rfl⟩
theorem ake (ds : List PyData) : (aaG ds).length = ds.length := by
 unfold aaG
 simp
abbrev acJ (w : World) (K : ao0) : Sp := spV K 2 aoK fun c x => ∃ rs kvs, x = .mon (ajs w K kvs) /\ Regs c.1 c.2.1 c.2.2 rs /\ rs.length <= 49 /\ told rs kvs
theorem af1 (F : Def K mg "indexes" ve pz) (uaA : mg "enumerate" = none) (ub5 : FnIn P w K mg base k "regions" pz (akd K)) : FnIn P w K mg base (k + 1) "indexes" pz (acJ w K) := by
 refine F.okV sc_indexes rfl fun fa cdv A outer s H E hr => ⟨_, (zc (zC (i := 2) sc_indexes.nd rfl (Or.inl rfl) (acw (w := w) rfl)) (zc (jr apR rfl (aec (K := K) rfl rfl uaA (za (zd ub5 hr rfl (za (pv 0) (za (pv 1) zb))) zb)) (zT (K := K) (n := 2) rfl rfl (zo (zk (i := 3) sc_indexes.nd rfl (Or.inl rfl) (Or.inr rfl)) (zo (zT (K := K) (n := 2) rfl rfl (zo (zk (i := 4) sc_indexes.nd rfl (Or.inl rfl) (Or.inr rfl)) (zo (zk (i := 5) sc_indexes.nd rfl (Or.inl rfl) (Or.inr rfl)) zN))) zN))) (zg (jr apR rfl (aaU (K := K) rfl (pv 5)) (zk (i := 6) sc_indexes.nd rfl (Or.inl rfl) (Or.inr rfl)) (zg (yg (pv 3) (aaj (pv 2) (pv 6) (v5 (w := w) (K := K) rfl rfl hr.units))))))) (zg (zu (pv 2))))), ?_⟩
 rintro f xs ⟨rows, wd, cut⟩ hl ⟨rfl, g⟩
 try dsimp only [zI, zj]
 dsimp only at *
 refine anj (w := w) (ajo ⟨show 2 < 7 by decide, fun D0 => ?_⟩)
 refine anh (aaL (amW (zp (PEdO.ped (vG (rows, wd, cut) ?_)))))
 walk_at "w"
 rintro _ ⟨rs, rfl, R, rl⟩
 dsimp only at R
 refine zJ ⟨_, rfl, fun n ρ cs => ∃ (u3 u4 u5 u6 : Option DV) (kvs : List (PyData × PyData)), ρ = [some (.dat (tab rows)), some (.dat (.int cut)), some (.own (f.M.length + 0)), u3, u4, u5, u6] /\ cs = [.dic kvs] /\ Keyed rows wd kvs /\ ∀ (m : Nat) r p, m < n -> rs[m]? = some r -> p ∈ r.2 -> jf (pD p) kvs = some (.int m), ⟨_, _, _, _, [], rfl, rfl, ⟨ap8, (fun _ z => nomatch z)⟩, (fun m r p z => absurd z (aqj _))⟩, ?_, ?_⟩
 ·rintro n d _ _ hd ⟨u3, u4, u5, u6, kvs, rfl, rfl, ky, tl⟩
  obtain ⟨r, hrn, rfl⟩ : ∃ r, rs[n]? = some r /\ d = .tuple [.int n, ae7 r] := alL hd
  have hm := apc hrn
  refine yH rfl (zt (zi (zt (yH rfl (zt (zi (zt (zi (z9 (z9 ?_))))))))))
  refine aaL (agm (zh rfl ⟨_, rfl, fun j ρ cs => ∃ (u6 : Option DV) (kvs : List (PyData × PyData)), ρ = [some (.dat (tab rows)), some (.dat (.int cut)), some (.own (f.M.length + 0)), some (.dat (.int n)), some (.dat (aoL r.1)), some (.dat (.tuple (r.2.map pD))), u6] /\ cs = [.dic kvs] /\ Keyed rows wd kvs /\ (∀ (m : Nat) r p, m < n -> rs[m]? = some r -> p ∈ r.2 -> jf (pD p) kvs = some (.int m)) /\ ∀ p ∈ r.2.take j, jf (pD p) kvs = some (.int n), ⟨_, kvs, rfl, rfl, ky, tl, fun p hp => by rw [arE] at hp; cases hp⟩, ?_, ?_⟩))
  ·rintro j d _ _ hd ⟨u6, kvs, rfl, rfl, ky, tl, tk⟩
   rw [ao8] at hd
   cases eq : r.2[j]? with
   | none => rw [eq] at hd; cases hd
   | some q =>
    rw [eq] at hd
    cases hd
    have hq := apc eq
    have few := ky.few g
    refine zi (agS (i := 2) (j := 0) rfl rfl (by omega) (zh rfl (zh rfl ⟨vS q, ?_⟩)))
    refine ⟨_, _, rfl, rfl, ky.put (anU R hm hq) _, fun m r' p hmn hr hp => ?_, fun p hp => ?_⟩
    ·rw [abz _ (fun z => ?_)]
     ·exact tl m r' p hmn hr hp
     ·have := anT R hr hrn hp (aaC z ▸ hq)
      omega
    ·rw [aqe, eq] at hp
     by_cases e : p = q
     ·rw [e]; exact ahP ..
     ·rw [abz _ (fun z => e (aaC z))]
      rcases apj.mp hp with h | h
      ·exact tk p h
      ·exact absurd (apd.mp h) e
  ·rintro _ _ ⟨u6, kvs, rfl, rfl, ky, tl, tk⟩
   rw [aoZ, apM] at tk
   refine ⟨_, _, _, _, kvs, rfl, rfl, ky, fun m r' p hmn hr hp => ?_⟩
   by_cases e : m = n
   ·subst e
    rw [hrn] at hr
    cases hr
    exact tk p hp
   ·exact tl m r' p (by omega) hr hp
 ·rintro _ _ ⟨u3, u4, u5, u6, kvs, rfl, rfl, ky, tl⟩
  refine ani (i := 2) (j := 0) rfl rfl ⟨kvs, rfl, rs, kvs, rfl, R, rl, fun n r p hr hp => tl n r p ?_ hr hp⟩
  have := (ao1.mp hr).1
  rw [ake, aoZ]
  exact this
abbrev scr (ns : List Int) : PyData := .list (ns.map .int)
theorem ahe {K : ao0} {H : Hp} {a : Addr} {ns : List Int} (h : SqL K H a (ns.map V.int)) : Rep K (hide H L2.f0) (scr ns) (.ref a) := by
 rw [yK]
 exact rep_list.mpr ⟨a, _, rfl, h, Reps.ints' ns⟩
theorem alM {K : ao0} {H : Hp} {v : V} {ns : List Int} (h : Rep K (hide H L2.f0) (scr ns) v) : ∃ a, v = .ref a /\ SqL K H a (ns.map V.int) := by
 rw [yK] at h
 obtain ⟨a, xs, rfl, h1, h2⟩ := rep_list.mp h
 rw [h2.ints] at h1
 exact ⟨a, rfl, h1⟩
def af2 (K : ao0) : Sp := fun vs H Q _ => ∃ (a : Addr) (ns : List Int) (i : Int), vs = [.ref a, .int i] /\ SqL K H a (ns.map V.int) /\ ns.length <= 63 /\ 0 <= i /\ i <= 63 /\
 ∀ (p : Addr) (x y : Int) (H' : Hp), Same H H' -> H p = none -> H' p = some (.lst [.int x, .int y]) -> 0 <= x -> 0 <= y -> y < 2147483647 -> Q (.ref p) H'
def ahf (K : ao0) : Sp := fun vs H Q _ => ∃ (a : Addr) (ns : List Int), vs = [.ref a] /\ SqL K H a (ns.map V.int) /\ ns.length <= 63 /\ ∀ H', Q (.bl true) H'
theorem alN {K : ao0} {f : Fx} {t : TA} {ρ : zr} {R R' : List DV -> Prop} (h : PAd K f t ρ R) (i : ∀ xs, R xs -> R' xs) : PAd K f t ρ R' := fun σ H Q e q => h σ H Q e fun xs vs H' g r p => q xs vs H' g r (i xs p)
theorem anV {K : ao0} {ρ : zr} {ns : List Int} {i : Int} {E2 : XK} (h0 : ρ[0]? = some (some (.dat (scr ns)))) (h1 : ρ[1]? = some (some (.dat (.int i)))) (hl : ns.length <= 63) (i0 : 0 <= i) (i1 : i <= 63) :
  ∀ (σ : L2.St) (H : Hp) (Q : VK), EnvOk K L2.f0 ρ σ H -> (∀ (p : Addr) (x y : Int) (H' : Hp), Same H H' -> H p = none -> H' p = some (.lst [.int x, .int y]) -> 0 <= x -> 0 <= y -> y < 2147483647 -> Q (.ref p) H') -> vn (af2 K) [] E2 (yd (yf 0) (yd (yf 1) jS)) σ H Q := by
 intro σ H Q e q
 obtain ⟨v0, hv0, r0⟩ := e.get 0 _ h0
 obtain ⟨v1, hv1, r1⟩ := e.get 1 _ h1
 obtain ⟨a, rfl, hS⟩ := alM r0
 have e1 : v1 = .int i := rep_int.mp (show Rep K (hide H L2.f0) (.int i) v1 from r1)
 subst e1
 exact ⟨_, hv0, _, hv1, a, ns, i, rfl, hS, hl, i0, i1, q⟩
theorem anW {K : ao0} {f : Fx} {ρ : zr} {P : PyData -> Prop} {i : Nat} {rows : List (List Int)} (hi : ρ[i]? = some (some (.dat (tab rows)))) (hl : rows.length <= 1000) (p : P (tab rows)) :
  PEd K f (jW (af7 K (yf i)) 1 [] (y6 0) akB fun D => vq D (tCB (fun xs H Q => ∃ p ys, xs = [V.ref p] /\ (SqL K H p ys \/ SqT K H p ys) /\ ∀ l, H l = none -> Q (V.ref l) (upd H l (HO.lst ys))) (yd (yf 0) jS))) ρ P := by
 refine PEdO.ped (aee (A := fun r : List Int => PyData.list (r.map .int)) (B := fun r : List Int => PyData.list (r.map .int)) rows (yy (zh hi ⟨_, rfl, rfl, hl, ?_, p⟩)))
 rintro D r ρ' es hr ho hes
 obtain ⟨u, rfl⟩ := ho.one
 refine zi (qL ?_)
 rw [if_pos rfl]
 exact yF hes (aiO (zp (zh rfl (zJ (.inl ⟨_, rfl, .mk1, rfl⟩)))))
theorem alO (F : Def K mg "_law_feed" qz pP) (uac : mg "len" = none) (uax : mg "abs" = none) : FnIn P w K mg base (k + 1) "_law_feed" pP (af2 K) := by
 refine F.raw sc_law_feed (fun vs H Q E h => ?_) fun fa cdv A outer s H vs Q E hr hs => ⟨_, (zc (zC (i := 2) sc_law_feed.nd rfl (Or.inl rfl) ze) (zc (yz (zL adY (zx (yc (K := K) rfl) rfl uac apY (za (pv 0) zb)) ze (zR _)) (zg (zC (i := 2) sc_law_feed.nd rfl (Or.inl rfl) (zS (zD (K := K) rfl) (pv 0) (zq vD (pv 1) (zx (yc (K := K) rfl) rfl uac apY (za (pv 0) zb))) (fun _ _ => rfl)))) zO) (zg (zu (zV (za (zx (abg) rfl uax arI (za (pv 2) zb)) (za (zq zQ (zq vC ze (pv 1)) ze) zb))))))), ?_⟩
 ·obtain ⟨a, ns, i, rfl, _⟩ := h
  rfl
 obtain ⟨a, ns, i, rfl, hS, h63, i0, i1, q⟩ := hs
 have e0 : EnvOk K L2.f0 (jx vO [.dat (scr ns), .dat (.int i)]) (start vO [.ref a, .int i]) H := yS (.cons (ahe hS) (.cons (show RepV K L2.f0 H (.dat (.int i)) (.int i) from (rep_int (K := K) (H := hide H L2.f0)).mpr rfl) .nil)) (L2.fok0 H)
 refine aiR (D := { nx := fun ρ => ρ = [some (.dat (scr ns)), some (.dat (.int i)), some (.dat (.int 0))], rt := fun _ => False }) ?_ e0 ?_ (fun _ _ _ _ _ z => z.elim) (fun _ z => z) (fun _ z => z)
 ·walk_at "w"
  rfl
 rintro _ σ1 H1 g1 e1 rfl
 refine aiR (D := { nx := fun ρ => ∃ c : Int, ρ = [some (.dat (scr ns)), some (.dat (.int i)), some (.dat (.int c))], rt := fun _ => False }) ?_ e1 ?_ (fun _ _ _ _ _ z => z.elim) (fun _ z => z) (fun _ z => z)
 ·walk_at "w"
  rw [aoZ]
  by_cases h : 0 < ns.length
  ·rw [if_pos (by simpa using h)]
   walk_at "w"
   rw [aoZ]
   have z0 := arS i (b := (ns.length : Int)) (by omega)
   have z1 := aqA i (b := (ns.length : Int)) (by omega)
   refine ⟨by omega, _, rfl, _, yX (j := (i % (ns.length : Int)).toNat) (by omega) (by omega), ?_⟩
   walk_at "w"
   exact ⟨_, rfl⟩
  ·rw [if_neg (by simpa using h)]
   walk_at "w"
   exact ⟨_, rfl⟩
 rintro _ σ2 H2 g2 e2 ⟨c, rfl⟩
 unfold acP
 have ss : Same H H2 := (L2.same0 g1).trans (L2.same0 g2)
 refine aiS (R := fun ds => ∃ x y : Int, ds = [.int x, .int y] /\ 0 <= x /\ 0 <= y /\ y < 2147483647) ?_ e2 ?_
 ·walk_at "w"
  omega
 ·rintro p ds vs H3 g3 hn rs ⟨x, y, rfl, hx, hy, hy'⟩
  have sf : Same H H3 := ss.trans (L2.same0 g3)
  have ev : vs = [.int x, .int y] := Reps.ints (ns := [x, y]) rs
  subst ev
  exact q p x y _ (sf.trans (zX hn _)) (sf.free hn) zy hx hy hy'
abbrev afa (K : ao0) : Sp := spD K 2 (fun (c : Int × Int) xs => xs = [.dat (.int c.1), .dat (.int c.2)]) fun c r => r = .int (ap9 c.1 c.2 : Int)
def aoV : zr -> Nat
 | [_, some (.dat (.int b))] => b.toNat
 | _ => 0
theorem akf (a b : Nat) : Nat.gcd b (a % b) = Nat.gcd a b := by rw [Nat.gcd_comm b, <- Nat.gcd_rec, Nat.gcd_comm]
theorem aiq (F : Def K mg "common" aab pL) (uax : mg "abs" = none) : FnIn P w K mg base (k + 1) "common" pL (afa K) := by
 refine F.ok sc_common rfl fun fa cdv A outer s H E hr => ⟨_, (zc (aiu (i := 0) (j := 1) rfl sc_common.nd rfl rfl (by decide) rfl rfl (za (zx (abg) rfl uax arI (za (pv 0) zb)) (za (zx (abg) rfl uax arI (za (pv 1) zb)) zb)) rfl) (zc (abb apR (z7 (K := K) rfl (pv 1) (fun _ => rfl)) (zg (aiu (i := 0) (j := 1) rfl sc_common.nd rfl rfl (by decide) rfl rfl (za (pv 1) (za (zq vD (pv 0) (pv 1)) zb)) rfl))) (zg (zu (pv 0))))), ?_⟩
 rintro f xs ⟨a, b⟩ hl rfl
 try dsimp only [zI, zj]
 dsimp only at *
 refine zW (amb ?_)
 walk_at "w"
 have ha : (if a < 0 then -a else a) = (a.natAbs : Int) := by split <;> omega
 have hb : (if b < 0 then -b else b) = (b.natAbs : Int) := by split <;> omega
 refine (akJ (fun ρ => ∃ p q : Nat, ρ = [some (.dat (.int p)), some (.dat (.int q))] /\ Nat.gcd p q = ap9 a b) aoV ⟨a.natAbs, b.natAbs, ?_, rfl⟩ ?_)
 ·rw [ha, hb]
  rfl
 rintro _ ⟨p, q, rfl, h⟩
 walk_at "w"
 refine yq (fun h2 => ?_) fun h2 => ?_
 ·have hq : 0 < q := by
   have : (q : Int) ≠ 0 := by simpa using h2
   omega
  refine amb ?_
  walk_at "w"
  refine ⟨⟨q, p % q, ?_, ?_⟩, ?_⟩
  ·rfl
  ·rw [akf]; exact h
  ·show ((p : Int) % (q : Int)).toNat < ((q : Int)).toNat
   have := Nat.mod_lt p hq
   omega
 ·have hq : q = 0 := by
   have : (q : Int) = 0 := by simpa using h2
   omega
  subst hq
  walk_at "w"
  rw [Nat.gcd_zero_right] at h
  rw [h]
abbrev Fr2 := Int × Int
def frD (p : Fr2) : PyData := .tuple [.int p.1, .int p.2]
abbrev ahg (K : ao0) : Sp := spD K 2 (fun (c : Fr2) xs => xs = [.dat (.int c.1), .dat (.int c.2)] /\ c.2 ≠ 0 /\ c.2.natAbs < adn) fun c r => r = ans (ar5 c.1 c.2)
theorem akg (F : Def K mg "shortened" jN pO) (ub6 : FnIn P w K mg base k "common" pL (afa K)) : FnIn P w K mg base (k + 1) "shortened" pO (ahg K) := by
 refine F.ok sc_shortened rfl fun fa cdv A outer s H E hr => ⟨_, (zc (zC (i := 2) sc_shortened.nd rfl (Or.inl rfl) (zd ub6 hr rfl (za (pv 0) (za (pv 1) zb)))) (zc (yz (zL adX (pv 1) ze (zR _)) (zg (zC (i := 2) sc_shortened.nd rfl (Or.inl rfl) (aof amG (pv 2)))) zO) (zg (zu (zz (za (zq aeF (pv 0) (pv 2)) (za (zq aeF (pv 1) (pv 2)) zb))))))), ?_⟩
 rintro f xs ⟨t, b⟩ hl ⟨rfl, b0, bh⟩
 try dsimp only [zI, zj]
 dsimp only at *
 obtain ⟨s1, s2⟩ := ahW (t := t) b0
 have gp : 0 < ap9 t b := arU t b0
 have gl : ap9 t b <= b.natAbs := Nat.le_of_dvd (by omega) (Int.ofNat_dvd_left.mp (Int.gcd_dvd_right t b))
 refine zW (zE (zm (t, b) (ajE rfl rfl ⟨rfl, rfl, ?_⟩)))
 rintro _ rfl
 refine zi (yZ (fun ρ => ρ = [some (.dat (.int t)), some (.dat (.int b)), some (.dat (.int (b.sign * (ap9 t b : Int))))]) ?_ ?_)
 ·refine aml (b < 0) (t_b (agi (zh rfl ⟨_, rfl, yw ⟨_, rfl, _, rfl, rfl⟩⟩))) (fun h => ?_) fun h => yD ?_
  ·refine zE (aop (zh rfl ⟨_, rfl, zi ?_⟩))
   rw [aqg h, Int.neg_one_mul]
   rfl
  ·have : 0 < b := by omega
   rw [aqw this, as9]
   rfl
 rintro _ rfl
 have nz : b.sign * ((ap9 t b : Nat) : Int) ≠ 0 := Int.mul_ne_zero (fun z => b0 (Int.sign_eq_zero_iff_zero.mp z)) (by omega)
 have nh : (b.sign * ((ap9 t b : Nat) : Int)).natAbs < adn := by
  rw [Int.natAbs_mul, ar8]
  have : b.sign.natAbs = 1 := by
   rcases arA b 0 with h | h | h
   ·rw [aqg h]; rfl
   ·exact absurd h b0
   ·rw [aqw h]; rfl
  rw [this, Nat.one_mul]
  omega
 refine ya (jY (zp (ju (zh rfl ⟨_, rfl, zh rfl ⟨_, rfl, ⟨nz, nh⟩, zp (ju (zh rfl ⟨_, rfl, zh rfl ⟨_, rfl, ⟨nz, nh⟩, zJ ⟨_, rfl, by show 2 <= 1000; decide, ?_⟩⟩⟩))⟩⟩))))
 show PyData.tuple [.int _, .int _] = ans _
 rw [s1, s2]
 rfl
theorem qR {rows : List (List Int)} {wd : Nat} {cut x y w : Int} (h : yk rows wd cut x y w = true) : vk rows wd x y w = true := by
 unfold yk at h
 rw [ao6] at h
 exact h.1
theorem aa8 {rows : List (List Int)} {wd : Nat} {x y : Int} (g : Good wd rows) (h : zM rows wd x y = true) : -1000000000 <= zZ rows x y /\ zZ rows x y <= 1000000000 := by
 obtain ⟨x0, x1, y0, y1⟩ := qP h
 have hy : y.toNat < rows.length := by omega
 have hr := g.row _ (apz hy)
 have hx : x.toNat < rows[y.toNat].length := by omega
 have := g.hgt _ (apz hy) _ (apz hx)
 unfold zZ
 rw [ao2, ao2, aoX hy, Option.getD_some, aoX hx]
 exact this
def TT (rows : List (List Int)) (cut x y : Int) : Int := 2 * cut + 1 - 2 * zZ rows x y
def BB (rows : List (List Int)) (x y w : Int) : Int := 2 * (zZ rows (px x w) (py y w) - zZ rows x y)
theorem abU {rows : List (List Int)} {wd : Nat} {cut x y w : Int} (h : yk rows wd cut x y w = true) : (0 < TT rows cut x y /\ TT rows cut x y < BB rows x y w) \/ (TT rows cut x y < 0 /\ BB rows x y w < TT rows cut x y) := by
 unfold yk at h
 rw [ao6] at h
 have h2 := h.2
 unfold TT BB
 generalize zZ rows x y = a at *
 generalize zZ rows (px x w) (py y w) = b at *
 by_cases ha : cut < a
 ·by_cases hb : cut < b
  ·rw [decide_eq_true ha, decide_eq_true hb] at h2
   cases h2
  ·omega
 ·by_cases hb : cut < b
  ·omega
  ·rw [decide_eq_false ha, decide_eq_false hb] at h2
   cases h2
theorem amq {rows : List (List Int)} {wd : Nat} {cut x y w : Int} (h : yk rows wd cut x y w = true) : BB rows x y w ≠ 0 := by
 have := abU h
 omega
theorem amr {rows : List (List Int)} {wd : Nat} {cut x y w : Int} (g : Good wd rows) (h : yk rows wd cut x y w = true) : (BB rows x y w).natAbs <= 4000000000 := by
 obtain ⟨i1, i2⟩ := j9 (qR h)
 have b1 := aa8 g i1
 have b2 := aa8 g i2
 unfold BB
 omega
def shQ (rows : List (List Int)) (cut : Int) (g : Gt) : Rat := ar5 (TT rows cut g.1 g.2.1) (BB rows g.1 g.2.1 g.2.2)
def plT (rows : List (List Int)) (cut : Int) (g : Gt) : Gt := if g.2.2 = 0 then (g.1 * ((shQ rows cut g).den : Int) + (shQ rows cut g).num, g.2.1 * ((shQ rows cut g).den : Int), ((shQ rows cut g).den : Int)) else (g.1 * ((shQ rows cut g).den : Int), g.2.1 * ((shQ rows cut g).den : Int) + (shQ rows cut g).num, ((shQ rows cut g).den : Int))
theorem aoM {rows : List (List Int)} {wd : Nat} {cut : Int} {g : Gt} (gd : Good wd rows) (o : opG rows wd cut g = true) : (shQ rows cut g).num.natAbs <= 4000000000 /\ (shQ rows cut g).den <= 4000000000 /\ 0 < (shQ rows cut g).den := by
 have h1 := amr gd o
 have h2 := abU o
 refine ⟨apu (afE _ _) (by omega), apu (afF (amq o)) h1, (shQ rows cut g).den_pos⟩
abbrev ahh (K : ao0) : Sp := spD K 3 aie fun c r => r = ans (shQ c.1 c.2.2.1 c.2.2.2)
theorem akh (F : Def K mg "share" aa5 pf) (uaK : FnIn P w K mg base k "gate_points" ["gate"] (ag5 K)) (ub7 : FnIn P w K mg base k "shortened" pO (ahg K)) : FnIn P w K mg base (k + 1) "share" pf (ahh K) := by
 refine F.ok sc_share rfl fun fa cdv A outer s H E hr => ⟨_, (zc (yg (yv (N := pN) (own := 2) (fr := [0]) ⟨rfl, by decide +kernel, of_decide_eq_true (by kernel_rfl), of_decide_eq_true (by kernel_rfl), of_decide_eq_true (by kernel_rfl), rfl⟩ rfl (zY (K := K) rfl (zd uaK hr rfl (za (pv 2) zb))) (fun _ _ _ _ => (zT (K := K) (n := 2) rfl rfl (zo (zk (i := 0) (show (pN : List Str).Nodup by decide +kernel) rfl (Or.inl rfl) (Or.inr rfl)) (zo (zk (i := 1) (show (pN : List Str).Nodup by decide +kernel) rfl (Or.inl rfl) (Or.inr rfl)) zN)))) (fun _ _ _ _ => yJ) (fun _ _ _ _ => (zS (zD (K := K) rfl) (zS (zD (K := K) rfl) (pv 2) (pv 1) (fun _ _ => rfl)) (pv 0) (fun _ _ => rfl))) rfl rfl (fun _ => rfl)) (acZ (K := K) (n := 2) rfl rfl (zo (zk (i := 3) sc_share.nd rfl (Or.inl rfl) (Or.inr rfl)) (zo (zk (i := 4) sc_share.nd rfl (Or.inl rfl) (Or.inr rfl)) zN)))) (zg (zu (zd ub7 hr rfl (za (zq ym (zq zQ (zq qr ze (pv 1)) ze) (zq qr ze (pv 3))) (za (zq qr ze (zq ym (pv 4) (pv 3))) zb)))))), ?_⟩
 rintro f xs ⟨rows, wd, cut, x, y, w⟩ hl ⟨rfl, g, ho⟩
 try dsimp only [zI, zj]
 dsimp only at *
 obtain ⟨i1, i2⟩ := j9 (qR ho)
 have n0 : BB rows x y w ≠ 0 := amq ho
 have n1 : (BB rows x y w).natAbs <= 4000000000 := amr g ho
 refine zW (zE (PEdO.ped (aee (A := fun p : Int × Int => PyData.tuple [.int p.1, .int p.2]) (B := fun p : Int × Int => PyData.int (zZ rows p.1 p.2)) [(x, y), (px x w, py y w)] (yy (zm (x, y, w) (ab2 rfl ⟨rfl, rfl, ?_⟩))))))
 rintro _ rfl
 refine ⟨_, rfl, rfl, show 2 <= 1000 by decide, ?_, ?_⟩
 ·rintro D p ρ' es hp ho hes
  obtain ⟨u, v, rfl⟩ := ho.two
  have hi : zM rows wd p.1 p.2 = true := by
   simp only [ao7, apZ, or_false] at hp
   rcases hp with rfl | rfl
   ·exact i1
   ·exact i2
  obtain ⟨r, h1, h2⟩ := abI g hi
  refine yH rfl (zt (zi (zt (zi (z9 (qL ?_))))))
  rw [if_pos rfl]
  refine yF hes ?_
  unfold tab
  walk_at "w"
  refine ⟨_, h1, ?_⟩
  walk_at "w"
  refine ⟨_, h2, ?_⟩
  exact ⟨.mk2, rfl⟩
 ·refine aiZ rfl (zt (zi (zt (zi (z9 ?_)))))
  have sm : ∀ {i : Int}, i.natAbs < 2 ^ 60 -> i.natAbs < adn := fun h => ag0 h (by decide)
  have b1 : -1000000000 <= zZ rows x y /\ zZ rows x y <= 1000000000 := aa8 g i1
  have b2 : -1000000000 <= zZ rows (px x w) (py y w) /\ zZ rows (px x w) (py y w) <= 1000000000 := aa8 g i2
  have cb : (cut : Int).natAbs < 2 ^ 60 := by
   have : (0 < TT rows cut x y /\ TT rows cut x y < BB rows x y w) \/ (TT rows cut x y < 0 /\ BB rows x y w < TT rows cut x y) := abU ho
   unfold TT BB at this
   omega
  refine ya (zm (TT rows cut x y, BB rows x y w) ?_)
  refine zp (abl (abl (ju (yw ⟨_, rfl, zh rfl ⟨_, rfl, ⟨sm (by decide), sm cb⟩, _, rfl, yw ⟨_, rfl, _, rfl, ju (yw ⟨_, rfl, zh rfl ⟨_, rfl, ⟨sm (by decide), sm (show (zZ rows x y).natAbs < _ by omega)⟩, _, rfl, ?_⟩⟩)⟩⟩⟩))))
  refine zp (ju (yw ⟨_, rfl, abl (zh rfl ⟨_, rfl, zh rfl ⟨_, rfl, _, rfl, ⟨sm (by decide), sm (show (zZ rows (px x w) (py y w) - zZ rows x y).natAbs < _ by omega)⟩, zJ ⟨rfl, ⟨rfl, n0, sm (by omega)⟩, ?_⟩⟩⟩)⟩))
  rintro _ rfl
  rfl
abbrev acK (K : ao0) : Sp := spD K 3 aie fun c r => r = gD3 (plT c.1 c.2.2.1 c.2.2.2)
theorem afb (F : Def K mg "place_of" qy pf) (ub8 : FnIn P w K mg base k "share" pf (ahh K)) : FnIn P w K mg base (k + 1) "place_of" pf (acK K) := by
 refine F.ok sc_place_of rfl fun fa cdv A outer s H E hr => ⟨_, (zc (yg (pv 2) (zT (K := K) (n := 3) rfl rfl (zo (zk (i := 3) sc_place_of.nd rfl (Or.inl rfl) (Or.inr rfl)) (zo (zk (i := 4) sc_place_of.nd rfl (Or.inl rfl) (Or.inr rfl)) (zo (zk (i := 5) sc_place_of.nd rfl (Or.inl rfl) (Or.inr rfl)) zN))))) (zc (yg (zd ub8 hr rfl (za (pv 0) (za (pv 1) (za (pv 2) zb)))) (zT (K := K) (n := 2) rfl rfl (zo (zk (i := 6) sc_place_of.nd rfl (Or.inl rfl) (Or.inr rfl)) (zo (zk (i := 7) sc_place_of.nd rfl (Or.inl rfl) (Or.inr rfl)) zN)))) (zc (yz (zL (vF (K := K) rfl hr.units) (pv 5) ze (zR _)) (zg (zu (zz (za (zq zQ (zq qr (pv 3) (pv 7)) (pv 6)) (za (zq qr (pv 4) (pv 7)) (za (pv 7) zb)))))) zO) (zg (zu (zz (za (zq qr (pv 3) (pv 7)) (za (zq zQ (zq qr (pv 4) (pv 7)) (pv 6)) (za (pv 7) zb))))))))), ?_⟩
 rintro f xs ⟨rows, wd, cut, x, y, w⟩ hl ⟨rfl, g, ho⟩
 try dsimp only [zI, zj]
 dsimp only at *
 obtain ⟨b1, b2, b3⟩ := aoM g ho
 obtain ⟨i1, i2⟩ := j9 (qR ho)
 obtain ⟨x0, x1, y0, y1⟩ := qP i1
 have w2 := g.w2
 have h2 := g.h2
 have sm : ∀ {i : Int}, i.natAbs < 2 ^ 60 -> i.natAbs < adn := fun h => ag0 h (by decide)
 refine zW (zE (zh rfl (yH rfl (zt (zi (zt (zi (zt (zi (z9 ?_))))))))))
 refine zW (zE (zm (rows, wd, cut, x, y, w) (vM rfl rfl rfl ⟨rfl, ⟨rfl, g, ho⟩, ?_⟩)))
 rintro _ rfl
 dsimp only
 have cx : CMulH x ((shQ rows cut (x, y, w)).den : Int) := ⟨sm (by dsimp only at x0 x1; omega), sm (by rw [ar8]; omega)⟩
 have cy : CMulH y ((shQ rows cut (x, y, w)).den : Int) := ⟨sm (by dsimp only at y0 y1; omega), sm (by rw [ar8]; omega)⟩
 refine yH rfl (zt (zi (zt (zi (z9 ?_)))))
 refine zW (aml (w = 0) (aoA rfl) (fun h => ?_) fun h => yD ?_)
 ·refine ya (jY (zp (abl (ju (zh rfl ⟨_, rfl, zh rfl ⟨_, rfl, cx, _, rfl, zh rfl ⟨_, rfl, zp (ju (zh rfl ⟨_, rfl, zh rfl ⟨_, rfl, cy, zp (zh rfl (zJ ⟨_, rfl, by show 3 <= 1000; decide, ?_⟩))⟩⟩))⟩⟩⟩)))))
  unfold plT
  rw [if_pos h]
  rfl
 ·refine ya (jY (zp (ju (zh rfl ⟨_, rfl, zh rfl ⟨_, rfl, cx, zp (abl (ju (zh rfl ⟨_, rfl, zh rfl ⟨_, rfl, cy, _, rfl, zh rfl ⟨_, rfl, zp (zh rfl (zJ ⟨_, rfl, by show 3 <= 1000; decide, ?_⟩))⟩⟩⟩)))⟩⟩))))
  unfold plT
  rw [if_neg h]
  rfl
theorem anY (l : List Gt) (g : Gt) : ((l.map gD3).any fun e => apw e (gD3 g)) = decide (g ∈ l) := by
 rw [List.any_map, asF, List.any_eq_true, decide_eq_true_eq]
 constructor
 ·rintro ⟨e, he, h⟩
  have h : apw (gD3 e) (gD3 g) = true := h
  rw [afY, decide_eq_true_eq] at h
  exact h ▸ he
 ·intro h
  exact ⟨g, h, by show apw (gD3 g) (gD3 g) = true; rw [afY, decide_eq_true rfl]⟩
theorem aki (g : Gt) : (gD3 g).canLay0 = true := rfl
def aa9 (rows : List (List Int)) (wd : Nat) (cut : Int) (ts : List (Bool × List Gt)) : Prop := Told rows wd cut ts /\ (∀ g, opG rows wd cut g = true -> g ∈ flat ts) /\ (ts.map yl).Pairwise fun d e => ltD d e = true
noncomputable def linesOf (rows : List (List Int)) (wd : Nat) (cut : Int) : List (Bool × List Gt) := Classical.epsilon (aa9 rows wd cut)
theorem akj {rows : List (List Int)} {wd : Nat} {cut : Int} {ts : List (Bool × List Gt)} (h : aa9 rows wd cut ts) : linesOf rows wd cut = ts := by
 have h' : aa9 rows wd cut (linesOf rows wd cut) := Classical.epsilon_spec (p := aa9 rows wd cut) ⟨ts, h⟩
 exact aj6 h'.1 h.1 h'.2.1 h.2.1 h'.2.2 h.2.2
noncomputable def adQ (rows : List (List Int)) (wd : Nat) (cut : Int) (q : Gt) : Bool × List Gt := ((linesOf rows wd cut).filter fun t => decide (q ∈ t.2)).headD (true, [])
abbrev TO := List (List Int) × Nat × Int × Int × Int
abbrev TX := List (List Int) × Nat × Int × Int
abbrev TL := List (List Int) × Nat × Int × Gt
abbrev akk (c : TL) (xs : List DV) : Prop := xs = [.dat (tab c.1), .dat (.int c.2.2.1), .dat (gD3 c.2.2.2)] /\ Good c.2.1 c.1
abbrev alP (c : TO) (xs : List DV) : Prop := xs = [.dat (tab c.1), .dat (.int c.2.2.1), .dat (.int c.2.2.2.1), .dat (.int c.2.2.2.2)] /\ Good c.2.1 c.1
abbrev poP (p : List (List Int) -> Nat -> Int -> Int -> Bool) (c : TO) (_ : PyData) : Prop := p c.1 c.2.1 c.2.2.2.1 c.2.2.2.2 = true
abbrev exP (p : List (List Int) -> Nat -> Int -> Int -> Bool) (C : Addr) (c : TO) (V : Value) (x : XD) : Prop := p c.1 c.2.1 c.2.2.2.1 c.2.2.2.2 = false /\ V = .ref C /\ x = none
abbrev adR (p : List (List Int) -> Nat -> Int -> Int -> Bool) (K : ao0) (C : Addr) : Sp := spF K 4 alP (poP p) (exP p C)
abbrev poG (tD : TL -> PyData) (c : TL) (r : PyData) : Prop := opG c.1 c.2.1 c.2.2.1 c.2.2.2 = true /\ r = tD c
abbrev exG (C : Addr) (c : TL) (V : Value) (x : XD) : Prop := opG c.1 c.2.1 c.2.2.1 c.2.2.2 = false /\ V = .ref C /\ x = none
abbrev adS (tD : TL -> PyData) (K : ao0) (C : Addr) : Sp := spF K 3 akk (poG tD) (exG C)
abbrev af3 (K : ao0) (uaa : Addr) : Sp := spF K 3 (fun (c : TX) xs => xs = [.dat (tab c.1), .dat (.int c.2.2.1), .dat (.int c.2.2.2)] /\ Good c.2.1 c.1) (fun c _ => zM c.1 c.2.1 c.2.2.1 c.2.2.2 = true) fun c Cv x => zM c.1 c.2.1 c.2.2.1 c.2.2.2 = false /\ Cv = .ref uaa /\ x = none
theorem alQ {uaa : Addr} (F : Def K mg "ask_point" jK ph) (uaj : mg "NoPoint" = some (.ref uaa)) (ual : aqN K uaa [.type "ValueError", .type "Exception", .type "BaseException", .type "object"] "ValueError.__new__" = true)
  (uak : FnIn P w K mg base k "has_point" ph (aeU K)) : FnInF P w K mg base (k + 1) "ask_point" ph (af3 K uaa) := by
 refine F.okF adu rfl fun fa cdv A outer s H E hr => ⟨_, (zg (yz (vB (z7 (K := K) rfl (zd uak hr rfl (za (pv 0) (za (pv 1) (za (pv 2) zb)))) (fun _ => rfl))) (zg (vN abB rfl rfl rfl rfl rfl uaj ual aq6 (za yL zb))) zO)), ?_⟩
 rintro f xs ⟨rows, wd, x, y⟩ hl ⟨rfl, g⟩
 try dsimp only [zI, zj]
 dsimp only at *
 refine ak7 (abm (yN (zm (rows, wd, x, y) (vM rfl rfl rfl ⟨rfl, ⟨rfl, g⟩, ?_⟩))))
 rintro _ rfl
 refine ⟨_, rfl, ?_⟩
 cases hi : zM rows wd x y with
 | false =>
  rw [aqB, if_pos rfl]
  exact abD (zp (jX (zJ ⟨by show 1 <= 1000; decide, rfl, rfl, rfl⟩)))
 | true =>
  rw [apE, if_neg aoY]
  exact qo (yD rfl)
abbrev adT (K : ao0) (C : Addr) : Sp := spF K 3 akk (fun c _ => opG c.1 c.2.1 c.2.2.1 c.2.2.2 = true) (exG C)
theorem alR {uab : Addr} (F : Def K mg "ask_gate" qv pf) (uaF : mg "NoGate" = some (.ref uab)) (uaR : aqN K uab [.type "ValueError", .type "Exception", .type "BaseException", .type "object"] "ValueError.__new__" = true)
  (uav : FnIn P w K mg base k "is_open" pf (abJ K)) : FnInF P w K mg base (k + 1) "ask_gate" pf (adT K uab) := by
 refine F.okF aeK rfl fun fa cdv A outer s H E hr => ⟨_, (zg (yz (vB (z7 (K := K) rfl (zd uav hr rfl (za (pv 0) (za (pv 1) (za (pv 2) zb)))) (fun _ => rfl))) (zg (vN abB rfl rfl rfl rfl rfl uaF uaR aq6 (za yL zb))) zO)), ?_⟩
 rintro f xs ⟨rows, wd, cut, x, y, w⟩ hl ⟨rfl, g⟩
 try dsimp only [zI, zj]
 dsimp only at *
 refine ak7 (abm (yN (zm (rows, wd, cut, x, y, w) (vM rfl rfl rfl ⟨rfl, ⟨rfl, g⟩, ?_⟩))))
 rintro _ rfl
 refine ⟨yk rows wd cut x y w, rfl, ?_⟩
 cases hi : yk rows wd cut x y w with
 | false =>
  rw [aqB, if_pos rfl]
  exact abD (zp (jX (zJ ⟨by show 1 <= 1000; decide, hi, rfl, rfl⟩)))
 | true =>
  rw [apE, if_neg aoY]
  exact qo (yD hi)
theorem air {uaa : Addr} (F : Def K mg "is_high" qZ pA) (uae : FnIn P w K mg base k "ask_table" pj (vz K)) (uaS : FnInF P w K mg base k "ask_point" ph (af3 K uaa)) (uag : FnIn P w K mg base k "stands_high" pB (vP K)) : FnInF P w K mg base (k + 1) "is_high" pA (adR zM K uaa) := by
 obtain ⟨_, _, ub9, uca, ucb, ucc⟩ := uaS.ex
 refine F.okF afJ rfl fun fa cdv A outer s H E hr => ⟨_, (zc (z6 (zd uae hr rfl (za (pv 0) zb))) (zc (z6 (qN uaS hr rfl (za (pv 0) (za (pv 2) (za (pv 3) zb))))) (zg (zu (zd uag hr rfl (za (pv 0) (za (pv 1) (za (zz (za (pv 2) (za (pv 3) zb))) zb)))))))), ?_⟩
 rintro f xs ⟨rows, wd, cut, x, y⟩ hl ⟨rfl, g⟩
 try dsimp only [zI, zj]
 dsimp only at *
 refine qG (qo (jw (zm (rows, wd) (ab2 rfl ⟨rfl, ⟨rfl, g⟩, ?_⟩))))
 rintro _ rfl
 refine qG (abE (abC (rows, wd, x, y) (vM rfl rfl rfl ⟨rfl, ⟨rfl, g⟩, fun _ hi => ?_, fun C x h => h⟩)))
 refine acA (aau (zm (rows, wd, cut, x, y) (zp (zh rfl (zp (zh rfl (zp (jY (zp (zh rfl (zp (zh rfl (zJ ⟨_, rfl, by show 2 <= 1000; decide, zJ ⟨rfl, ⟨rfl, g, hi⟩, ?_⟩⟩)))))))))))))
 exact fun _ _ => hi
theorem alS {uaa : Addr} (F : Def K mg "ties" ads pA) (uaj : mg "NoPoint" = some (.ref uaa)) (ual : aqN K uaa [.type "ValueError", .type "Exception", .type "BaseException", .type "object"] "ValueError.__new__" = true) (uae : FnIn P w K mg base k "ask_table" pj (vz K)) (uaw : FnIn P w K mg base k "has_cell" ph (abM K)) (ua4 : FnIn P w K mg base k "cell_ties" pq (adJ K)) : FnInF P w K mg base (k + 1) "ties" pA (adR zF K uaa) := by
 refine F.okF alc rfl fun fa cdv A outer s H E hr => ⟨_, (zc (z6 (zd uae hr rfl (za (pv 0) zb))) (zc (yz (vB (z7 (K := K) rfl (zd uaw hr rfl (za (pv 0) (za (pv 2) (za (pv 3) zb)))) (fun _ => rfl))) (zg (vN abB rfl rfl rfl rfl rfl uaj ual aq6 (za yL zb))) zO) (zg (zu (zd ua4 hr rfl (za (pv 0) (za (pv 1) (za (zz (za (pv 2) (za (pv 3) zb))) zb)))))))), ?_⟩
 rintro f xs ⟨rows, wd, cut, x, y⟩ hl ⟨rfl, g⟩
 try dsimp only [zI, zj]
 dsimp only at *
 refine qG (qo (jw (zm (rows, wd) (ab2 rfl ⟨rfl, ⟨rfl, g⟩, ?_⟩))))
 rintro _ rfl
 refine qG (ak7 (abm (yN (zm (rows, wd, x, y) (vM rfl rfl rfl ⟨rfl, ⟨rfl, g⟩, ?_⟩)))))
 rintro _ rfl
 refine ⟨_, rfl, ?_⟩
 dsimp only
 cases hi : zF rows wd x y with
 | false =>
  rw [aqB, if_pos rfl]
  exact abD (zp (jX (zJ ⟨by show 1 <= 1000; decide, hi, rfl, rfl⟩)))
 | true =>
  rw [apE, if_neg aoY]
  refine qo (yD (acA (aau (PEdO.ped (vG (rows, wd, cut, x, y) (zp (zh rfl (zp (zh rfl (zp (jY (zp (zh rfl (zp (zh rfl (zJ ⟨_, rfl, by show 2 <= 1000; decide, zJ ⟨rfl, ⟨rfl, g, hi⟩, ?_⟩⟩))))))))))))))))
  exact fun _ _ => hi
theorem alT {uaa : Addr} (F : Def K mg "region_of" jO pA) (uae : FnIn P w K mg base k "ask_table" pj (vz K)) (uaS : FnInF P w K mg base k "ask_point" ph (af3 K uaa)) (ucd : FnIn P w K mg base k "indexes" pz (acJ w K)) : FnInF P w K mg base (k + 1) "region_of" pA (adR zM K uaa) := by
 obtain ⟨_, _, ub9, uca, ucb, ucc⟩ := uaS.ex
 refine F.okF adz rfl fun fa cdv A outer s H E hr => ⟨_, (zc (z6 (zd uae hr rfl (za (pv 0) zb))) (zc (z6 (qN uaS hr rfl (za (pv 0) (za (pv 2) (za (pv 3) zb))))) (zg (zu (zS (agO (w := w) (K := K) rfl rfl hr.units) (zd ucd hr rfl (za (pv 0) (za (pv 1) zb))) (zz (za (pv 2) (za (pv 3) zb))) (fun _ _ => rfl)))))), ?_⟩
 rintro f xs ⟨rows, wd, cut, x, y⟩ hl ⟨rfl, g⟩
 try dsimp only [zI, zj]
 dsimp only at *
 refine qG (qo (jw (zm (rows, wd) (ab2 rfl ⟨rfl, ⟨rfl, g⟩, ?_⟩))))
 rintro _ rfl
 refine qG (abE (abC (rows, wd, x, y) (vM rfl rfl rfl ⟨rfl, ⟨rfl, g⟩, fun _ hi => ?_, fun C x h => h⟩)))
 refine acA (aau (aow (ang (rows, wd, cut) (ajE rfl rfl ⟨rfl, ⟨rfl, g⟩, ?_⟩))))
 rintro _ ⟨rs, kvs, rfl, R, rl, tl⟩
 dsimp only at R
 obtain ⟨rr, hrr, hm⟩ := R.all (x, y) hi
 obtain ⟨n, hn⟩ := apH hrr
 exact ⟨kvs, rfl, jY (zp (zh rfl (zp (zh rfl (zJ ⟨_, rfl, apt rfl, vS (x, y), _, tl n rr (x, y) hn hm, hi⟩)))))⟩
abbrev goD (c : TL) : PyData := .str (aad c.1 c.2.2.1 c.2.2.2.1 c.2.2.2.2.1 c.2.2.2.2.2)
noncomputable abbrev liD (c : TL) : PyData := yl (adQ c.1 c.2.1 c.2.2.1 c.2.2.2)
abbrev plD (c : TL) : PyData := gD3 (plT c.1 c.2.2.1 c.2.2.2)
theorem alU {uab : Addr} (F : Def K mg "goes" adt pf) (uae : FnIn P w K mg base k "ask_table" pj (vz K)) (uam : FnInF P w K mg base k "ask_gate" pf (adT K uab)) (uaO : FnIn P w K mg base k "heading" pf (adL K)) : FnInF P w K mg base (k + 1) "goes" pf (adS goD K uab) := by
 obtain ⟨_, _, ubP, ubQ, ubR, ubS⟩ := uam.ex
 refine F.okF ald rfl fun fa cdv A outer s H E hr => ⟨_, (zc (z6 (zd uae hr rfl (za (pv 0) zb))) (zc (z6 (qN uam hr rfl (za (pv 0) (za (pv 1) (za (pv 2) zb))))) (zg (zu (zd uaO hr rfl (za (pv 0) (za (pv 1) (za (pv 2) zb)))))))), ?_⟩
 rintro f xs ⟨rows, wd, cut, q⟩ hl ⟨rfl, g⟩
 try dsimp only [zI, zj]
 dsimp only at *
 refine qG (qo (jw (zm (rows, wd) (ab2 rfl ⟨rfl, ⟨rfl, g⟩, ?_⟩))))
 rintro _ rfl
 refine qG (abE (abC (rows, wd, cut, q) (vM rfl rfl rfl ⟨rfl, ⟨rfl, g⟩, fun _ o => ?_, fun C x h => h⟩)))
 dsimp only at o
 refine acA (aau (zm (rows, wd, cut, q) (vM rfl rfl rfl ⟨rfl, ⟨rfl, g, (j9 (qR o)).1⟩, ?_⟩)))
 rintro _ rfl
 exact ⟨o, rfl⟩
theorem akl {uab : Addr} (F : Def K mg "line_at" vc pf) (uae : FnIn P w K mg base k "ask_table" pj (vz K)) (uam : FnInF P w K mg base k "ask_gate" pf (adT K uab)) (uce : FnIn P w K mg base k "lines" pz (ahd K)) : FnInF P w K mg base (k + 1) "line_at" pf (adS liD K uab) := by
 obtain ⟨_, _, ubP, ubQ, ubR, ubS⟩ := uam.ex
 refine F.okF afN rfl fun fa cdv A outer s H E hr => ⟨_, (zc (z6 (zd uae hr rfl (za (pv 0) zb))) (zc (z6 (qN uam hr rfl (za (pv 0) (za (pv 1) (za (pv 2) zb))))) (zg (zu (zS (zD (K := K) rfl) (yv (N := ["line", "gate"]) (own := 1) (fr := [2]) ⟨rfl, by decide +kernel, of_decide_eq_true (by kernel_rfl), of_decide_eq_true (by kernel_rfl), of_decide_eq_true (by kernel_rfl), rfl⟩ rfl (zY (K := K) rfl (zd uce hr rfl (za (pv 0) (za (pv 1) zb)))) (fun _ _ _ _ => (zk (i := 0) (show (["line", "gate"] : List Str).Nodup by decide +kernel) rfl (Or.inl rfl) (Or.inr rfl))) (fun _ _ _ _ => (jE (zL (ajD (K := K) rfl hr.units) (pv 1) (zS (je (K := K) rfl) (pv 0) ze (fun _ _ => rfl)) rfl))) (fun _ _ _ _ => (pv 0)) rfl rfl (fun _ => rfl)) ze (fun _ _ => rfl)))))), ?_⟩
 rintro f xs ⟨rows, wd, cut, q⟩ hl ⟨rfl, g⟩
 try dsimp only [zI, zj]
 dsimp only at *
 refine qG (qo (jw (zm (rows, wd) (ab2 rfl ⟨rfl, ⟨rfl, g⟩, ?_⟩))))
 rintro _ rfl
 refine qG (abE (abC (rows, wd, cut, q) (vM rfl rfl rfl ⟨rfl, ⟨rfl, g⟩, fun _ o => ?_, fun C x h => h⟩)))
 dsimp only at o
 refine acA (aau (vt (PEdO.ped (qK (yy (PEdO.ped (vG (rows, wd, cut) (ajE rfl rfl ⟨rfl, ⟨rfl, g⟩, ?_⟩))))))))
 rintro _ ⟨ts, rfl, T, aT, pT⟩
 dsimp only at T aT
 have fT := T.few g
 have li := akj ⟨T, aT, pT⟩
 refine ⟨_, rfl, fun n ρ es => (∃ u, ρ = [u, some (.dat (gD3 q))]) /\ es = ((ts.take n).filter fun t => decide (q ∈ t.2)).map yl, ⟨⟨_, rfl⟩, rfl⟩, ?_, ?_⟩
 ·rintro D n d ρ' es hd ⟨⟨u, rfl⟩, rfl⟩
  rw [ao8] at hd
  cases ht : ts[n]? with
  | none => rw [ht] at hd; cases hd
  | some t =>
   rw [ht] at hd
   cases hd
   have tk : ts.take (n + 1) = ts.take n ++ [t] := by
    rw [aqe, ht]
    rfl
   have len : (((ts.take n).filter fun t => decide (q ∈ t.2)).map yl).length < 1000 := by
    rw [aoZ]
    have a1 := apK (fun t : Bool × List Gt => decide (q ∈ t.2)) (ts.take n)
    rw [apP] at a1
    omega
   refine zi (yt (anr (zh rfl (vu (zh rfl ⟨_, rfl, yw ⟨_, rfl, .tuple (t.2.map gD3), rfl, _, rfl, aki q, fun e he => ?_, apt rfl, _, rfl, ?_⟩⟩)))))
   ·obtain ⟨z, _, rfl⟩ := apm.mp he
    exact aki z
   rw [anY]
   refine yq (fun h => ?_) fun h => ?_
   ·refine yF len (zh rfl ⟨⟨_, rfl⟩, ?_⟩)
    rw [tk, apU, aps, apQ, h, if_pos rfl]
    rfl
   ·refine ⟨⟨_, rfl⟩, ?_⟩
    rw [tk, apU, aps, apQ, h, if_neg aoY]
    simp
 ·rintro ρ' es ⟨_, rfl⟩
  rw [aoZ, apM]
  obtain ⟨t, ht, hq⟩ := apN.mp (aT q o)
  have hm : t ∈ ts.filter fun t => decide (q ∈ t.2) := apL.mpr ⟨ht, decide_eq_true hq⟩
  cases hf : ts.filter fun t => decide (q ∈ t.2) with
  | nil => rw [hf] at hm; cases hm
  | cons t0 rest =>
   exact ⟨_, rfl, yw ⟨_, rfl, yl t0, yT (j := 0) rfl, o, by show yl t0 = yl (adQ rows wd cut q); unfold adQ; rw [li, hf]; rfl⟩⟩
theorem ais {uab : Addr} (F : Def K mg "place" aa4 pf) (uae : FnIn P w K mg base k "ask_table" pj (vz K)) (uam : FnInF P w K mg base k "ask_gate" pf (adT K uab)) (ucf : FnIn P w K mg base k "place_of" pf (acK K)) : FnInF P w K mg base (k + 1) "place" pf (adS plD K uab) := by
 obtain ⟨_, _, ubP, ubQ, ubR, ubS⟩ := uam.ex
 refine F.okF ajI rfl fun fa cdv A outer s H E hr => ⟨_, (zc (z6 (zd uae hr rfl (za (pv 0) zb))) (zc (z6 (qN uam hr rfl (za (pv 0) (za (pv 1) (za (pv 2) zb))))) (zg (zu (zd ucf hr rfl (za (pv 0) (za (pv 1) (za (pv 2) zb)))))))), ?_⟩
 rintro f xs ⟨rows, wd, cut, q⟩ hl ⟨rfl, g⟩
 try dsimp only [zI, zj]
 dsimp only at *
 refine qG (qo (jw (zm (rows, wd) (ab2 rfl ⟨rfl, ⟨rfl, g⟩, ?_⟩))))
 rintro _ rfl
 refine qG (abE (abC (rows, wd, cut, q) (vM rfl rfl rfl ⟨rfl, ⟨rfl, g⟩, fun _ o => ?_, fun C x h => h⟩)))
 dsimp only at o
 refine acA (aau (zm (rows, wd, cut, q) (vM rfl rfl rfl ⟨rfl, ⟨rfl, g, o⟩, ?_⟩)))
 rintro _ rfl
 exact ⟨o, rfl⟩
theorem aah : bootBuiltins "ValueError" = some (.type "ValueError") := by kernel_rfl
def abV (b : Bool) : PyData := .list ([.bool true] ++ [.bool !b, .bool b, .bool false, .bool false, .bool false, .bool false, .bool false, .bool false, .bool false] ++ [.bool false])
abbrev ahi (K : ao0) (uaa uab : Addr) : Addr -> Sp := spM K 1 (fun a (b : Bool) xs => xs = [.mon (jB K a (.ref (if b = true then uab else uaa)) none)]) fun b r => r = abV b
theorem akm {uan uaa uab uao uap uaq uar uas uat uau : Addr} (F : Def K mg "_law_kinds" jQ pR) (uah : mg "isinstance" = none) (ua6 : mg "ValueError" = none)
  (ua7 : mg "NoTable" = some (.ref uan)) (uaj : mg "NoPoint" = some (.ref uaa)) (uaF : mg "NoGate" = some (.ref uab)) (ua8 : mg "NoRing" = some (.ref uao)) (ua9 : mg "TooSteep" = some (.ref uap)) (uba : mg "NoWeb" = some (.ref uaq)) (ubb : mg "NoBack" = some (.ref uar)) (ubc : mg "NoText" = some (.ref uas)) (ubd : mg "NoRow" = some (.ref uat)) (ube : mg "NoDeed" = some (.ref uau))
  (uaT : qX K uaa = true) (uaU : qX K uab = true) (kpv : apa K (.ref uaa) (.type "ValueError") = some true) (kgv : apa K (.ref uab) (.type "ValueError") = some true)
  (kp1 : apa K (.ref uaa) (.ref uaa) = some true) (kp2 : apa K (.ref uaa) (.ref uab) = some false) (kp3 : apa K (.ref uaa) (.ref uan) = some false) (kp4 : apa K (.ref uaa) (.ref uap) = some false) (kp5 : apa K (.ref uaa) (.ref uaq) = some false) (kp6 : apa K (.ref uaa) (.ref uar) = some false) (kp7 : apa K (.ref uaa) (.ref uas) = some false) (kp8 : apa K (.ref uaa) (.ref uat) = some false) (kp9 : apa K (.ref uaa) (.ref uau) = some false) (kpr : apa K (.ref uaa) (.ref uao) = some false)
  (kg1 : apa K (.ref uab) (.ref uaa) = some false) (kg2 : apa K (.ref uab) (.ref uab) = some true) (kg3 : apa K (.ref uab) (.ref uan) = some false) (kg4 : apa K (.ref uab) (.ref uap) = some false) (kg5 : apa K (.ref uab) (.ref uaq) = some false) (kg6 : apa K (.ref uab) (.ref uar) = some false) (kg7 : apa K (.ref uab) (.ref uas) = some false) (kg8 : apa K (.ref uab) (.ref uat) = some false) (kg9 : apa K (.ref uab) (.ref uau) = some false) (kgr : apa K (.ref uab) (.ref uao) = some false) :
  FnInM P w K mg base (k + 1) "_law_kinds" pR (ahi K uaa uab) := by
 have W1 := agX uaT
 have W2 := agX uaU
 refine F.okM sc_law_kinds rfl fun fa cdv A outer s H ea hM hr => ⟨_, (zc (zC (i := 1) sc_law_kinds.nd rfl (Or.inl rfl) (zV (za (zx (yB (K := K) rfl) rfl uah boot_isinstance (za (pv 0) (za (yj (v := .ref uaa) rfl uaj rfl) zb))) (za (zx (yB (K := K) rfl) rfl uah boot_isinstance (za (pv 0) (za (yj (v := .ref uab) rfl uaF rfl) zb))) (za (zx (yB (K := K) rfl) rfl uah boot_isinstance (za (pv 0) (za (yj (v := .ref uao) rfl ua8 rfl) zb))) zb))))) (zc (zC (i := 1) sc_law_kinds.nd rfl (Or.inl rfl) (zq (jy (K := K) rfl) (pv 1) (zV (za (zx (yB (K := K) rfl) rfl uah boot_isinstance (za (pv 0) (za (yj (v := .ref uap) rfl ua9 rfl) zb))) (za (zx (yB (K := K) rfl) rfl uah boot_isinstance (za (pv 0) (za (yj (v := .ref uaq) rfl uba rfl) zb))) (za (zx (yB (K := K) rfl) rfl uah boot_isinstance (za (pv 0) (za (yj (v := .ref uar) rfl ubb rfl) zb))) zb)))))) (zc (zC (i := 1) sc_law_kinds.nd rfl (Or.inl rfl) (zq (jy (K := K) rfl) (pv 1) (zV (za (zx (yB (K := K) rfl) rfl uah boot_isinstance (za (pv 0) (za (yj (v := .ref uas) rfl ubc rfl) zb))) (za (zx (yB (K := K) rfl) rfl uah boot_isinstance (za (pv 0) (za (yj (v := .ref uat) rfl ubd rfl) zb))) (za (zx (yB (K := K) rfl) rfl uah boot_isinstance (za (pv 0) (za (yj (v := .ref uau) rfl ube rfl) zb))) zb)))))) (zg (zu (zq (jy (K := K) rfl) (zq (jy (K := K) rfl) (zV (za (zx (yB (K := K) rfl) rfl uah boot_isinstance (za (pv 0) (za (aku (v := .ty "ValueError") rfl ua6 aah rfl) zb))) zb)) (pv 1)) (zV (za (zx (yB (K := K) rfl) rfl uah boot_isinstance (za (pv 0) (za (yj (v := .ref uan) rfl ua7 rfl) zb))) zb)))))))), ?_⟩
 rintro f xs b hl rfl
 try dsimp only [cxM, zI, zj]
 cases b with
 | false =>
  refine yZ (fun ρ => ρ = [some (.mon (jB K ea (.ref uaa) none)), some (.dat (.list [.bool true, .bool false, .bool false]))]) ?_ ?_
  ·repeat (first | walk_at "dl" | refine qO rfl W1 (by assumption) ?_)
   rfl
  rintro _ rfl
  refine yZ (fun ρ => ρ = [some (.mon (jB K ea (.ref uaa) none)), some (.dat (.list [.bool true, .bool false, .bool false, .bool false, .bool false, .bool false]))]) (zE (jz (zh rfl ⟨_, rfl, ?_⟩))) ?_
  ·repeat (first | walk_at "dl" | refine qO rfl W1 (by assumption) ?_)
   rfl
  rintro _ rfl
  refine yZ (fun ρ => ρ = [some (.mon (jB K ea (.ref uaa) none)), some (.dat (.list [.bool true, .bool false, .bool false, .bool false, .bool false, .bool false, .bool false, .bool false, .bool false]))]) (zE (jz (zh rfl ⟨_, rfl, ?_⟩))) ?_
  ·repeat (first | walk_at "dl" | refine qO rfl W1 (by assumption) ?_)
   rfl
  rintro _ rfl
  refine ya (jz (jz (jv (zp (ajz rfl W1 (.inl ⟨_, rfl, kpv⟩) (zJ ⟨_, rfl, by show 1 <= 1000; decide, ⟨_, rfl, zh rfl ⟨_, rfl, by show 10 <= 1000; decide, ⟨_, rfl, jv (zp (qO rfl W1 kp3 (zJ ⟨_, rfl, by show 1 <= 1000; decide, ⟨_, rfl, by show 11 <= 1000; decide, rfl⟩⟩)))⟩⟩⟩⟩))))))
 | true =>
  refine yZ (fun ρ => ρ = [some (.mon (jB K ea (.ref uab) none)), some (.dat (.list [.bool false, .bool true, .bool false]))]) ?_ ?_
  ·repeat (first | walk_at "dl" | refine qO rfl W2 (by assumption) ?_)
   rfl
  rintro _ rfl
  refine yZ (fun ρ => ρ = [some (.mon (jB K ea (.ref uab) none)), some (.dat (.list [.bool false, .bool true, .bool false, .bool false, .bool false, .bool false]))]) (zE (jz (zh rfl ⟨_, rfl, ?_⟩))) ?_
  ·repeat (first | walk_at "dl" | refine qO rfl W2 (by assumption) ?_)
   rfl
  rintro _ rfl
  refine yZ (fun ρ => ρ = [some (.mon (jB K ea (.ref uab) none)), some (.dat (.list [.bool false, .bool true, .bool false, .bool false, .bool false, .bool false, .bool false, .bool false, .bool false]))]) (zE (jz (zh rfl ⟨_, rfl, ?_⟩))) ?_
  ·repeat (first | walk_at "dl" | refine qO rfl W2 (by assumption) ?_)
   rfl
  rintro _ rfl
  refine ya (jz (jz (jv (zp (ajz rfl W2 (.inl ⟨_, rfl, kgv⟩) (zJ ⟨_, rfl, by show 1 <= 1000; decide, ⟨_, rfl, zh rfl ⟨_, rfl, by show 10 <= 1000; decide, ⟨_, rfl, jv (zp (qO rfl W2 kg3 (zJ ⟨_, rfl, by show 1 <= 1000; decide, ⟨_, rfl, by show 11 <= 1000; decide, rfl⟩⟩)))⟩⟩⟩⟩))))))
abbrev T6 := List (List Int) × Nat × Int × Int × Gt × List PyData
def okT (c : T6) : Bool := if c.2.2.2.1 = 1 then zF c.1 c.2.1 c.2.2.2.2.1.1 c.2.2.2.2.1.2.1 else if c.2.2.2.1 < 3 then zM c.1 c.2.1 c.2.2.2.2.1.1 c.2.2.2.2.1.2.1 else opG c.1 c.2.1 c.2.2.1 c.2.2.2.2.1
noncomputable def toD (c : T6) : PyData := if c.2.2.2.1 = 3 then goD (c.1, c.2.1, c.2.2.1, c.2.2.2.2.1) else if c.2.2.2.1 = 4 then liD (c.1, c.2.1, c.2.2.1, c.2.2.2.2.1) else plD (c.1, c.2.1, c.2.2.1, c.2.2.2.2.1)
abbrev aoW (c : T6) (xs : List DV) : Prop := xs = [.dat (tab c.1), .dat (.int c.2.2.1), .dat (.int c.2.2.2.1), .dat (.tuple (.int c.2.2.2.2.1.1 :: .int c.2.2.2.2.1.2.1 :: c.2.2.2.2.2))] /\ Good c.2.1 c.1 /\ 0 <= c.2.2.2.1 /\ c.2.2.2.1 < 6 /\ (2 < c.2.2.2.1 -> c.2.2.2.2.2 = [.int c.2.2.2.2.1.2.2])
abbrev ams (c : T6) (r : PyData) : Prop := (okT c = false -> r = abV (decide (2 < c.2.2.2.1))) /\ (okT c = true -> ∃ d, r = .list [.str "told", d] /\ (2 < c.2.2.2.1 -> d = toD c))
abbrev akn (K : ao0) : Sp := spD K 4 aoW ams
theorem alV {uaa uab uay : Addr} (F : Def K mg "_law_told" qB pS) (ubf : mg "HeightError" = some (.ref uay)) (ep : aqV K (.ref uaa) (.ref uay) = some true) (eg : aqV K (.ref uab) (.ref uay) = some true)
  (ucg : FnInF P w K mg base k "is_high" pA (adR zM K uaa)) (uch : FnInF P w K mg base k "ties" pA (adR zF K uaa)) (uci : FnInF P w K mg base k "region_of" pA (adR zM K uaa)) (ucj : FnInF P w K mg base k "goes" pf (adS goD K uab)) (uck : FnInF P w K mg base k "line_at" pf (adS liD K uab)) (ucl : FnInF P w K mg base k "place" pf (adS plD K uab)) (ucm : FnInM P w K mg base k "_law_kinds" pR (ahi K uaa uab)) : FnIn P w K mg base (k + 1) "_law_told" pS (akn K) := by
 obtain ⟨a_is_high, d_is_high, ucn, uco, ucp, ucq⟩ := ucg.ex
 obtain ⟨a_ties, d_ties, ucr, ucs, uct, ucu⟩ := uch.ex
 obtain ⟨a_region_of, d_region_of, ucv, ucw, ucx, ucy⟩ := uci.ex
 obtain ⟨a_goes, d_goes, ucz, ucA, ucB, ucC⟩ := ucj.ex
 obtain ⟨a_line_at, d_line_at, ucD, ucE, ucF, ucG⟩ := uck.ex
 obtain ⟨a_place, d_place, ucH, ucI, ucJ, ucK⟩ := ucl.ex
 refine F.ok sc_law_told rfl fun fa cdv A outer s H E hr => ⟨_, (zc (ak6 (j := 5) (ant (zL adX (pv 2) ze (zR _)) (agY (i := 4) (fns := [(a_is_high, (adR zM K uaa)), (a_ties, (adR zF K uaa)), (a_region_of, (adR zM K uaa))]) (zS (zD (K := K) rfl) (zV (za (yj (v := .ref a_is_high) rfl uco rfl) (za (yj (v := .ref a_ties) rfl ucs rfl) (za (yj (v := .ref a_region_of) rfl ucw rfl) zb)))) (pv 2) (fun _ _ => rfl)) (jo ucn ucp ucq (jo ucr uct ucu (jo ucv ucx ucy aeE))) hr (za (pv 0) (za (pv 1) (za (zS (je (K := K) rfl) (pv 3) ze (fun _ _ => rfl)) (za (zS (je (K := K) rfl) (pv 3) ze (fun _ _ => rfl)) zb)))) sc_law_told.nd rfl (Or.inl rfl) (Or.inl rfl) zO) (agY (i := 4) (fns := [(a_goes, (adS goD K uab)), (a_line_at, (adS liD K uab)), (a_place, (adS plD K uab))]) (zS (zD (K := K) rfl) (zV (za (yj (v := .ref a_goes) rfl ucA rfl) (za (yj (v := .ref a_line_at) rfl ucE rfl) (za (yj (v := .ref a_place) rfl ucI rfl) zb)))) (zq ym (pv 2) ze) (fun _ _ => rfl)) (jo ucz ucB ucC (jo ucD ucF ucG (jo ucH ucJ ucK aeE))) hr (za (pv 0) (za (pv 1) (za (pv 3) zb))) sc_law_told.nd rfl (Or.inl rfl) (Or.inl rfl) zO) (zg (zC (i := 4) sc_law_told.nd rfl (Or.inl rfl) (zV (za yL (za (pv 4) zb)))))) sc_law_told.nd rfl rfl rfl rfl rfl ubf (fun _ => (zg (zC (i := 4) sc_law_told.nd rfl (Or.inl rfl) (ajA ucm hr rfl (za (pv 5) zb)))))) (zg (zu (pv 4)))), ?_⟩
 rintro f xs ⟨rows, wd, cut, way, ⟨x, y, z⟩, e⟩ hl ⟨rfl, g, v0, v1, he⟩
 try dsimp only [zI, zj]
 dsimp only at *
 have : way = 0 \/ way = 1 \/ way = 2 \/ way = 3 \/ way = 4 \/ way = 5 := by omega
 rcases this with rfl | rfl | rfl | rfl | rfl | rfl
 ·have ok : okT (rows, wd, cut, 0, (x, y, z), e) = zM rows wd x y := rfl
  refine zW (aav (acC (ahU ?_)))
  walk_at "w"
  rw [if_pos (by decide)]
  refine aaw (n := 4) (γ := TO) (pre := alP) (post := poP zM) (exc := exP zM uaa) (as := [a_is_high, a_ties, a_region_of]) (apt rfl) (rows, wd, cut, x, y) (zh rfl ⟨_, a_is_high, rfl, rfl, ao4 .., ?_⟩)
  refine zp (zh rfl (zp (zh rfl (zp (vu (zh rfl ⟨_, rfl, yw ⟨_, rfl, .int x, yT (j := 0) rfl, ?_⟩⟩))))))
  refine zp (vu (zh rfl ⟨_, rfl, yw ⟨_, rfl, .int y, yT (j := 1) rfl, zJ ⟨rfl, ⟨rfl, g⟩, fun r o => ?_, ?_⟩⟩⟩))
  ·have o : zM rows wd x y = true := o
   refine yD (zE (jv (zp (jX (zp (zh rfl (zJ ⟨_, rfl, by show 2 <= 1000; decide, zi (ya (zh rfl ⟨fun h => ?_, fun _ => ⟨_, rfl, fun h => absurd h (show ¬ (2 : Int) < 0 by decide)⟩⟩))⟩)))))))
   rw [ok, o] at h
   cases h
  ·rintro _ _ ⟨o, rfl, rfl⟩
   refine ⟨ep, fun a => zE (zm false (acz (v_var rfl (zJ ⟨rfl, rfl, ?_⟩))))⟩
   rintro _ rfl
   refine zi (ya (zh rfl ⟨fun _ => rfl, fun h => ?_⟩))
   dsimp only at o
   rw [ok, o] at h
   cases h
 ·have ok : okT (rows, wd, cut, 1, (x, y, z), e) = zF rows wd x y := rfl
  refine zW (aav (acC (ahU ?_)))
  walk_at "w"
  rw [if_pos (by decide)]
  refine aaw (n := 4) (γ := TO) (pre := alP) (post := poP zF) (exc := exP zF uaa) (as := [a_is_high, a_ties, a_region_of]) (apt rfl) (rows, wd, cut, x, y) (zh rfl ⟨_, a_ties, rfl, rfl, ao3 _ (ao4 ..), ?_⟩)
  refine zp (zh rfl (zp (zh rfl (zp (vu (zh rfl ⟨_, rfl, yw ⟨_, rfl, .int x, yT (j := 0) rfl, ?_⟩⟩))))))
  refine zp (vu (zh rfl ⟨_, rfl, yw ⟨_, rfl, .int y, yT (j := 1) rfl, zJ ⟨rfl, ⟨rfl, g⟩, fun r o => ?_, ?_⟩⟩⟩))
  ·have o : zF rows wd x y = true := o
   refine yD (zE (jv (zp (jX (zp (zh rfl (zJ ⟨_, rfl, by show 2 <= 1000; decide, zi (ya (zh rfl ⟨fun h => ?_, fun _ => ⟨_, rfl, fun h => absurd h (show ¬ (2 : Int) < 1 by decide)⟩⟩))⟩)))))))
   rw [ok, o] at h
   cases h
  ·rintro _ _ ⟨o, rfl, rfl⟩
   refine ⟨ep, fun a => zE (zm false (acz (v_var rfl (zJ ⟨rfl, rfl, ?_⟩))))⟩
   rintro _ rfl
   refine zi (ya (zh rfl ⟨fun _ => rfl, fun h => ?_⟩))
   dsimp only at o
   rw [ok, o] at h
   cases h
 ·have ok : okT (rows, wd, cut, 2, (x, y, z), e) = zM rows wd x y := rfl
  refine zW (aav (acC (ahU ?_)))
  walk_at "w"
  rw [if_pos (by decide)]
  refine aaw (n := 4) (γ := TO) (pre := alP) (post := poP zM) (exc := exP zM uaa) (as := [a_is_high, a_ties, a_region_of]) (apt rfl) (rows, wd, cut, x, y) (zh rfl ⟨_, a_region_of, rfl, rfl, ao3 _ (ao3 _ (ao4 ..)), ?_⟩)
  refine zp (zh rfl (zp (zh rfl (zp (vu (zh rfl ⟨_, rfl, yw ⟨_, rfl, .int x, yT (j := 0) rfl, ?_⟩⟩))))))
  refine zp (vu (zh rfl ⟨_, rfl, yw ⟨_, rfl, .int y, yT (j := 1) rfl, zJ ⟨rfl, ⟨rfl, g⟩, fun r o => ?_, ?_⟩⟩⟩))
  ·have o : zM rows wd x y = true := o
   refine yD (zE (jv (zp (jX (zp (zh rfl (zJ ⟨_, rfl, by show 2 <= 1000; decide, zi (ya (zh rfl ⟨fun h => ?_, fun _ => ⟨_, rfl, fun h => absurd h (show ¬ (2 : Int) < 2 by decide)⟩⟩))⟩)))))))
   rw [ok, o] at h
   cases h
  ·rintro _ _ ⟨o, rfl, rfl⟩
   refine ⟨ep, fun a => zE (zm false (acz (v_var rfl (zJ ⟨rfl, rfl, ?_⟩))))⟩
   rintro _ rfl
   refine zi (ya (zh rfl ⟨fun _ => rfl, fun h => ?_⟩))
   dsimp only at o
   rw [ok, o] at h
   cases h
 ·have ok : okT (rows, wd, cut, 3, (x, y, z), e) = opG rows wd cut (x, y, z) := rfl
  obtain rfl := he (by decide)
  refine zW (aav (acC (ahU ?_)))
  walk_at "w"
  rw [if_neg (by decide)]
  refine aaw (n := 3) (γ := TL) (pre := akk) (post := poG goD) (exc := exG uab) (as := [a_goes, a_line_at, a_place]) (apt rfl) (rows, wd, cut, x, y, z) ?_
  walk_at "w"
  refine ⟨_, a_goes, rfl, rfl, ao4 .., ?_⟩
  refine vM rfl rfl rfl ⟨rfl, ⟨rfl, g⟩, ?_, ?_⟩
  ·rintro _ ⟨o, rfl⟩
   dsimp only at o
   refine yD (zE (jv (zp (jX (zp (zh rfl (zJ ⟨_, rfl, by show 2 <= 1000; decide, zi (ya (zh rfl ⟨fun h => ?_, fun _ => ⟨_, rfl, fun h => rfl⟩⟩))⟩)))))))
   rw [ok, o] at h
   cases h
  ·rintro _ _ ⟨o, rfl, rfl⟩
   refine ⟨eg, fun a => zE (zm true (acz (v_var rfl (zJ ⟨rfl, rfl, ?_⟩))))⟩
   rintro _ rfl
   refine zi (ya (zh rfl ⟨fun _ => rfl, fun h => ?_⟩))
   dsimp only at o
   rw [ok, o] at h
   cases h
 ·have ok : okT (rows, wd, cut, 4, (x, y, z), e) = opG rows wd cut (x, y, z) := rfl
  obtain rfl := he (by decide)
  refine zW (aav (acC (ahU ?_)))
  walk_at "w"
  rw [if_neg (by decide)]
  refine aaw (n := 3) (γ := TL) (pre := akk) (post := poG liD) (exc := exG uab) (as := [a_goes, a_line_at, a_place]) (apt rfl) (rows, wd, cut, x, y, z) ?_
  walk_at "w"
  refine ⟨_, a_line_at, rfl, rfl, ao3 _ (ao4 ..), ?_⟩
  refine vM rfl rfl rfl ⟨rfl, ⟨rfl, g⟩, ?_, ?_⟩
  ·rintro _ ⟨o, rfl⟩
   dsimp only at o
   refine yD (zE (jv (zp (jX (zp (zh rfl (zJ ⟨_, rfl, by show 2 <= 1000; decide, zi (ya (zh rfl ⟨fun h => ?_, fun _ => ⟨_, rfl, fun h => rfl⟩⟩))⟩)))))))
   rw [ok, o] at h
   cases h
  ·rintro _ _ ⟨o, rfl, rfl⟩
   refine ⟨eg, fun a => zE (zm true (acz (v_var rfl (zJ ⟨rfl, rfl, ?_⟩))))⟩
   rintro _ rfl
   refine zi (ya (zh rfl ⟨fun _ => rfl, fun h => ?_⟩))
   dsimp only at o
   rw [ok, o] at h
   cases h
 ·have ok : okT (rows, wd, cut, 5, (x, y, z), e) = opG rows wd cut (x, y, z) := rfl
  obtain rfl := he (by decide)
  refine zW (aav (acC (ahU ?_)))
  walk_at "w"
  rw [if_neg (by decide)]
  refine aaw (n := 3) (γ := TL) (pre := akk) (post := poG plD) (exc := exG uab) (as := [a_goes, a_line_at, a_place]) (apt rfl) (rows, wd, cut, x, y, z) ?_
  walk_at "w"
  refine ⟨_, a_place, rfl, rfl, ao3 _ (ao3 _ (ao4 ..)), ?_⟩
  refine vM rfl rfl rfl ⟨rfl, ⟨rfl, g⟩, ?_, ?_⟩
  ·rintro _ ⟨o, rfl⟩
   dsimp only at o
   refine yD (zE (jv (zp (jX (zp (zh rfl (zJ ⟨_, rfl, by show 2 <= 1000; decide, zi (ya (zh rfl ⟨fun h => ?_, fun _ => ⟨_, rfl, fun h => rfl⟩⟩))⟩)))))))
   rw [ok, o] at h
   cases h
  ·rintro _ _ ⟨o, rfl, rfl⟩
   refine ⟨eg, fun a => zE (zm true (acz (v_var rfl (zJ ⟨rfl, rfl, ?_⟩))))⟩
   rintro _ rfl
   refine zi (ya (zh rfl ⟨fun _ => rfl, fun h => ?_⟩))
   dsimp only at o
   rw [ok, o] at h
   cases h
abbrev ako (K : ao0) : Sp := spD K 2 (fun (c : List (List Int) × Nat) xs => xs = [.feed, .dat (tab c.1)] /\ Good c.2 c.1) fun c r => ∃ q : Gt, r = gD3 q /\ zM c.1 c.2 q.1 q.2.1 = false
theorem alW (F : Def K mg "_law_gone" qC pE) (uac : mg "len" = none) (uad : FnIn P w K mg base k "_law_draw" pF (abH K)) : FnIn P w K mg base (k + 1) "_law_gone" pE (ako K) := by
 refine F.ok sc_law_gone rfl fun fa cdv A outer s H E hr => ⟨_, (zc (zC (i := 2) sc_law_gone.nd rfl (Or.inl rfl) (zS (zD (K := K) rfl) (zV (za ze (za (zq aak ze ze) zb))) (zd uad hr rfl (za (pv 0) (za ze zb))) (fun _ _ => rfl))) (zc (zC (i := 3) sc_law_gone.nd rfl (Or.inl rfl) (zx (yc (K := K) rfl) rfl uac apY (za (zS (zD (K := K) rfl) (pv 1) ze (fun _ _ => rfl)) zb))) (zc (zC (i := 4) sc_law_gone.nd rfl (Or.inl rfl) (zx (yc (K := K) rfl) rfl uac apY (za (pv 1) zb))) (zc (zC (i := 5) sc_law_gone.nd rfl (Or.inl rfl) (zV (za (zz (za (zq zQ (zq ym (pv 3) ze) (pv 2)) (za ze (za ze zb)))) (za (zz (za ze (za (zq zQ (zq ym (pv 4) ze) (pv 2)) (za ze zb)))) (za (zz (za (zq ym ze (pv 2)) (za ze (za ze zb)))) (za (zz (za ze (za (zq ym ze (pv 2)) (za ze zb)))) (za (zz (za (zq zQ (zq ym (pv 3) ze) (pv 2)) (za ze (za ze zb)))) zb))))))) (zg (zu (zS (zD (K := K) rfl) (pv 5) (zd uad hr rfl (za (pv 0) (za ze zb))) (fun _ _ => rfl)))))))), ?_⟩
 rintro f xs ⟨rows, wd⟩ hl ⟨rfl, g⟩
 try dsimp only [zI, zj]
 dsimp only at *
 have g1 := g.h1
 have ml : (rows.map fun r => PyData.list (r.map .int)).length = rows.length := aoZ _
 obtain ⟨r0, e0⟩ : ∃ r0, rows[0]? = some r0 := ⟨_, aoX (by omega)⟩
 have rl := g.row r0 (apc e0)
 have at0 : atI (rows.map fun q => PyData.list (q.map .int)) 0 = some (.list (r0.map .int)) := yT (j := 0) (by rw [ao8, e0]; rfl)
 refine yZ (fun ρ => ∃ far : Int, ρ = [some .feed, some (.dat (tab rows)), some (.dat (.int far)), none, none, none] /\ 1 <= far) (zE (vt ?_)) ?_
 ·walk_at "w"
  refine zm 2 ?_
  walk_at "w"
  rintro _ ⟨q, rfl, q0, q1⟩
  have : q = 0 \/ q = 1 := by omega
  rcases this with rfl | rfl
  ·exact ⟨_, rfl, _, rfl, zi ⟨_, rfl, by decide⟩⟩
  ·exact ⟨_, rfl, _, rfl, zi ⟨_, rfl, by decide⟩⟩
 rintro _ ⟨far, rfl, f1⟩
 refine zW (zE (ad9 (zp (vt (zh rfl ⟨_, rfl, yw ⟨_, rfl, _, at0, zJ (.inl ⟨_, rfl, zi ?_⟩)⟩⟩)))))
 rw [aoZ, rl]
 refine zW (zE (ad9 (ab2 rfl (.inl ⟨_, rfl, zi ?_⟩))))
 rw [ml]
 refine yZ (fun ρ => ρ = [some .feed, some (.dat (tab rows)), some (.dat (.int far)), some (.dat (.int wd)), some (.dat (.int rows.length)), some (.dat (.list [gD3 ((wd : Int) - 1 + far, 0, 0), gD3 (0, (rows.length : Int) - 1 + far, 1), gD3 (0 - far, 0, 1), gD3 (0, 0 - far, 0), gD3 ((wd : Int) - 1 + far, 0, 9)]))]) (zE (jv ?_)) ?_
 ·walk_at "w"
  rfl
 rintro _ rfl
 refine ya (vt (zh rfl ⟨_, rfl, zm 5 ?_⟩))
 walk_at "w"
 rintro _ ⟨q, rfl, q0, q1⟩
 have : q = 0 \/ q = 1 \/ q = 2 \/ q = 3 \/ q = 4 := by omega
 rcases this with rfl | rfl | rfl | rfl | rfl
 ·exact ⟨_, rfl, _, rfl, _, rfl, by unfold zM; simp; omega⟩
 ·exact ⟨_, rfl, _, rfl, _, rfl, by unfold zM; simp; omega⟩
 ·exact ⟨_, rfl, _, rfl, _, rfl, by unfold zM; simp; omega⟩
 ·exact ⟨_, rfl, _, rfl, _, rfl, by unfold zM; simp; omega⟩
 ·exact ⟨_, rfl, _, rfl, _, rfl, by unfold zM; simp; omega⟩
theorem akp {rows : List (List Int)} {wd : Nat} {cut way : Int} {q : Gt} {e : List PyData} (h : zM rows wd q.1 q.2.1 = false) : okT (rows, wd, cut, way, q, e) = false := by
 have h1 : zF rows wd q.1 q.2.1 = false := by unfold zF; rw [h]; rfl
 have h2 : opG rows wd cut q = false := by
  cases o : opG rows wd cut q with
  | false => rfl
  | true => rw [(j9 (qR o)).1] at h; cases h
 unfold okT
 dsimp only
 rw [h, h1, h2]
 split
 ·rfl
 ·split <;> rfl
theorem akq {rows : List (List Int)} {wd : Nat} {cut way : Int} {z : Int} {e : List PyData} (g : Good wd rows) (h : way < 3) : okT (rows, wd, cut, way, (0, 0, z), e) = true := by
 have g1 := g.h1
 have w1 := g.w1
 have i1 : zM rows wd 0 0 = true := by unfold zM; simp; omega
 have i2 : zM rows wd (0 + 1) (0 + 1) = true := by unfold zM; simp; omega
 have i3 : zF rows wd 0 0 = true := by unfold zF; rw [i1, i2]; rfl
 unfold okT
 dsimp only
 rw [i1, i3, if_pos h]
 split <;> rfl
theorem akr {rows : List (List Int)} {wd : Nat} {cut way : Int} {q : Gt} {e : List PyData} (h : 2 < way) (o : opG rows wd cut q = true) : okT (rows, wd, cut, way, q, e) = true := by
 unfold okT
 dsimp only
 rw [if_neg (by omega), if_neg (by omega), o]
theorem af4 : ∀ l : List Gt, ap6 (l.map gD3) = true /\ ao9 (l.map gD3) <= 1
 | [] => ⟨rfl, apD _⟩
 | p :: l => ⟨(af4 l).1, as2.mpr ⟨ao5 1, (af4 l).2⟩⟩
theorem anZ (c : T6) : (toD c).canLay0 = true /\ (toD c).depth <= 3 := by
 unfold toD
 split
 ·refine ⟨?_, by show 0 <= 3; decide⟩
  show (PyData.str (aad _ _ _ _ _)).canLay0 = true
  unfold aad
  split <;> split <;> decide +kernel
 ·split
  ·show (yl _).canLay0 = true /\ (yl _).depth <= 3
   generalize adQ _ _ _ _ = t
   obtain ⟨r, l⟩ := t
   obtain ⟨a, b⟩ := af4 l
   refine ⟨?_, ?_⟩
   ·show ((PyData.str (if r = true then "ring" else "run")).canLay0 && (ap6 (l.map gD3) && true)) = true
    rw [a]
    cases r <;> decide +kernel
   ·show max 0 (max (ao9 (l.map gD3) + 1) 0) + 1 <= 3
    omega
  ·exact ⟨rfl, by show 1 <= 3; decide⟩
abbrev alX (ns : List Int) (i : Nat) (rows : List (List Int)) (wd : Nat) (ct : Int) (n : Nat) (y9 y10 : Option DV) : zr := [some (.dat (scr ns)), some (.dat (.int i)), some .feed, some (.dat (tab rows)), some (.dat (.int ct)), some (.dat (.list ((zH rows wd ct).map gD3))), some (.dat (tab rows)), some (.dat (.int n)), some (.dat (abV (decide (2 < (n : Int))))), y9, y10]
theorem an0 {f : Addr} {fd : FuncData} (F : Fun K "law" "law" aaN f fd) (uac : mg "len" = none) (uaf : mg "range" = none) (uaz : mg "max" = none) (uai : mg "min" = none) (ubg : mg "list" = none) (ubh : mg "int" = none)
  (ucL : FnIn P w K mg base k "_law_feed" pP (af2 K)) (uad : FnIn P w K mg base k "_law_draw" pF (abH K)) (ucM : FnIn P w K mg base k "_law_table" pQ (ag2 K)) (ucN : FnIn P w K mg base k "_law_cut" pE (amn K)) (ua5 : FnIn P w K mg base k "gates" pz (adE K)) (ucO : FnIn P w K mg base k "_law_gone" pE (ako K)) (uaV : FnIn P w K mg base k "_law_told" pS (akn K)) :
  FnOk P w K mg base CX0 (k + 1) f fd pV (ahf K) := by
 refine F.ok sc_law (fun vs H Q E h => ?_) fun cdv A outer s H vs Q E hr hs => ⟨_, (zc (jr apR rfl (yQ rfl uaf (za (zx (ahn rfl) rfl uaz boot_max (za ze (za (zx (aca rfl) rfl uai boot_min (za ze (za (zx (yc (K := K) rfl) rfl uac apY (za (pv 0) zb)) zb))) zb))) zb)) (zk (i := 1) sc_law.nd rfl (Or.inl rfl) (Or.inr rfl)) (zc (zC (i := 2) sc_law.nd rfl (Or.inl rfl) (zd ucL hr rfl (za (pv 0) (za (pv 1) zb)))) (zc (zC (i := 3) sc_law.nd rfl (Or.inl rfl) (zd ucM hr rfl (za (pv 2) zb))) (zc (zC (i := 4) sc_law.nd rfl (Or.inl rfl) (zd ucN hr rfl (za (pv 2) (za (pv 3) zb)))) (zc (zC (i := 5) sc_law.nd rfl (Or.inl rfl) (zd ua5 hr rfl (za (pv 3) (za (pv 4) zb)))) (zc (jF (i := 6) (N := ["_law_row"]) (own := 1) (fr := []) ⟨rfl, by decide +kernel, of_decide_eq_true (by kernel_rfl), of_decide_eq_true (by kernel_rfl), of_decide_eq_true (by kernel_rfl), rfl⟩ rfl sc_law.nd rfl (Or.inl rfl) (zY (K := K) rfl (pv 3)) (fun _ _ _ _ => (zk (i := 0) (show (["_law_row"] : List Str).Nodup by decide +kernel) rfl (Or.inl rfl) (Or.inr rfl))) (fun _ _ _ _ => yJ) (fun _ _ _ _ => (qT (afq (K := K) rfl) rfl ubg PyProof.Rows.boot_list (za (pv 0) zb))) rfl rfl (fun _ => rfl) (Or.inl rfl) rfl) (zg (jr apR rfl (yQ rfl uaf (za ze zb)) (zk (i := 7) sc_law.nd rfl (Or.inr rfl) (Or.inl rfl)) (zc (zC (i := 8) sc_law.nd rfl (Or.inl rfl) (zq (jy (K := K) rfl) (zV (za vm zb)) (yv (N := ["_law_j", "_law_way"]) (own := 1) (fr := [7]) ⟨rfl, by decide +kernel, of_decide_eq_true (by kernel_rfl), of_decide_eq_true (by kernel_rfl), of_decide_eq_true (by kernel_rfl), rfl⟩ rfl (yQ rfl uaf (za ze zb)) (fun _ _ _ _ => (zk (i := 0) (show (["_law_j", "_law_way"] : List Str).Nodup by decide +kernel) rfl (Or.inl rfl) (Or.inr rfl))) (fun _ _ _ _ => yJ) (fun _ _ _ _ => (qh (vF (K := K) rfl hr.units) (pv 0) (qT aho rfl ubh PyProof.Rows.boot_int (za (qh adY (pv 1) ze (zR _)) zb)) (zR _))) rfl rfl (fun _ => rfl)))) (zc (yz (zL (jU (K := K) rfl hr.units) (zd uaV hr rfl (za (pv 3) (za (pv 4) (za (pv 7) (za (zd ucO hr rfl (za (pv 2) (za (pv 3) zb))) zb))))) (pv 8) (zR _)) (zg (zu vm)) zO) (zc (yz (PW.pt (af5 (zL (jU (K := K) rfl hr.units) (pv 3) (pv 6) (zR _)) (afd (PW.pt (acN (zL adX (pv 7) ze (zR _)) (aaT (zL (jU (K := K) rfl hr.units) (zS (zD (K := K) rfl) (zd uaV hr rfl (za (pv 3) (za (pv 4) (za (pv 7) (za (zz (za ze (za ze zb))) zb))))) ze (fun _ _ => rfl)) yL (zR _)))))))) (zg (zu vm)) zO) (zg (yz (PW.pt (acN (zL adY (pv 7) ze (zR _)) (aaT (zL (jU (K := K) rfl hr.units) (pv 5) (zV zb) (zR _))))) (zc (zC (i := 9) sc_law.nd rfl (Or.inl rfl) (zS (zD (K := K) rfl) (pv 5) (zd uad hr rfl (za (pv 2) (za (zx (yc (K := K) rfl) rfl uac apY (za (pv 5) zb)) zb))) (fun _ _ => rfl))) (zc (zC (i := 10) sc_law.nd rfl (Or.inl rfl) (zd uaV hr rfl (za (pv 3) (za (pv 4) (za (pv 7) (za (pv 9) zb)))))) (zg (yz (PW.pt (af5 (zL (jU (K := K) rfl hr.units) (zS (zD (K := K) rfl) (pv 10) ze (fun _ _ => rfl)) yL (zR _)) (af5 (zL (jU (K := K) rfl hr.units) (zd uaV hr rfl (za (pv 3) (za (pv 4) (za (pv 7) (za (pv 9) zb))))) (pv 10) (zR _)) (afd (zL (jU (K := K) rfl hr.units) (pv 3) (pv 6) (zR _)))))) (zg (zu vm)) zO)))) zO))))))))))))) (zg (zu vm))), ?_⟩
 ·obtain ⟨a, ns, rfl, _⟩ := h
  rfl
 obtain ⟨a, ns, rfl, hS, h63, q⟩ := hs
 have e0 : EnvOk K L2.f0 (jx ag1 [.dat (scr ns)]) (start ag1 [.ref a]) H := yS (.cons (ahe hS) .nil) (L2.fok0 H)
 suffices h : PSd K L2.f0 _ (jx ag1 [.dat (scr ns)]) { nx := fun _ => False, rt := fun d => d = .bool true } from
  h _ H _ e0 (fun _ _ _ _ _ z => z.elim) (fun d v H' _ r z => by
   subst z
   rw [rep_bool.mp r]
   exact q H') (fun _ _ _ _ _ z => z) (fun _ _ _ _ _ z => z)
 refine zW (al8 (aaV (alN (R := fun xs => ∃ j : Int, xs = [.dat (.int j)] /\ 0 <= j /\ j <= 63) ?_ ?_)))
 ·walk_at "w"
  rw [aoZ]
  split <;> split <;> omega
 rintro _ ⟨j, rfl, j0, j1⟩
 refine ⟨j, rfl, by omega, by omega, fun i ρ => ∃ x1 x2 x3 x4 x5 x6 x7 x8 x9 x10, ρ = [some (.dat (scr ns)), x1, x2, x3, x4, x5, x6, x7, x8, x9, x10], ⟨_, _, _, _, _, _, _, _, _, _, rfl⟩, ?_, ?_⟩
 ·rintro i d _ hi ⟨x1, x2, x3, x4, x5, x6, x7, x8, x9, x10, rfl⟩
  obtain ⟨hi, rfl⟩ := aae hi
  refine zi (amY (anV rfl rfl h63 (by omega) (by omega)) fun p => ?_)
  refine zW (zE (zm () ?_))
  walk_at "w"
  rintro _ ⟨wd, rows, rfl, g⟩
  have g1 := g.h1
  have g2 := g.h2
  obtain ⟨lt, dt⟩ := alr rows
  refine zi (zW (zE (zm (rows, wd) ?_)))
  walk_at "w"
  rintro _ ⟨ct, rfl, _, _⟩
  refine zi (zW (zE (PEdO.ped (vG (rows, wd, ct) (ajE rfl rfl ⟨rfl, ⟨rfl, g⟩, ?_⟩)))))
  rintro _ rfl
  dsimp only
  rw [<- qd]
  have gl := aax (cut := ct) g
  have mg2 : ((zH rows wd ct).map gD3).length = (zH rows wd ct).length := aoZ _
  refine zi (zW (zE (anW rfl (by omega) (zi ?_))))
  refine al8 (aaV (zp (yw (zJ ⟨_, rfl, by decide, by decide, fun n ρ => ∃ y7 y8 y9 y10, ρ = [some (.dat (scr ns)), some (.dat (.int i)), some .feed, some (.dat (tab rows)), some (.dat (.int ct)), some (.dat (.list ((zH rows wd ct).map gD3))), some (.dat (tab rows)), y7, y8, y9, y10], ⟨_, _, _, _, rfl⟩, ?_, fun ρ ⟨y7, y8, y9, y10, e⟩ => by subst e; exact ⟨_, _, _, _, _, _, _, _, _, _, rfl⟩⟩))))
  rintro n d _ hd ⟨y7, y8, y9, y10, rfl⟩
  obtain ⟨hn, rfl⟩ := aae hd
  have hn : n < 6 := hn
  have n0 : (0 : Int) <= n := by omega
  have n6 : (n : Int) < 6 := by omega
  have l6 : (abV (decide (2 < (n : Int)))).canLay0 = true /\ (abV (decide (2 < (n : Int)))).depth <= 60 := by
   cases decide (2 < (n : Int)) <;> decide
  refine zi (yZ (fun ρ => ρ = alX ns i rows wd ct n y9 y10) ?_ ?_)
  ·refine zE (jz (jv (zp (aiG (zJ ⟨_, rfl, by show 1 <= 1000; decide, _, rfl, ?_⟩)))))
   refine abo (zp (yw (zJ ⟨10, rfl, by decide, by decide, fun i d => d = .bool (decide ((i : Int) = if decide (2 < (n : Int)) = true then 1 else 0)), fun D i hi => ?_, fun es hl hR => ?_⟩)))
   ·refine jb (zh rfl (aiU ?_))
    walk_at "w"
    rw [if_neg aoY, adC]
   ·have e10 : es = (apo 10).map fun i : Nat => PyData.bool (decide ((i : Int) = if decide (2 < (n : Int)) = true then 1 else 0)) := by
     apply aqK
     intro m
     rw [ao8]
     by_cases hm : m < 10
     ·have : m < es.length := by rw [hl]; exact hm
      rw [aqt hm, aoX this, hR m _ (aoX this)]
      rfl
     ·rw [apy (by rw [hl]; show 10 <= m; omega), apy (by rw [ap2]; omega)]
      rfl
    refine ⟨_, rfl, by rw [hl]; show 1 + 10 <= 1000; decide, zi ?_⟩
    rw [e10]
    unfold alX
    cases decide (2 < (n : Int)) <;> rfl
  rintro _ rfl
  refine yZ (fun ρ => ρ = alX ns i rows wd ct n y9 y10) (abZ (yt (jb (agU (zp (zh rfl (zp (zh rfl (zp (zh rfl (zp (zm (rows, wd) (acV rfl (zp (zh rfl (zJ ⟨rfl, ⟨rfl, g⟩, ?_⟩)))))))))))))))) ?_
  ·rintro _ ⟨q6, rfl, no⟩
   dsimp only at no
   refine zJ ⟨(rows, wd, ct, (n : Int), q6, [.int q6.2.2]), rfl, ⟨rfl, g, n0, n6, fun _ => rfl⟩, ?_⟩
   rintro _ ⟨h1, _⟩
   obtain rfl := h1 (akp no)
   refine zh rfl ⟨l6.1, l6.1, apu (arV _ _) l6.2, _, rfl, ?_⟩
   rw [if_pos rfl, aq4 _ l6.1, apE, if_neg aoY]
   exact yD rfl
  rintro _ rfl
  have ls : (PyData.str "told").canLay0 = true := by decide +kernel
  have es : apw (.str "told") (.str (arw "told")) = true := by decide +kernel
  refine yZ (fun ρ => ρ = alX ns i rows wd ct n y9 y10) (abZ (aiH (yt (jb (zh rfl (zh rfl ⟨lt, lt, apu (arV _ _) dt, _, rfl, ?_⟩)))))) ?_
  ·rw [if_pos rfl, aq4 _ lt, apE, if_neg aoY]
   refine aci ?_
   walk_at "w"
   refine yq (fun h => ?_) fun h => ?_
   ·have h : (n : Int) < 3 := of_decide_eq_true h
    refine yt (jb (vt (agU (zp (zh rfl (zp (zh rfl (zp (zh rfl (zp (jY (zp (yw (zp (yw (zJ ⟨_, rfl, by show 2 <= 1000; decide, zJ ⟨(rows, wd, ct, (n : Int), (0, 0, 0), []), rfl, ⟨rfl, g, n0, n6, fun z => absurd z (by show ¬ 2 < (n : Int); omega)⟩, ?_⟩⟩))))))))))))))))
    rintro _ ⟨_, h2⟩
    obtain ⟨d, rfl, _⟩ := h2 (akq g h)
    refine ⟨_, rfl, yw ⟨_, rfl, .str "told", rfl, jX ⟨ls, by decide +kernel, by show min 0 0 <= 60; decide, _, rfl, ?_⟩⟩⟩
    rw [if_pos rfl, es, apE, if_neg aoY]
    exact yD rfl
   ·rw [if_neg aoY]
    exact yD rfl
  rintro _ rfl
  refine abZ (aci ?_)
  walk_at "w"
  refine yq (fun h => ?_) fun h => ?_
  rotate_left
  ·rw [if_neg aoY]
   exact yD ⟨_, _, _, _, rfl⟩
  have h : 2 < (n : Int) := of_decide_eq_true h
  obtain ⟨lg, dg⟩ := aia rows wd ct
  refine yt (jb (zh rfl (jv (zJ ⟨_, rfl, apD _, lg, rfl, apu (Nat.min_le_right _ _) (by show 1 <= 60; decide), _, rfl, ?_⟩))))
  rw [if_pos rfl]
  by_cases eg : zH rows wd ct = []
  ·rw [show apw (.list ((zH rows wd ct).map gD3)) (.list []) = true by rw [eg]; rfl, apE, if_neg aoY]
   exact yD ⟨_, _, _, _, rfl⟩
  ·rw [show apw (.list ((zH rows wd ct).map gD3)) (.list []) = false by obtain ⟨a, b, e⟩ := List.exists_cons_of_ne_nil eg; rw [e]; rfl, aqB, if_pos rfl]
   have lp : 0 < (zH rows wd ct).length := arW.mpr eg
   refine zW (zE (vt (zh rfl ⟨_, rfl, zm ((zH rows wd ct).length : Nat) (acV rfl (zp (ad9 (ab2 rfl (.inl ⟨_, rfl, zJ ⟨rfl, ⟨by rw [mg2], by omega, by omega⟩, ?_⟩⟩)))))⟩)))
   rintro _ ⟨at_, rfl, a0, a1⟩
   obtain ⟨at_, rfl⟩ := aro a0
   have hat : at_ < (zH rows wd ct).length := by omega
   have oq : opG rows wd ct (zH rows wd ct)[at_] = true := mem_gates.mp (apz hat)
   refine ⟨_, rfl, _, yX rfl hat, zi ?_⟩
   generalize (zH rows wd ct)[at_] = q6 at *
   obtain ⟨lq, dq⟩ := anZ (rows, wd, ct, (n : Int), q6, [.int q6.2.2])
   have tq : ∀ {r : PyData}, ams (rows, wd, ct, (n : Int), q6, [.int q6.2.2]) r -> r = .list [.str "told", toD (rows, wd, ct, (n : Int), q6, [.int q6.2.2])] := by
    rintro r ⟨_, h2⟩
    obtain ⟨d, rfl, hd⟩ := h2 (akr h oq)
    rw [hd h]
   have lL : (PyData.list [.str "told", toD (rows, wd, ct, (n : Int), q6, [.int q6.2.2])]).canLay0 = true := by
    show ((PyData.str "told").canLay0 && ((toD _).canLay0 && true)) = true
    rw [ls, lq]
    rfl
   have dL : (PyData.list [.str "told", toD (rows, wd, ct, (n : Int), q6, [.int q6.2.2])]).depth <= 60 := by
    show max 0 (max (toD _).depth 0) + 1 <= 60
    omega
   refine zW (zE (zm (rows, wd, ct, (n : Int), q6, [.int q6.2.2]) (aoz rfl rfl rfl rfl ⟨rfl, ⟨rfl, g, n0, n6, fun _ => rfl⟩, fun r hr => ?_⟩)))
   obtain rfl := tq hr
   generalize toD (rows, wd, ct, (n : Int), q6, [.int q6.2.2]) = td at *
   refine zi (abZ (aiH (yt (jb (vt (zh rfl ⟨_, rfl, yw ⟨_, rfl, .str "told", rfl, jX ⟨ls, by decide +kernel, by show min 0 0 <= 60; decide, _, rfl, ?_⟩⟩⟩))))))
   rw [if_pos rfl, es, apE, if_neg aoY]
   refine aiH (yt (jb (zm (rows, wd, ct, (n : Int), q6, [.int q6.2.2]) (aoz rfl rfl rfl rfl ⟨rfl, ⟨rfl, g, n0, n6, fun _ => rfl⟩, fun r hr => ?_⟩))))
   obtain rfl := tq hr
   refine zh rfl ⟨lL, lL, apu (arV _ _) dL, _, rfl, ?_⟩
   rw [if_pos rfl, aq4 _ lL, apE, if_neg aoY]
   refine yt (jb (zh rfl (zh rfl ⟨lt, lt, apu (arV _ _) dt, _, rfl, ?_⟩)))
   rw [if_pos rfl, aq4 _ lt, apE, if_neg aoY]
   exact yD ⟨_, _, _, _, rfl⟩
 ·rintro _ ⟨x1, x2, x3, x4, x5, x6, x7, x8, x9, x10, rfl⟩
  walk_at "w"
  rfl
end
theorem _root_.L2.FnIn.m {P w K mg base j k x ps sp} (h : FnIn P w K mg base j x ps sp) (hk : j <= k := by decide) : FnIn P w K mg base k x ps sp := h.mono hk
theorem _root_.L2.FnInF.m {P w K mg base j k x ps sp} (h : FnInF P w K mg base j x ps sp) (hk : j <= k := by decide) : FnInF P w K mg base k x ps sp := h.mono hk
theorem _root_.L2.FnInM.m {P w K mg base j k x ps sp} (h : FnInM P w K mg base j x ps sp) (hk : j <= k := by decide) : FnInM P w K mg base k x ps sp := h.mono hk
local macro_rules | `(tactic| walk_at "f") => `(tactic| first | exact (fun _ _ _ _ _ _ us hl => match us, hl with | [_], _ => rfl) | exact (fun _ _ _ _ _ _ us hl => match us, hl with | [_, _], _ => rfl) | exact (fun _ _ _ _ _ _ us hl => match us, hl with | [_, _, _], _ => rfl) | exact (fun _ _ _ _ _ _ us hl => match us, hl with | [_, _, _, _], _ => rfl) | exact (fun _ _ _ _ _ _ us hl => match us, hl with | [_, _, _, _, _], _ => rfl))
set_option autoImplicit true in
set_option relaxedAutoImplicit true in
theorem all_mk {l : PySem.W.OpenLaw} {w : World} {K : ao0} {h : Heap} {mg : Str -> Option Value} {fa : Addr} (X : K.In h) (G : h.Ns mainGlobals mg) (hfa : mg "law" = some (.ref fa))
  (a1 : FD K "size" ado f1 od1 an1 sl1 oc1 kV1 dc1 pm1 cd1 ct1)
  (a2 : FD K "points" v8 f2 od2 an2 sl2 oc2 kV2 dc2 pm2 cd2 ct2)
  (a3 : FD K "has_point" jI f3 od3 an3 sl3 oc3 kV3 dc3 pm3 cd3 ct3)
  (a4 : FD K "neighbours" jg f4 od4 an4 sl4 oc4 kV4 dc4 pm4 cd4 ct4)
  (a5 : FD K "has_cell" qt f5 od5 an5 sl5 oc5 kV5 dc5 pm5 cd5 ct5)
  (a6 : FD K "corners" qY f6 od6 an6 sl6 oc6 kV6 dc6 pm6 cd6 ct6)
  (a7 : FD K "cells_at" qu f7 od7 an7 sl7 oc7 kV7 dc7 pm7 cd7 ct7)
  (a8 : FD K "ask_table" jJ f8 od8 an8 sl8 oc8 kV8 dc8 pm8 cd8 ct8)
  (a9 : FD K "fits" adq f9 od9 an9 sl9 oc9 kV9 dc9 pm9 cd9 ct9)
  (a10 : FD K "is_row" v9 f10 od10 an10 sl10 oc10 kV10 dc10 pm10 cd10 ct10)
  (a11 : FD K "is_high" qZ f11 od11 an11 sl11 oc11 kV11 dc11 pm11 cd11 ct11)
  (a12 : FD K "gates" aa2 f12 od12 an12 sl12 oc12 kV12 dc12 pm12 cd12 ct12)
  (a13 : FD K "ties" ads f13 od13 an13 sl13 oc13 kV13 dc13 pm13 cd13 ct13)
  (a14 : FD K "goes" adt f14 od14 an14 sl14 oc14 kV14 dc14 pm14 cd14 ct14)
  (a15 : FD K "ask_point" jK f15 od15 an15 sl15 oc15 kV15 dc15 pm15 cd15 ct15)
  (a16 : FD K "ask_gate" qv f16 od16 an16 sl16 oc16 kV16 dc16 pm16 cd16 ct16)
  (a17 : FD K "stands_high" yV f17 od17 an17 sl17 oc17 kV17 dc17 pm17 cd17 ct17)
  (a18 : FD K "gate_points" yW f18 od18 an18 sl18 oc18 kV18 dc18 pm18 cd18 ct18)
  (a19 : FD K "has_gate" qw f19 od19 an19 sl19 oc19 kV19 dc19 pm19 cd19 ct19)
  (a20 : FD K "is_open" va f20 od20 an20 sl20 oc20 kV20 dc20 pm20 cd20 ct20)
  (a21 : FD K "cell_gates" jh f21 od21 an21 sl21 oc21 kV21 dc21 pm21 cd21 ct21)
  (a22 : FD K "is_crossed" ji f22 od22 an22 sl22 oc22 kV22 dc22 pm22 cd22 ct22)
  (a23 : FD K "has_high_middle" yA f23 od23 an23 sl23 oc23 kV23 dc23 pm23 cd23 ct23)
  (a24 : FD K "cell_ties" jL f24 od24 an24 sl24 oc24 kV24 dc24 pm24 cd24 ct24)
  (a25 : FD K "crossed_ties" yO f25 od25 an25 sl25 oc25 kV25 dc25 pm25 cd25 ct25)
  (a26 : FD K "heading" vb f26 od26 an26 sl26 oc26 kV26 dc26 pm26 cd26 ct26)
  (a27 : FD K "cell_ahead" jj f27 od27 an27 sl27 oc27 kV27 dc27 pm27 cd27 ct27)
  (a28 : FD K "comes_in" qx f28 od28 an28 sl28 oc28 kV28 dc28 pm28 cd28 ct28)
  (a29 : FD K "gate_ahead" jk f29 od29 an29 sl29 oc29 kV29 dc29 pm29 cd29 ct29)
  (a30 : FD K "lines" aa3 f30 od30 an30 sl30 oc30 kV30 dc30 pm30 cd30 ct30)
  (a31 : FD K "line_from" jM f31 od31 an31 sl31 oc31 kV31 dc31 pm31 cd31 ct31)
  (a32 : FD K "line_at" vc f32 od32 an32 sl32 oc32 kV32 dc32 pm32 cd32 ct32)
  (a33 : FD K "common" aab f33 od33 an33 sl33 oc33 kV33 dc33 pm33 cd33 ct33)
  (a34 : FD K "shortened" jN f34 od34 an34 sl34 oc34 kV34 dc34 pm34 cd34 ct34)
  (a35 : FD K "place" aa4 f35 od35 an35 sl35 oc35 kV35 dc35 pm35 cd35 ct35)
  (a36 : FD K "place_of" qy f36 od36 an36 sl36 oc36 kV36 dc36 pm36 cd36 ct36)
  (a37 : FD K "share" aa5 f37 od37 an37 sl37 oc37 kV37 dc37 pm37 cd37 ct37)
  (a38 : FD K "regions" vd f38 od38 an38 sl38 oc38 kV38 dc38 pm38 cd38 ct38)
  (a39 : FD K "region_of" jO f39 od39 an39 sl39 oc39 kV39 dc39 pm39 cd39 ct39)
  (a40 : FD K "indexes" ve f40 od40 an40 sl40 oc40 kV40 dc40 pm40 cd40 ct40)
  (a41 : FD K "all_joined" jl f41 od41 an41 sl41 oc41 kV41 dc41 pm41 cd41 ct41)
  (a42 : FD K "joined" aac f42 od42 an42 sl42 oc42 kV42 dc42 pm42 cd42 ct42)
  (a43 : FD K "_law_feed" qz f43 od43 an43 sl43 oc43 kV43 dc43 pm43 cd43 ct43)
  (a44 : FD K "_law_draw" qA f44 od44 an44 sl44 oc44 kV44 dc44 pm44 cd44 ct44)
  (a45 : FD K "_law_height" jm f45 od45 an45 sl45 oc45 kV45 dc45 pm45 cd45 ct45)
  (a46 : FD K "_law_table" jP f46 od46 an46 sl46 oc46 kV46 dc46 pm46 cd46 ct46)
  (a47 : FD K "_law_cut" vf f47 od47 an47 sl47 oc47 kV47 dc47 pm47 cd47 ct47)
  (a48 : FD K "_law_kinds" jQ f48 od48 an48 sl48 oc48 kV48 dc48 pm48 cd48 ct48)
  (a49 : FD K "_law_told" qB f49 od49 an49 sl49 oc49 kV49 dc49 pm49 cd49 ct49)
  (a50 : FD K "_law_gone" qC f50 od50 an50 sl50 oc50 kV50 dc50 pm50 cd50 ct50)
  (a51 : FD K "law" aaN f51 od51 an51 sl51 oc51 kV51 dc51 pm51 cd51 ct51)
  {ucP : Tok} (ubi : apv K mainGlobals "FEWEST" = some (some (.int (2) ucP)))
  {ucQ : Tok} (ubj : apv K mainGlobals "MOST" = some (some (.int (7) ucQ)))
  {ucR : Tok} (ubk : apv K mainGlobals "LEAST" = some (some (.int (-1000000000) ucR)))
  {ucS : Tok} (ubl : apv K mainGlobals "GREATEST" = some (some (.int (1000000000) ucS)))
  (ubm : apv K mainGlobals "len" = some none)
  (ubn : apv K mainGlobals "min" = some none)
  (ubo : apv K mainGlobals "max" = some none)
  (ubp : apv K mainGlobals "enumerate" = some none)
  (ubq : apv K mainGlobals "range" = some none)
  (ubr : apv K mainGlobals "all" = some none)
  (ubs : apv K mainGlobals "sum" = some none)
  (ubt : apv K mainGlobals "tuple" = some none)
  (ubu : apv K mainGlobals "set" = some none)
  (ubv : apv K mainGlobals "sorted" = some none)
  (ubw : apv K mainGlobals "abs" = some none)
  (ubx : apv K mainGlobals "isinstance" = some none)
  (uby : apv K mainGlobals "ValueError" = some none)
  (ubz : apv K mainGlobals "list" = some none)
  (ubA : apv K mainGlobals "int" = some none)
  {uaM : Addr} (ubB : apv K mainGlobals "AHEAD" = some (some (.ref uaM)))
  {uaP : Addr} (ubC : apv K mainGlobals "BEHIND" = some (some (.ref uaP)))
  {uaa : Addr} (ubD : apv K mainGlobals "NoPoint" = some (some (.ref uaa)))
  {uab : Addr} (ubE : apv K mainGlobals "NoGate" = some (some (.ref uab)))
  {uan : Addr} (ubF : apv K mainGlobals "NoTable" = some (some (.ref uan)))
  {uao : Addr} (ubG : apv K mainGlobals "NoRing" = some (some (.ref uao)))
  {uap : Addr} (ubH : apv K mainGlobals "TooSteep" = some (some (.ref uap)))
  {uaq : Addr} (ubI : apv K mainGlobals "NoWeb" = some (some (.ref uaq)))
  {uar : Addr} (ubJ : apv K mainGlobals "NoBack" = some (some (.ref uar)))
  {uas : Addr} (ubK : apv K mainGlobals "NoText" = some (some (.ref uas)))
  {uat : Addr} (ubL : apv K mainGlobals "NoRow" = some (some (.ref uat)))
  {uau : Addr} (ubM : apv K mainGlobals "NoDeed" = some (some (.ref uau)))
  {uay : Addr} (ubN : apv K mainGlobals "HeightError" = some (some (.ref uay)))
  (uaN : ahM K uaM anF = true)
  (uaQ : ahM K uaP ajS = true)
  (ual : aqN K uaa [.type "ValueError", .type "Exception", .type "BaseException", .type "object"] "ValueError.__new__" = true)
  (uaR : aqN K uab [.type "ValueError", .type "Exception", .type "BaseException", .type "object"] "ValueError.__new__" = true)
  (uaT : qX K uaa = true)
  (uaU : qX K uab = true)
  (kpv : apa K (.ref uaa) (.type "ValueError") = some true)
  (kgv : apa K (.ref uab) (.type "ValueError") = some true)
  (kp1 : apa K (.ref uaa) (.ref uaa) = some true)
  (kp2 : apa K (.ref uaa) (.ref uab) = some false)
  (kp3 : apa K (.ref uaa) (.ref uan) = some false)
  (kp4 : apa K (.ref uaa) (.ref uap) = some false)
  (kp5 : apa K (.ref uaa) (.ref uaq) = some false)
  (kp6 : apa K (.ref uaa) (.ref uar) = some false)
  (kp7 : apa K (.ref uaa) (.ref uas) = some false)
  (kp8 : apa K (.ref uaa) (.ref uat) = some false)
  (kp9 : apa K (.ref uaa) (.ref uau) = some false)
  (kpr : apa K (.ref uaa) (.ref uao) = some false)
  (kg1 : apa K (.ref uab) (.ref uaa) = some false)
  (kg2 : apa K (.ref uab) (.ref uab) = some true)
  (kg3 : apa K (.ref uab) (.ref uan) = some false)
  (kg4 : apa K (.ref uab) (.ref uap) = some false)
  (kg5 : apa K (.ref uab) (.ref uaq) = some false)
  (kg6 : apa K (.ref uab) (.ref uar) = some false)
  (kg7 : apa K (.ref uab) (.ref uas) = some false)
  (kg8 : apa K (.ref uab) (.ref uat) = some false)
  (kg9 : apa K (.ref uab) (.ref uau) = some false)
  (kgr : apa K (.ref uab) (.ref uao) = some false)
  (ep : aqV K (.ref uaa) (.ref uay) = some true)
  (eg : aqV K (.ref uab) (.ref uay) = some true) :
  ∃ fd : FuncData, (∀ (s : Shared) (v : Value), BindsTo s fd ⟨[v], []⟩ [("_law_script", v)]) /\ ∀ base : Heap, K.In base -> base.Ns mainGlobals mg -> FnOk l.prog w K mg base CX0 12 fa fd pV (ahf K) := by
 have ucT : Def K mg "size" ado pj := z8 X G a1 (by walk_at "f")
 have ucU : Def K mg "points" v8 pj := z8 X G a2 (by walk_at "f")
 have ucV : Def K mg "has_point" jI ph := z8 X G a3 (by walk_at "f")
 have ucW : Def K mg "neighbours" jg ph := z8 X G a4 (by walk_at "f")
 have ucX : Def K mg "has_cell" qt ph := z8 X G a5 (by walk_at "f")
 have ucY : Def K mg "corners" qY pJ := z8 X G a6 (by walk_at "f")
 have ucZ : Def K mg "cells_at" qu ph := z8 X G a7 (by walk_at "f")
 have uc0 : Def K mg "ask_table" jJ pj := z8 X G a8 (by walk_at "f")
 have uc1 : Def K mg "fits" adq pI := z8 X G a9 (by walk_at "f")
 have uc2 : Def K mg "is_row" v9 ["row"] := z8 X G a10 (by walk_at "f")
 have uc3 : Def K mg "is_high" qZ pA := z8 X G a11 (by walk_at "f")
 have uc4 : Def K mg "gates" aa2 pz := z8 X G a12 (by walk_at "f")
 have uc5 : Def K mg "ties" ads pA := z8 X G a13 (by walk_at "f")
 have uc6 : Def K mg "goes" adt pf := z8 X G a14 (by walk_at "f")
 have uc7 : Def K mg "ask_point" jK ph := z8 X G a15 (by walk_at "f")
 have uc8 : Def K mg "ask_gate" qv pf := z8 X G a16 (by walk_at "f")
 have uc9 : Def K mg "stands_high" yV pB := z8 X G a17 (by walk_at "f")
 have uda : Def K mg "gate_points" yW ["gate"] := z8 X G a18 (by walk_at "f")
 have udb : Def K mg "has_gate" qw pK := z8 X G a19 (by walk_at "f")
 have udc : Def K mg "is_open" va pf := z8 X G a20 (by walk_at "f")
 have udd : Def K mg "cell_gates" jh ["cell"] := z8 X G a21 (by walk_at "f")
 have ude : Def K mg "is_crossed" ji pq := z8 X G a22 (by walk_at "f")
 have udf : Def K mg "has_high_middle" yA pq := z8 X G a23 (by walk_at "f")
 have udg : Def K mg "cell_ties" jL pq := z8 X G a24 (by walk_at "f")
 have udh : Def K mg "crossed_ties" yO pq := z8 X G a25 (by walk_at "f")
 have udi : Def K mg "heading" vb pf := z8 X G a26 (by walk_at "f")
 have udj : Def K mg "cell_ahead" jj pf := z8 X G a27 (by walk_at "f")
 have udk : Def K mg "comes_in" qx pf := z8 X G a28 (by walk_at "f")
 have udl : Def K mg "gate_ahead" jk pf := z8 X G a29 (by walk_at "f")
 have udm : Def K mg "lines" aa3 pz := z8 X G a30 (by walk_at "f")
 have udn : Def K mg "line_from" jM pC := z8 X G a31 (by walk_at "f")
 have udo : Def K mg "line_at" vc pf := z8 X G a32 (by walk_at "f")
 have udp : Def K mg "common" aab pL := z8 X G a33 (by walk_at "f")
 have udq : Def K mg "shortened" jN pO := z8 X G a34 (by walk_at "f")
 have udr : Def K mg "place" aa4 pf := z8 X G a35 (by walk_at "f")
 have uds : Def K mg "place_of" qy pf := z8 X G a36 (by walk_at "f")
 have udt : Def K mg "share" aa5 pf := z8 X G a37 (by walk_at "f")
 have udu : Def K mg "regions" vd pz := z8 X G a38 (by walk_at "f")
 have udv : Def K mg "region_of" jO pA := z8 X G a39 (by walk_at "f")
 have udw : Def K mg "indexes" ve pz := z8 X G a40 (by walk_at "f")
 have udx : Def K mg "all_joined" jl pC := z8 X G a41 (by walk_at "f")
 have udy : Def K mg "joined" aac pB := z8 X G a42 (by walk_at "f")
 have udz : Def K mg "_law_feed" qz pP := z8 X G a43 (by walk_at "f")
 have udA : Def K mg "_law_draw" qA pF := z8 X G a44 (by walk_at "f")
 have udB : Def K mg "_law_height" jm pM := z8 X G a45 (by walk_at "f")
 have udC : Def K mg "_law_table" jP pQ := z8 X G a46 (by walk_at "f")
 have udD : Def K mg "_law_cut" vf pE := z8 X G a47 (by walk_at "f")
 have udE : Def K mg "_law_kinds" jQ pR := z8 X G a48 (by walk_at "f")
 have udF : Def K mg "_law_told" qB pS := z8 X G a49 (by walk_at "f")
 have udG : Def K mg "_law_gone" qC pE := z8 X G a50 (by walk_at "f")
 have udH : Def K mg "law" aaN pV := z8 X G a51 (by walk_at "f")
 have uaG := apJ X G ubi
 have uaH := apJ X G ubj
 have uaI := apJ X G ubk
 have uaJ := apJ X G ubl
 have uac := apG X G ubm
 have uai := apG X G ubn
 have uaz := apG X G ubo
 have uaA := apG X G ubp
 have uaf := apG X G ubq
 have uaB := apG X G ubr
 have uaZ := apG X G ubs
 have uaC := apG X G ubt
 have uaD := apG X G ubu
 have uaE := apG X G ubv
 have uax := apG X G ubw
 have uah := apG X G ubx
 have ua6 := apG X G uby
 have ubg := apG X G ubz
 have ubh := apG X G ubA
 have ua2 := apJ X G ubB
 have ua3 := apJ X G ubC
 have uaj := apJ X G ubD
 have uaF := apJ X G ubE
 have ua7 := apJ X G ubF
 have ua8 := apJ X G ubG
 have ua9 := apJ X G ubH
 have uba := apJ X G ubI
 have ubb := apJ X G ubJ
 have ubc := apJ X G ubK
 have ubd := apJ X G ubL
 have ube := apJ X G ubM
 have ubf := apJ X G ubN
 have e := hfa.symm.trans (apJ X G a51.1)
 cases e
 have F0 := afm (st := aaN) a51.2.1 a51.2.2.1 a51.2.2.2
 refine ⟨aqn "law" "law" (qi aaN) (yr aaN) (zf aaN) .none kV51 dc51 pm51 an51 cd51 ct51, fun s v => .of_eq rfl, fun base _ _ => ?_⟩
 have H0 := alO (P := l.prog) (w := w) (base := base) (k := 0) udz uac uax
 have H1 := alj (P := l.prog) (w := w) (base := base) (k := 0) udA
 have H2 := ali (P := l.prog) (w := w) (base := base) (k := 0) uc1 uac ⟨_, uaG⟩ ⟨_, uaH⟩
 have H3 := alh (P := l.prog) (w := w) (base := base) (k := 0) ucT uac
 have H4 := anB (P := l.prog) (w := w) (base := base) (k := 0) uda
 have H5 := alk (P := l.prog) (w := w) (base := base) (k := 0) uc9
 have H6 := aib (P := l.prog) (w := w) (base := base) (k := 0) udd
 have H7 := afT (P := l.prog) (w := w) (base := base) (k := 0) ucY
 have H8 := aiq (P := l.prog) (w := w) (base := base) (k := 0) udp uax
 have H9 := akm (P := l.prog) (w := w) (base := base) (k := 0) udE uah ua6 ua7 uaj uaF ua8 ua9 uba ubb ubc ubd ube uaT uaU kpv kgv kp1 kp2 kp3 kp4 kp5 kp6 kp7 kp8 kp9 kpr kg1 kg2 kg3 kg4 kg5 kg6 kg7 kg8 kg9 kgr
 have H10 := ah7 (k := 1) udB uai H1.m
 have H11 := anC (k := 1) udD uac H1.m
 have H12 := ah6 (k := 1) uc2 uai uaz ⟨_, uaI⟩ ⟨_, uaJ⟩ H2.m
 have H13 := ah8 (k := 1) ucU uaf H3.m
 have H14 := anA (k := 1) ucV H3.m
 have H15 := alW (k := 1) udG uac H1.m
 have H16 := anE (k := 1) udf uaZ H7.m
 have H17 := afV (k := 1) udi H5.m
 have H18 := akg (k := 1) udq H8.m
 have H19 := ajK (k := 2) udC uaf H1.m H10.m
 have H20 := anz (k := 2) uc0 uac uaA H2.m H12.m
 have H21 := alm (k := 2) udb uaB H14.m H4.m
 have H22 := alQ (k := 2) uc7 uaj ual H14.m
 have H23 := als (k := 2) ucX H14.m
 have H24 := aic (k := 2) udh H6.m H5.m H16.m
 have H25 := aoF (k := 2) ucW H14.m
 have H26 := aif (k := 2) udj ua2 uaN H17.m
 have H27 := akh (k := 2) udt H4.m H18.m
 have H28 := aln (k := 3) udc H21.m H4.m H5.m
 have H29 := air (k := 3) uc3 H20.m H22.m H5.m
 have H30 := aoH (k := 3) ucZ H23.m
 have H31 := ajU (k := 3) udk ua3 uaQ H17.m H23.m
 have H32 := afb (k := 3) uds H27.m
 have H33 := ajN (k := 4) uc4 H20.m H13.m H28.m
 have H34 := afU (k := 4) ude uaB H28.m H6.m
 have H35 := alR (k := 4) uc8 uaF uaR H28.m
 have H36 := ajQ (k := 5) udg H34.m H24.m H6.m H28.m
 have H37 := alI (k := 5) udy H5.m H25.m H30.m H34.m H16.m
 have H38 := alU (k := 5) uc6 H20.m H35.m H17.m
 have H39 := ais (k := 5) udr H20.m H35.m H32.m
 have H40 := alS (k := 6) uc5 uaj ual H20.m H23.m H36.m
 have H41 := alJ (k := 6) udx uaE uaC H37.m
 have H42 := alx (k := 6) udl H26.m H23.m H36.m
 have H43 := alK (k := 7) udu uaD H20.m H13.m H41.m H5.m
 have H44 := alB (k := 7) udn uaC H42.m
 have H45 := af1 (k := 8) udw uaA H43.m
 have H46 := aj3 (k := 8) udm uaD uaE H20.m H33.m H31.m H44.m
 have H47 := alT (k := 9) udv H20.m H22.m H45.m
 have H48 := akl (k := 9) udo H20.m H35.m H46.m
 have H49 := alV (k := 10) udF ubf ep eg H29.m H40.m H47.m H38.m H48.m H39.m H9.m
 exact an0 (k := 11) F0 uac uaf uaz uai ubg ubh H0.m H1.m H19.m H11.m H33.m H15.m H49.m
theorem walk {l : PySem.W.OpenLaw} {q : Program} {loose : List Str} {XP : (Str -> Option Value) -> Heap -> Prop} {YP : World -> Heap -> Prop} {d : DefRec} {K : Params -> ao0} (hn : l.most = some 63) (hdf : d.params.defaults = [])
  (hY : ∀ (w : World) (h : Heap), YP w h -> (K w.params).In h)
  (F : ∀ (w : World) (mg : Str -> Option Value) (fa : Addr) (h : Heap), (K w.params).In h -> h.Ns mainGlobals mg -> mg d.name = some (.ref fa) ->
   ∃ fd : FuncData, (∀ (s : Shared) (u : Value), BindsTo s fd ⟨[u], []⟩ [("_law_script", u)]) /\ ∀ base : Heap, (K w.params).In base -> base.Ns mainGlobals mg -> FnOk l.prog w (K w.params) mg base CX0 12 fa fd pV (ahf (K w.params))) :
  PySem.W.WalkO q loose XP YP l.row.toRowW d [] (fun f vs => PySem.call f vs) :=
 L2.walk_of (n := 63) (k := 12) (x := "_law_script") (CX := fun _ => CX0) (sp := fun w => ahf (K w.params)) hn (by decide) hdf ⟨rfl, by decide, by decide⟩ hY F (fun _ _ a ns hl _ hS => ⟨a, ns, rfl, hS, hl, fun _ => rfl⟩) fun _ _ _ _ _ z => z
end My
def PySem.W.Fast.tw4812113836336865901 : Nat := 0
def PySem.W.Fast.tw3641813457344584055 : Nat := 0
def PySem.W.Fast.tw13068298372299711439 : Nat := 0
def PySem.W.Fast.tw9012730613660295759 : Nat := 0
def PySem.W.Fast.tw16731012118985667960 : Nat := 0
def PySem.W.Fast.tw17461272612925298991 : Nat := 0
def PySem.W.Fast.tw3994308660093461340 : Nat := 0
def PySem.W.Fast.tw965035589341778004 : Nat := 0
def PySem.W.Fast.tw13897426455438032316 : Nat := 0
def PySem.W.Fast.tw14483743980465188823 : Nat := 0
def PySem.W.Fast.tw18388741048328012561 : Nat := 0
def PySem.W.Fast.tw11197108039638827754 : Nat := 0
def PySem.W.Fast.tw11687759304547140691 : Nat := 0
def PySem.W.Fast.tw773015963313566426 : Nat := 0
def PySem.W.Fast.tw9747828869181895191 : Nat := 0
def PySem.W.Fast.tw9204687417031026999 : Nat := 0
def PySem.W.Fast.tw9025559363524783854 : Nat := 0
def PySem.W.Fast.tw17358562297880324571 : Nat := 0
def PySem.W.Fast.tw16682289962173540359 : Nat := 0
def PySem.W.Fast.tw13541536580812584094 : Nat := 0
def PySem.W.Fast.tw15094271796540319240 : Nat := 0
def PySem.W.Fast.tw311284463827901494 : Nat := 0
def PySem.W.Fast.tw4968166253002586578 : Nat := 0
def PySem.W.Fast.tw13217068175236259829 : Nat := 0
def PySem.W.Fast.tw278249643263536121 : Nat := 0
def PySem.W.Fast.tw17551824214944586393 : Nat := 0
def PySem.W.Fast.tw4495996870167337642 : Nat := 0
def PySem.W.Fast.tw5972278417662569754 : Nat := 0
def PySem.W.Fast.tw5890350254213341686 : Nat := 0
def PySem.W.Fast.tw11638438461631012635 : Nat := 0
def PySem.W.Fast.tw8163041101492658155 : Nat := 0
def PySem.W.Fast.tw13455232725915294144 : Nat := 0
def PySem.W.Fast.tw11376310989348050948 : Nat := 0
def PySem.W.Fast.tw1604243264026575287 : Nat := 0
def PySem.W.Fast.tw5299325734074664158 : Nat := 0
def PySem.W.Fast.tw13881023482261657409 : Nat := 0
def PySem.W.Fast.tw3294155709930748705 : Nat := 0
def PySem.W.Fast.tw4131212089463236345 : Nat := 0
def PySem.W.Fast.tw17019806705802133415 : Nat := 0
def PySem.W.Fast.tw6746035635233014996 : Nat := 0
def PySem.W.Fast.tw3447927682554788369 : Nat := 0
def PySem.W.Fast.tw8697411619190192188 : Nat := 0
def PySem.W.Fast.tw17351796272433334992 : Nat := 0
def PySem.W.Fast.tw10639002488292646613 : Nat := 0
def PySem.W.Fast.tw7116237381202799401 : Nat := 0
def PySem.W.Fast.tw9118826539007832095 : Nat := 0
def PySem.W.Fast.tw6200912655364217718 : Nat := 0
def PySem.W.Fast.tw6506891983141598857 : Nat := 0
def PySem.W.Fast.tw12837981291354854289 : Nat := 0
def PySem.W.Fast.tw4317465663593625263 : Nat := 0
def PySem.W.Fast.tw7868005641825260261 : Nat := 0
def PySem.W.Fast.tw16334279646459850941 : Nat := 0
open PySem PySem.W PyProof.Rows
set_option maxRecDepth 100000 in
set_option maxHeartbeats 0 in
theorem PySem.Challenge.cw_heightrings_k46_refusals_apart_holds : PySem.Challenge.rw_heightrings_k46_refusals_apart.Holds := by
 w_on; o_law; k_head; (case hw => w_witness2)
 k_fill
 refine My.walk (l := PySem.Challenge.rw_heightrings_k46_refusals_apart) rfl rfl (fun w h Y => by first | exact PySem.W.kIn_of Y | exact PySem.W.km_in_of Y) ?F
 case F =>
  intro w mg fa h KX G hmg
  refine' My.all_mk KX G hmg ?a1 ?a2 ?a3 ?a4 ?a5 ?a6 ?a7 ?a8 ?a9 ?a10 ?a11 ?a12 ?a13 ?a14 ?a15 ?a16 ?a17 ?a18 ?a19 ?a20 ?a21 ?a22 ?a23 ?a24 ?a25 ?a26 ?a27 ?a28 ?a29 ?a30 ?a31 ?a32 ?a33 ?a34 ?a35 ?a36 ?a37 ?a38 ?a39 ?a40 ?a41 ?a42 ?a43 ?a44 ?a45 ?a46 ?a47 ?a48 ?a49 ?a50 ?a51 ?ubi ?ubj ?ubk ?ubl ?ubm ?ubn ?ubo ?ubp ?ubq ?ubr ?ubs ?ubt ?ubu ?ubv ?ubw ?ubx ?uby ?ubz ?ubA ?ubB ?ubC ?ubD ?ubE ?ubF ?ubG ?ubH ?ubI ?ubJ ?ubK ?ubL ?ubM ?ubN ?uaN ?uaQ ?ual ?uaR ?uaT ?uaU ?kpv ?kgv ?kp1 ?kp2 ?kp3 ?kp4 ?kp5 ?kp6 ?kp7 ?kp8 ?kp9 ?kpr ?kg1 ?kg2 ?kg3 ?kg4 ?kg5 ?kg6 ?kg7 ?kg8 ?kg9 ?kgr ?ep ?eg
  (case a1 => refine ⟨?_, ?_, ?_, ?_⟩ <;> k_is)
  (case a2 => refine ⟨?_, ?_, ?_, ?_⟩ <;> k_is)
  (case a3 => refine ⟨?_, ?_, ?_, ?_⟩ <;> k_is)
  (case a4 => refine ⟨?_, ?_, ?_, ?_⟩ <;> k_is)
  (case a5 => refine ⟨?_, ?_, ?_, ?_⟩ <;> k_is)
  (case a6 => refine ⟨?_, ?_, ?_, ?_⟩ <;> k_is)
  (case a7 => refine ⟨?_, ?_, ?_, ?_⟩ <;> k_is)
  (case a8 => refine ⟨?_, ?_, ?_, ?_⟩ <;> k_is)
  (case a9 => refine ⟨?_, ?_, ?_, ?_⟩ <;> k_is)
  (case a10 => refine ⟨?_, ?_, ?_, ?_⟩ <;> k_is)
  (case a11 => refine ⟨?_, ?_, ?_, ?_⟩ <;> k_is)
  (case a12 => refine ⟨?_, ?_, ?_, ?_⟩ <;> k_is)
  (case a13 => refine ⟨?_, ?_, ?_, ?_⟩ <;> k_is)
  (case a14 => refine ⟨?_, ?_, ?_, ?_⟩ <;> k_is)
  (case a15 => refine ⟨?_, ?_, ?_, ?_⟩ <;> k_is)
  (case a16 => refine ⟨?_, ?_, ?_, ?_⟩ <;> k_is)
  (case a17 => refine ⟨?_, ?_, ?_, ?_⟩ <;> k_is)
  (case a18 => refine ⟨?_, ?_, ?_, ?_⟩ <;> k_is)
  (case a19 => refine ⟨?_, ?_, ?_, ?_⟩ <;> k_is)
  (case a20 => refine ⟨?_, ?_, ?_, ?_⟩ <;> k_is)
  (case a21 => refine ⟨?_, ?_, ?_, ?_⟩ <;> k_is)
  (case a22 => refine ⟨?_, ?_, ?_, ?_⟩ <;> k_is)
  (case a23 => refine ⟨?_, ?_, ?_, ?_⟩ <;> k_is)
  (case a24 => refine ⟨?_, ?_, ?_, ?_⟩ <;> k_is)
  (case a25 => refine ⟨?_, ?_, ?_, ?_⟩ <;> k_is)
  (case a26 => refine ⟨?_, ?_, ?_, ?_⟩ <;> k_is)
  (case a27 => refine ⟨?_, ?_, ?_, ?_⟩ <;> k_is)
  (case a28 => refine ⟨?_, ?_, ?_, ?_⟩ <;> k_is)
  (case a29 => refine ⟨?_, ?_, ?_, ?_⟩ <;> k_is)
  (case a30 => refine ⟨?_, ?_, ?_, ?_⟩ <;> k_is)
  (case a31 => refine ⟨?_, ?_, ?_, ?_⟩ <;> k_is)
  (case a32 => refine ⟨?_, ?_, ?_, ?_⟩ <;> k_is)
  (case a33 => refine ⟨?_, ?_, ?_, ?_⟩ <;> k_is)
  (case a34 => refine ⟨?_, ?_, ?_, ?_⟩ <;> k_is)
  (case a35 => refine ⟨?_, ?_, ?_, ?_⟩ <;> k_is)
  (case a36 => refine ⟨?_, ?_, ?_, ?_⟩ <;> k_is)
  (case a37 => refine ⟨?_, ?_, ?_, ?_⟩ <;> k_is)
  (case a38 => refine ⟨?_, ?_, ?_, ?_⟩ <;> k_is)
  (case a39 => refine ⟨?_, ?_, ?_, ?_⟩ <;> k_is)
  (case a40 => refine ⟨?_, ?_, ?_, ?_⟩ <;> k_is)
  (case a41 => refine ⟨?_, ?_, ?_, ?_⟩ <;> k_is)
  (case a42 => refine ⟨?_, ?_, ?_, ?_⟩ <;> k_is)
  (case a43 => refine ⟨?_, ?_, ?_, ?_⟩ <;> k_is)
  (case a44 => refine ⟨?_, ?_, ?_, ?_⟩ <;> k_is)
  (case a45 => refine ⟨?_, ?_, ?_, ?_⟩ <;> k_is)
  (case a46 => refine ⟨?_, ?_, ?_, ?_⟩ <;> k_is)
  (case a47 => refine ⟨?_, ?_, ?_, ?_⟩ <;> k_is)
  (case a48 => refine ⟨?_, ?_, ?_, ?_⟩ <;> k_is)
  (case a49 => refine ⟨?_, ?_, ?_, ?_⟩ <;> k_is)
  (case a50 => refine ⟨?_, ?_, ?_, ?_⟩ <;> k_is)
  (case a51 => refine ⟨?_, ?_, ?_, ?_⟩ <;> k_is)
  (case ubi => k_is)
  (case ubj => k_is)
  (case ubk => k_is)
  (case ubl => k_is)
  (case ubm => k_is)
  (case ubn => k_is)
  (case ubo => k_is)
  (case ubp => k_is)
  (case ubq => k_is)
  (case ubr => k_is)
  (case ubs => k_is)
  (case ubt => k_is)
  (case ubu => k_is)
  (case ubv => k_is)
  (case ubw => k_is)
  (case ubx => k_is)
  (case uby => k_is)
  (case ubz => k_is)
  (case ubA => k_is)
  (case ubB => k_is)
  (case ubC => k_is)
  (case ubD => k_is)
  (case ubE => k_is)
  (case ubF => k_is)
  (case ubG => k_is)
  (case ubH => k_is)
  (case ubI => k_is)
  (case ubJ => k_is)
  (case ubK => k_is)
  (case ubL => k_is)
  (case ubM => k_is)
  (case ubN => k_is)
  (case uaN => kernel_rfl)
  (case uaQ => kernel_rfl)
  (case ual => k_exc)
  (case uaR => k_exc)
  (case uaT => kernel_rfl)
  (case uaU => kernel_rfl)
  (case kpv => kernel_rfl)
  (case kgv => kernel_rfl)
  (case kp1 => kernel_rfl)
  (case kp2 => kernel_rfl)
  (case kp3 => kernel_rfl)
  (case kp4 => kernel_rfl)
  (case kp5 => kernel_rfl)
  (case kp6 => kernel_rfl)
  (case kp7 => kernel_rfl)
  (case kp8 => kernel_rfl)
  (case kp9 => kernel_rfl)
  (case kpr => kernel_rfl)
  (case kg1 => kernel_rfl)
  (case kg2 => kernel_rfl)
  (case kg3 => kernel_rfl)
  (case kg4 => kernel_rfl)
  (case kg5 => kernel_rfl)
  (case kg6 => kernel_rfl)
  (case kg7 => kernel_rfl)
  (case kg8 => kernel_rfl)
  (case kg9 => kernel_rfl)
  (case kgr => kernel_rfl)
  (case ep => kernel_rfl)
  (case eg => kernel_rfl)
end
