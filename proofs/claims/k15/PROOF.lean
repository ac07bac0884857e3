import PyProof.Rows.All
import Wide.All
import OpenK.AllK
import Wide.FinOn
import Lean
import PyProof.EqAt
import PyProof.EqKinds
import PyProof.TupleCall
import KE.KTryMore
import PyProof.ExcArgs
import PyProof.ConsumeWalk
import PyProof.P3Eq
import KE.KRevIter
import PyProof.ListRange
import PyProof.Rows.SumAny
import KE.KSortTup
import PyProof.SetScanFacts
import PyProof.TupleKey
import PyProof.DictRoadsH
import PyProof.SetRoads
import KE.KTabLook
import PyProof.Rows.ListMul
import PyProof.InstStoreFacts
import PyProof.Rows.SetFrom
import PyProof.AutoListH
import PySem.Challenge.RW_heightrings_k15_looker_tells_the_first
open List renaming getElem?_eq_getElem → anP, length_map → anQ, getElem?_eq_some_iff → anT, getD_eq_getElem?_getD → anU, mem_cons_of_mem → anY, mem_cons_self → an0, mem_cons → aoa, getElem?_map → aob, size_toArray → aod, length_cons → aoe, mem_of_getElem? → aof, length_append → aoh, getElem?_append_left → aoj, getElem?_append_right → aol, mem_singleton → aom, mem_append_right → aon, mem_append → aop, range → aoq, map_cons → aor, mem_map → aos, getElem_mem → aot, getElem?_eq_none → aov, length_take → aoA, mem_flatMap → aoC, map_append → aoE, take_length → aoG, cons_ne_nil → aoH, getElem?_of_mem → aoJ, mem_range → aoK, append_nil → aoN, all_eq_true → aoR, not_mem_nil → aoS, lookup_cons → aoV, head?_eq_getElem? → aoX, nodup_cons → aoY, length_singleton → aoZ, nodup_append → ao1, nodup_nil → ao4, length_drop → ao6, toArray → ao7, flatMap_append → ao8, length_set → apf, mem_append_left → apg, filter_cons → aph, getElem?_set_self → apk, length_range → apn, take_add_one → apo, pairwise_map → apq, append_assoc → apr, exists_cons_of_ne_nil → aps, length_pos_iff → apt, map → apw, mem_reverse → apx, reverse_cons → apz, length_reverse → apC, getElem_of_mem → apD, take_of_length_le → apF, filter_append → apM, length_filter_le → apN, pairwise_iff_getElem → apQ, getLast?_eq_getElem? → apS, mem_or_eq_of_mem_set → apT, mem_filter → apU, forIn_cons → apV, length_nil → apW, getElem?_set_ne → apY, map_map → ap1, length_erase_of_mem → ap6, getElem?_range → ap9, reverse_append → aqa, getElem?_replicate → aqc, forIn_nil → aqd, zip_cons_cons → aqi, ext_getElem? → aqo, replicate → aqr, mem_of_mem_take → aqs, take_zero → aqt, flatMap_map → aqw, drop_eq_getElem_cons → aqz, filterMap_cons → aqA, findSome?_cons → aqE, getElem?_take_of_lt → aqG, map_drop → aqI, getElem?_drop → aqL, take_succ → aqS, mem_of_head? → aqT, length_replicate → aqU, take_append_drop → aqV, getElem?_zipWith → aqW, getElem_inj → aqY, any_eq_true → aqZ, map_take → aq1, reverse_reverse → aq4, mem_erase_of_ne → aq5, getLast?_eq_some_getLast → aq6, mem_of_mem_drop → aq7, of_mem_zip → aq8, find?_cons → arc, range_succ → arf, map_congr_left → arh, mem_map_of_mem → ari, map_nil → arj, mem_filterMap → arp, length_eraseIdx_of_lt → ary, take_sublist → arD, flatMap_cons → arE, any_cons → arF, nodup_range → arM, getLast_mem → arQ, length_pos_of_mem → arX, map_set → arY, filter_nil → ar0, getElem?_mapIdx → asb, mem_iff_getElem → asd, mem_of_getLast? → asl, filter_flatMap → asn, all_cons → aso, any_map → asq, zipWith → ass
open Bool renaming false_ne_true → anR, and_eq_true → anZ, false_eq_true → aoF, not_true → aoQ, true_and → apy, eq_iff_iff → apB, false_and → apJ, not_false → apL, and_true → aq2, not_eq_true → arN, and_false → ash
open PySem.W renaming Frag → anS, mg_none_of → aoz, nsIn → aoD, kia_one → aoT, keepIn → ao3, kitOne → apl, mg_of → apH, fnOf → ap0, findIn → aqb, cellsFrom_some → aqf, codeIn → arq, methodObj → arA, specialIn → arB, kitx_list → arC, instObj → arZ, lookIn → ar8
open PySem.Heap renaming get?_push_of_some → anV, lt_size → aoc, get?_push_size → aoi, get?_update_other → aoM, get?_update_self → apb, size_push → apc, SameBut → apX, get?_none_of_le → aq3, ExtBut → asv
open Nat renaming le_refl → anW, le_trans → aou, lt_of_lt_of_le → aow, ne_of_lt → aoB, zero_le → aoI, lt_irrefl → ao5, lt_succ_of_lt → apa, le_of_lt → apj, not_lt_zero → apu, ne_of_gt → apZ, lt_succ_iff_lt_or_eq → ap5, le_of_eq → aqg, sub_self → aqj, min_le_right → aqu, lt_succ_self → aqv, le_succ → aqN, le_of_succ_le → aqO, lt_trans → aqP, lt_of_succ_lt_succ → aqQ, lt_succ_of_le → aqR, le_add_right → aq0, lt_succ_iff → aq9, succ_pos → ark, add_assoc → arH, not_lt → arT, zero_add → arU, min_le_left → ar1, le_of_ble_eq_true → ar4, add_comm → asr
open PySem.PyData renaming depthAll → aog, eqv → aoo, strOk → aox, canLayAll0 → aoL, eqvAll → aqm, depth → asu
open Array renaming length_toList → aok, getD_eq_getD_getElem? → apG, getElem?_eq_getElem → apP, getD → aqh, getElem?_toList → aqn, mem_toList_iff → aqq, forIn_toList → aqM, replicate → arb, getElem?_eq_some_iff → aru, size_map → ase
open PySem renaming boot_len → aoy, mem_of_lookup → ap8
open Classical renaming byContradiction → aoO, propDecidable → aoW
open PySem.Builtin.SmallTypes renaming nextOf → aoP, ownedTupleIsFree → apd, ownedTupleHandOut → aqC
open PySem.PassesOwn renaming never → aoU
open PyProof.Rows renaming callWith_type1 → ao0, slot_tuple_getitem → ap7, boot_list → aql, boot_all → aqX, boot_tuple → arR, boot_sum → ar3, boot_set → ar5
open PySem.F renaming plainAttrs_list → ao2, slot_tuple_hash → apA, plain_min_loop → apI, called_set → aqk, slot_set_contains → aqy, slot_list_append → aqJ, type_list_append → aqK, slot_zip_next → ard, slot_tuple_iterator_next → arx, slot_dict_getitem → arz, slot_list_insert → arJ, type_list_insert → arK, entry_min_loop → arO, slot_dict_len → ar2, slot_list_pop → ar6, type_list_pop → ar7, args_list_append_2 → asa, slot_set_add → asi, entry_list_append → asm
open PyProof.Rows.F renaming plain_set_update_loop → ao9, entry_set_update_loop → aqD
open Ne renaming symm → ape
open Int renaming eq_ofNat_of_zero_le → api, toNat_natCast → apm, emod_lt_of_pos → apK, emod_nonneg → ara
open PySem.SeqAt.ReadsAll renaming length → apv
open PySem.Str renaming ofString → apE
open PySem.Builtin.Slice renaming slicePlaces → apO, sliceAdjust → aqx, sliceApplied → ars
open PySem.Builtin.Tuple renaming tupleHashOf → apR, tupleExact → ap3, tupleItemsOf → art
open PySem.Around renaming under_plainId → ap2
open PySem.Obj renaming mapSeq → ap4, putSet → arW
open False renaming elim → aqe
open PySem.Builtin.List renaming listExtendWith → aqp, listLengthHint → arl, listSameRef → arG, listUpdate → arL, listItems → arV
open PySem.Heap.SameBut renaming update → aqB
open Option renaming isSome_iff_exists → aqF, getD_some → arP
open PySem.SetTable renaming toList_insertAt → aqH, sizeAbove → arw, fill → asp
open PySem.Builtin.Builtins renaming bindParams → arn
open PySem.Calls renaming Name_function_global → aro, callWith_builtin → arS, evalArgs_plain → ar9
open PySem.Builtin.Frozenset renaming oneOther → arv, addrOf → arI
open PySem.SeqAt renaming eqv_refl → asf
open PyProof.Rows.KTD renaming datumAt → asj
set_option Elab.async false
set_option linter.all false
set_option maxRecDepth 100000
set_option maxHeartbeats 4000000
section
namespace L2
open PySem PySem.Spec PyProof.Rows
abbrev Key := Sum Int Str
def alp : Key -> Value -> Bool
 | .inl k, v => Value.isInt k v
 | .inr x, v => Value.isStrOf x v
def anH (w : World) : Key -> Int
 | .inl k => hashInt k
 | .inr x => hashStr w x
theorem yl : ∀ {k : Key} {v : Value}, alp k v = true -> (∃ i t, k = Sum.inl i /\ v = Value.int i t) \/ (∃ x t, k = Sum.inr x /\ v = Value.str x t)
 | .inl i, v, h => by
  obtain ⟨t, e⟩ := Value.isInt_shape (k := i) (v := v) h
  exact .inl ⟨i, t, rfl, e⟩
 | .inr x, v, h => by
  obtain ⟨t, e⟩ := Value.isStrOf_shape (x := x) (v := v) h
  exact .inr ⟨x, t, rfl, e⟩
theorem alP (a b : Int) : decide ((Sum.inl a : Key) = Sum.inl b) = (a == b) := by
 by_cases e : a = b
 ·subst e; simp
 ·have h : ¬ (Sum.inl a : Key) = Sum.inl b := fun q => e (Sum.inl.inj q)
  rw [decide_eq_false h]
  exact (beq_eq_false_iff_ne.mpr e).symm
theorem alQ (a b : Str) : decide ((Sum.inr a : Key) = Sum.inr b) = decide (a = b) := by
 by_cases e : a = b
 ·subst e; simp
 ·have h : ¬ (Sum.inr a : Key) = Sum.inr b := fun q => e (Sum.inr.inj q)
  rw [decide_eq_false h, decide_eq_false e]
theorem alR (a : Int) (b : Str) : decide ((Sum.inl a : Key) = Sum.inr b) = false := decide_eq_false (fun q => nomatch q)
theorem alS (a : Str) (b : Int) : decide ((Sum.inr a : Key) = Sum.inl b) = false := decide_eq_false (fun q => nomatch q)
def acz (prog : Program) (w : World) : PySem.KeyKind prog w Key where
 is := alp
 hash := anH w
 inj := fun v a b ha hb => by
  rcases yl ha with ⟨i, t, rfl, rfl⟩ | ⟨x, t, rfl, rfl⟩
  ·rcases yl hb with ⟨j, u, rfl, e⟩ | ⟨y, u, rfl, e⟩
   ·injection e with e1 _; rw [e1]
   ·exact nomatch e
  ·rcases yl hb with ⟨j, u, rfl, e⟩ | ⟨y, u, rfl, e⟩
   ·exact nomatch e
   ·injection e with e1 _; rw [e1]
 byValue := fun k v h => by
  rcases yl h with ⟨i, t, rfl, rfl⟩ | ⟨x, t, rfl, rfl⟩ <;> rfl
 pyHash := fun hv h => by
  rcases yl hv with ⟨i, t, rfl, rfl⟩ | ⟨x, t, rfl, rfl⟩
  ·exact wpAny_pyHash_int h
  ·exact wpAny_pyHash_str h
 eqBool := fun hu hv h => by
  rcases yl hu with ⟨i, t, rfl, rfl⟩ | ⟨x, t, rfl, rfl⟩
  ·rcases yl hv with ⟨j, u, rfl, rfl⟩ | ⟨y, u, rfl, rfl⟩
   ·rw [alP] at h; exact wpAny_eqBool_int h
   ·rw [alR] at h; exact SeqAt.EqAt.int_str i t y u _ _ _ _ h
  ·rcases yl hv with ⟨j, u, rfl, rfl⟩ | ⟨y, u, rfl, rfl⟩
   ·rw [alS] at h; exact SeqAt.EqAt.str_int x t j u _ _ _ _ h
   ·rw [alQ] at h; exact wpAny_eqBool_str h
 «strs» := fun k x t v h => by
  rcases yl h with ⟨i, u, rfl, e⟩ | ⟨y, u, rfl, e⟩
  ·exact nomatch e
  ·injection e with e1 _
   subst e1
   cases v <;> rfl
end L2
namespace L2
open PySem PySem.Spec PyProof.Rows
inductive V where
 | non | bl (b : Bool) | int (i : Int) | str (x : Str) | byt (b : Array UInt8) | flt (b : UInt64) | ref (a : Addr) | ty (n : String)
 deriving DecidableEq
def RelV : V -> Value -> Prop
 | .non, u => u = Value.none
 | .bl b, u => u = Value.bool b
 | .int i, u => ∃ t, u = Value.int i t
 | .str x, u => ∃ t, u = Value.str x t
 | .byt b, u => ∃ t, u = Value.bytes b t
 | .flt b, u => ∃ t, u = Value.float b t
 | .ref a, u => u = Value.ref a
 | .ty n, u => u = Value.type n
abbrev Vals : List V -> List Value -> Prop := Paired RelV
theorem Vals.length {xs : List V} {us : List Value} (r : Vals xs us) : xs.length = us.length := Paired.length r
theorem Vals.get : ∀ {xs : List V} {us : List Value} {i : Nat} {x : V}, Vals xs us -> xs[i]? = some x -> ∃ u, us[i]? = some u /\ RelV x u
 | _, _, _, _, .nil, e => by simp at e
 | _, _, 0, _, .cons r _, e => by simp at e; subst e; exact ⟨_, rfl, r⟩
 | _, _, i + 1, x, .cons _ t, e => by
  obtain ⟨u, h1, h2⟩ := Vals.get (i := i) (x := x) t (by simpa using e)
  exact ⟨u, by simpa using h1, h2⟩
theorem Vals.set {x : V} {u : Value} (r : RelV x u) : ∀ {xs : List V} {us : List Value} (i : Nat), Vals xs us -> Vals (xs.set i x) (us.set i u)
 | _, _, _, .nil => .nil
 | _, _, 0, .cons _ t => .cons r t
 | _, _, i + 1, .cons q t => .cons q (Vals.set r i t)
theorem Vals.append : ∀ {xs ys : List V} {us ws : List Value}, Vals xs us -> Vals ys ws -> Vals (xs ++ ys) (us ++ ws)
 | _, _, _, _, .nil, s => s
 | _, _, _, _, .cons r t, s => .cons r (Vals.append t s)
theorem Vals.take : ∀ {xs : List V} {us : List Value} (n : Nat), Vals xs us -> Vals (xs.take n) (us.take n)
 | _, _, 0, _ => .nil
 | _, _, _ + 1, .nil => .nil
 | _, _, n + 1, .cons r t => .cons r (Vals.take n t)
theorem Vals.drop : ∀ {xs : List V} {us : List Value} (n : Nat), Vals xs us -> Vals (xs.drop n) (us.drop n)
 | _, _, 0, r => r
 | _, _, _ + 1, .nil => .nil
 | _, _, n + 1, .cons _ t => Vals.drop n t
def alT : Option V -> Option Value -> Prop
 | some v, some u => RelV v u
 | none, none => True
 | _, _ => False
def KV {κ : Type} : List (κ × V) -> List (κ × Value) -> Prop := Paired fun (p : κ × V) (q : κ × Value) => p.1 = q.1 /\ RelV p.2 q.2
def kV : Key -> V
 | .inl i => .int i
 | .inr x => .str x
inductive HO where
  | lst (xs : List V)
  | tup (xs : List V)
  | dK (kvs : List (Key × V)) | dT (kvs : List (List Key × V))
  | set (S : Int -> Bool) (n : Nat)
  | ins (C dx : Addr) (fs : List (Str × V))
  | own (x : Addr)
  | xd (fs : List (Str × V))
  | met (f x : Addr)
  | rng (lo hi : Int)
  | frz (o : Obj) (u : HO)
  | tbl (ps : Array Value)
  | ext (φ : Heap -> Prop)
abbrev Hp := Addr -> Option HO
def upd (H : Hp) (a : Addr) (o : HO) : Hp := fun b => if b = a then some o else H b
theorem zA {H : Hp} {a : Addr} {o : HO} : upd H a o a = some o := by unfold upd; rw [if_pos rfl]
theorem zI {H : Hp} {a b : Addr} {o : HO} (h : b ≠ a) : upd H a o b = H b := by unfold upd; rw [if_neg h]
theorem zY {H : Hp} {a b : Addr} {o : HO} (h : H a = some o) (h' : H b = none) : a ≠ b := by
 intro e; subst e; rw [h] at h'; cases h'
section
variable (P : Program) (w : World)
def ObjOk (H : Hp) (h : Heap) (a : Addr) : HO -> Prop
 | .lst xs => xs.length <= sizeLine /\ ∃ (its : List Value) (n : Nat), Vals xs its /\ h.get? a = some { cls := .type "list", data := .seq its.toArray n }
 | .tup xs => xs.length <= sizeLine /\ ∃ its : List Value, Vals xs its /\ IsTup h a its.toArray
 | .dK kvs => kvs.length <= sizeLine /\ (a == sysModules) = false /\ ∃ vs, KV kvs vs /\ h.DictOf (acz P w) a vs
 | .dT kvs => kvs.length <= sizeLine /\ (a == sysModules) = false /\ ∃ xs : List (List Key × Addr × Value),
   Paired (fun (p : List Key × V) (q : List Key × Addr × Value) => p.1 = q.1 /\ H q.2.1 = some (.tup (p.1.map kV)) /\ RelV p.2 q.2.2) kvs xs /\
   ∃ o es ep, h.get? a = some o /\ o.ExactDict /\ o.data = .dict es ep /\ es.toList = xs.map (entryOfKey (tupleKind (acz P w))) /\ (xs.map (·.1)).Nodup
 | .set S n => h.SetOf (intKind P w) a S n
 | .ins C dx fs => H dx = some (.own a) /\ fs.length <= 1000 /\ dx ≠ a /\ h.get? a = some (arZ C dx) /\
   ∃ mA, h.Ns1 dx mA /\ (∀ f, alT (fs.lookup f) (mA f)) /\ PySem.Within mA (fs.map (·.1))
 | .own _ => ∃ o, h.get? a = some o
 | .xd fs => ∃ mA, h.Ns1 a mA /\ ∀ f, alT (fs.lookup f) (mA f)
 | .rng lo hi => ∃ t u v, h.get? a = some { cls := .type "range", data := .fields #[.int lo t, .int hi u, .int 1 v] }
 | .frz o u => h.get? a = some o /\ ObjOk H h a u
 | .tbl ps => h.get? a = some { cls := .none, data := .fields ps }
 | .met f x => h.get? a = some (arA (.ref f) (.ref x))
 | .ext φ => φ h /\ (∃ o, h.get? a = some o) /\ ∀ h1 h2 : Heap, φ h1 -> (∀ o, h1.get? a = some o -> h2.get? a = some o) -> φ h2
def HOk (H : Hp) (h : Heap) : Prop := ∀ a o, H a = some o -> ObjOk P w H h a o
end
section
variable {P : Program} {w : World} {H H' : Hp} {h h' : Heap} {a : Addr} {o : HO}
theorem ObjOk.lt (x : ObjOk P w H h a o) : a < h.objs.size := by
 cases o with
 | lst xs => obtain ⟨_, _, _, _, e⟩ := x; exact aoc e
 | tup xs => obtain ⟨_, _, _, p⟩ := x; exact p.lt
 | dK kvs => obtain ⟨_, _, _, _, o, _, _, e, _⟩ := x; exact aoc e
 | dT kvs => obtain ⟨_, _, _, _, o, _, _, e, _⟩ := x; exact aoc e
 | set S n => obtain ⟨o, _, _, _, e, _⟩ := x; exact aoc e
 | ins C dx fs => obtain ⟨_, _, _, e, _⟩ := x; exact aoc e
 | own y => obtain ⟨_, e⟩ := x; exact aoc e
 | xd fs => obtain ⟨_, ⟨_, _, _, e, _⟩, _⟩ := x; exact aoc e
 | rng lo hi => obtain ⟨_, _, _, e⟩ := x; exact aoc e
 | frz ob u => obtain ⟨e, _⟩ := x; exact aoc e
 | tbl ps => exact aoc (show h.get? a = some _ from x)
 | met f y => exact aoc (show h.get? a = some _ from x)
 | ext φ => obtain ⟨_, ⟨_, e⟩, _⟩ := x; exact aoc e
theorem Paired.mapP {α β : Type} {F G : α -> β -> Prop} : ∀ {l₁ : List α} {l₂ : List β}, Paired F l₁ l₂ -> (∀ a b, F a b -> G a b) -> Paired G l₁ l₂
 | _, _, .nil, _ => .nil
 | _, _, .cons r t, f => .cons (f _ _ r) (Paired.mapP t f)
theorem ObjOk.stay (x : ObjOk P w H h a o) (k : ∀ b u, (b = a \/ H b = some (.own a)) -> h.get? b = some u -> h'.get? b = some u)
  (ho : ∀ b, H b = some (.own a) -> H' b = some (.own a)) (ht : ∀ b xs, H b = some (.tup xs) -> H' b = some (.tup xs)) : ObjOk P w H' h' a o := by
 induction o with
 | lst xs => obtain ⟨z, its, n, r, e⟩ := x; exact ⟨z, its, n, r, k _ _ (.inl rfl) e⟩
 | tup xs => obtain ⟨z, its, r, ob, e, c⟩ := x; exact ⟨z, its, r, ob, k _ _ (.inl rfl) e, c⟩
 | dK kvs => obtain ⟨z, y, vs, r, ob, es, ep, e, c⟩ := x; exact ⟨z, y, vs, r, ob, es, ep, k _ _ (.inl rfl) e, c⟩
 | dT kvs =>
  obtain ⟨z, y, xs, r, ob, es, ep, e, c⟩ := x
  exact ⟨z, y, xs, Paired.mapP r fun p q z => ⟨z.1, ht _ _ z.2.1, z.2.2⟩, ob, es, ep, k _ _ (.inl rfl) e, c⟩
 | set S n => obtain ⟨ob, es, ep, t, e, c⟩ := x; exact ⟨ob, es, ep, t, k _ _ (.inl rfl) e, c⟩
 | ins C dx fs =>
  obtain ⟨d, z, ne, e, mA, ⟨od, es, ep, e2, c⟩, r⟩ := x
  exact ⟨ho _ d, z, ne, k _ _ (.inl rfl) e, mA, ⟨od, es, ep, k _ _ (.inr d) e2, c⟩, r⟩
 | own y => obtain ⟨ob, e⟩ := x; exact ⟨ob, k _ _ (.inl rfl) e⟩
 | xd fs => obtain ⟨mA, ⟨od, es, ep, e, c⟩, r⟩ := x; exact ⟨mA, ⟨od, es, ep, k _ _ (.inl rfl) e, c⟩, r⟩
 | rng lo hi => obtain ⟨t, u, v, e⟩ := x; exact ⟨t, u, v, k _ _ (.inl rfl) e⟩
 | frz ob u ih => obtain ⟨e, q⟩ := x; exact ⟨k _ _ (.inl rfl) e, ih q⟩
 | tbl ps =>
  have e : h.get? a = some { cls := .none, data := .fields ps } := x
  show h'.get? a = some { cls := .none, data := .fields ps }
  exact k a _ (.inl rfl) e
 | met f y =>
  have e : h.get? a = some (arA (.ref f) (.ref y)) := x
  show h'.get? a = some (arA (.ref f) (.ref y))
  exact k a _ (.inl rfl) e
 | ext φ => obtain ⟨p, ⟨o, e⟩, st⟩ := x; exact ⟨st _ _ p fun o q => k _ _ (.inl rfl) q, ⟨o, k _ _ (.inl rfl) e⟩, st⟩
theorem HOk.lt (x : HOk P w H h) (e : H a = some o) : a < h.objs.size := (x a o e).lt
theorem HOk.fresh (x : HOk P w H h) (e : h.objs.size <= a) : H a = none := by
 cases q : H a with
 | none => rfl
 | some u => exact absurd (aow (x.lt q) e) (ao5 _)
theorem HOk.kept (x : HOk P w H h) (k : ∀ b u, h.get? b = some u -> h'.get? b = some u) : HOk P w H h' := fun a o e =>
 (x a o e).stay (fun b u _ q => k b u q) (fun _ q => q) fun _ _ q => q
theorem HOk.laid (x : HOk P w H h) (k : ∀ b u, h.get? b = some u -> h'.get? b = some u) (hp : h.objs.size <= a) (new : ObjOk P w (upd H a o) h' a o) : HOk P w (upd H a o) h' := fun b u e => by
 have hn := x.fresh hp
 by_cases hb : b = a
 ·subst hb; rw [zA] at e; cases e; exact new
 ·rw [zI hb] at e
  exact (x b u e).stay (fun c v _ q => k c v q) (fun c q => by rw [zI (zY q hn)]; exact q) fun c xs q => by rw [zI (zY q hn)]; exact q
end
def Rd (H : Hp) (a : Addr) (u : HO) : Prop := H a = some u \/ ∃ o, H a = some (.frz o u)
theorem Rd.ok {P : Program} {w : World} {H : Hp} {h : Heap} {a : Addr} {u : HO} (r : Rd H a u) (x : HOk P w H h) : ObjOk P w H h a u := by
 rcases r with r | ⟨o, r⟩
 ·exact x a u r
 ·obtain ⟨_, q⟩ := x a _ r
  exact q
def Mut : Option HO -> Prop
 | some (.lst _) => True
 | some (.dK _) => True
 | some (.dT _) => True
 | some (.set _ _) => True
 | some (.ins _ _ _) => True
 | some (.ext _) => True
 | _ => False
section
variable {P : Program} {w : World} {H : Hp} {h h' : Heap} {x e : Addr} {o' : HO}
theorem HOk.write (ok : HOk P w H h) (mu : Mut (H x)) (he : e = x \/ H e = some (.own x)) (k : ∀ b u, b ≠ e -> h.get? b = some u -> h'.get? b = some u) (heo : ∃ u, h'.get? e = some u)
  (new : ObjOk P w (upd H x o') h' x o') : HOk P w (upd H x o') h' := fun b u q => by
 have nown : ∀ c y, H c = some (.own y) -> c ≠ x := fun c y r z => by subst z; rw [r] at mu; exact mu
 have ntup : ∀ c xs, H c = some (.tup xs) -> c ≠ x := fun c xs r z => by subst z; rw [r] at mu; exact mu
 by_cases hb : b = x
 ·subst hb; rw [zA] at q; cases q; exact new
 ·rw [zI hb] at q
  by_cases hbe : b = e
  ·have q' : H b = some (.own x) := by
    rcases he with z | z
    ·exact absurd (hbe.trans z) hb
    ·rw [hbe]; exact z
   rw [q] at q'; cases q'
   obtain ⟨v, hv⟩ := heo
   exact ⟨v, by rw [hbe]; exact hv⟩
  ·refine (ok b u q).stay (fun c v hc r => k c v ?_ r) (fun c r => by rw [zI (nown c b r)]; exact r) fun c xs r => by rw [zI (ntup c xs r)]; exact r
   rcases hc with rfl | hc
   ·exact hbe
   ·rintro rfl
    rcases he with z | z
    ·exact nown c b hc z
    ·rw [hc] at z; cases z; exact hb rfl
end
structure Un (fs ex : List Addr) (H H' : Hp) (h h' : Heap) : Prop where
 keep : ∀ b o, h.get? b = some o -> H b = none -> b ∉ fs -> b ∉ ex -> h'.get? b = some o
 slot : ∀ b o, h.get? b = some o -> H b = none -> b ∈ fs -> b ∉ ex -> ∃ sl, h'.get? b = some { o with slots := sl }
 free : ∀ b o, h.get? b = some o -> H b = none -> b ∉ ex -> H' b = none
 there : ∀ b o, h.get? b = some o -> b ∉ ex -> ∃ o', h'.get? b = some o'
 tups : ∀ b xs, H b = some (.tup xs) -> H' b = some (.tup xs)
 frzs : ∀ b o u, H b = some (.frz o u) -> H' b = some (.frz o u)
 tbls : ∀ b ps, H b = some (.tbl ps) -> ∃ more, H' b = some (.tbl (ps ++ more))
section
variable {fs fs' ex ex' : List Addr} {H H1 H2 : Hp} {h h1 h2 h' : Heap} {a x e : Addr} {o : HO}
theorem Un.any (u : Un fs ex H H1 h h1) {b : Addr} {ob : Obj} (q : h.get? b = some ob) (n : H b = none) (hx : b ∉ ex) : ∃ sl, h1.get? b = some { ob with slots := sl } := by
 by_cases hb : b ∈ fs
 ·exact u.slot b ob q n hb hx
 ·exact ⟨ob.slots, u.keep b ob q n hb hx⟩
theorem Un.kept (k : ∀ b u, h.get? b = some u -> h'.get? b = some u) : Un fs ex H H h h' :=
 ⟨fun b ob q _ _ _ => k b ob q, fun b ob q _ _ _ => ⟨ob.slots, k b ob q⟩, fun _ _ _ n _ => n, fun b ob q _ => ⟨ob, k b ob q⟩, fun _ _ q => q, fun _ _ _ q => q, fun _ ps q => ⟨#[], by rw [q]; simp⟩⟩
theorem Un.refl : Un fs ex H H h h := Un.kept fun _ _ q => q
theorem Un.laid (k : ∀ b u, h.get? b = some u -> h'.get? b = some u) (hp : h.objs.size <= a) (hn : H a = none) : Un fs ex H (upd H a o) h h' where
 keep := fun b u q _ _ _ => k b u q
 slot := fun b u q _ _ _ => ⟨u.slots, k b u q⟩
 free := fun b u q n _ => by rw [zI (aoB (aow (aoc q) hp))]; exact n
 there := fun b u q _ => ⟨u, k b u q⟩
 tups := fun b xs q => by rw [zI (zY q hn)]; exact q
 frzs := fun b u xs q => by rw [zI (zY q hn)]; exact q
 tbls := fun b ps q => ⟨#[], by rw [zI (zY q hn), q]; simp⟩
theorem Un.write (mu : Mut (H x)) (he : e = x \/ H e = some (.own x)) (k : ∀ b u, b ≠ e -> h.get? b = some u -> h'.get? b = some u) (heo : ∃ u, h'.get? e = some u) : Un fs ex H (upd H x o) h h' := by
 have hx : ∀ b, H b = none -> b ≠ x := fun b n z => by subst z; rw [n] at mu; exact mu
 have hb : ∀ b, H b = none -> b ≠ e := fun b n z => by
  subst z
  rcases he with r | r
  ·exact hx b n r
  ·rw [n] at r; cases r
 have hm : ∀ b u, H b = some u -> ¬ Mut (some u) -> b ≠ x := fun b u q nm z => by subst z; rw [q] at mu; exact nm mu
 refine ⟨fun b u q n _ _ => k b u (hb b n) q, fun b u q n _ _ => ⟨u.slots, k b u (hb b n) q⟩, fun b u q n _ => by rw [zI (hx b n)]; exact n, fun b u q _ => ?_,
  fun b xs q => by rw [zI (hm b _ q fun z => z)]; exact q, fun b u xs q => by rw [zI (hm b _ q fun z => z)]; exact q, fun b ps q => ⟨#[], by rw [zI (hm b _ q fun z => z), q]; simp⟩⟩
 by_cases hbe : b = e
 ·subst hbe; exact heo
 ·exact ⟨u, k b u hbe q⟩
end
def trk (h : Heap) (H : Hp) : List Addr := (aoq h.objs.size).filter fun a => (H a).isSome
def acA (h : Heap) (H : Hp) : Heap := PySem.W.hideAll h (trk h H)
theorem agV (h : Heap) (H : Hp) : (acA h H).objs.size = h.objs.size := PySem.W.hideAll_size _ _
theorem ah6 {h : Heap} {H : Hp} {b : Addr} {o : Obj} (e : h.get? b = some o) (n : H b = none) : (acA h H).get? b = some o :=
 PySem.W.hideAll_get _ e fun hm => by
  have q : (H b).isSome = true := (apU.mp hm).2
  rw [n] at q; simp at q
theorem ajY {h : Heap} {H : Hp} {b : Addr} {o : Obj} (e : (acA h H).get? b = some o) : h.get? b = some o /\ H b = none := by
 have e' : h.get? b = some o := PySem.W.of_hideAll (trk h H) e
 refine ⟨e', ?_⟩
 cases q : H b with
 | none => rfl
 | some x =>
  have hm : b ∈ trk h H := apU.mpr ⟨aoK.mpr (aoc e'), by simp [q]⟩
  have z : (acA h H).get? b = none := PySem.W.hideAll_none (trk h H) hm
  rw [z] at e; cases e
def ajZ (g h : Heap) (L : Addr) : List (Addr × Obj) := (aoq h.objs.size).filterMap fun a => if a = L \/ (g.get? a).isSome = true then none else (h.get? a).map fun o => (a, o)
def rest (g h : Heap) (L d : Addr) : List (Addr × Obj) := (ajZ g h L).filter fun p => decide (p.1 ≠ d)
end L2
namespace L2
open PySem PySem.Spec PyProof.Rows
structure Mod (K : anS) (mg : Str -> Option Value) (base : Heap) : Prop where
 kin : K.In base
 glob : base.Ns mainGlobals mg
 blt : ∃ mb, base.Ns builtinsNs mb /\ ∀ x : Str, x ≠ "__name__" -> mb x = bootBuiltins x
 nolimit : base.NoLimit
structure Cx where
 prog : Program
 w : World
 K : anS
 mg : Str -> Option Value
 base : Heap
 A : Around
 N : List Str
 s₀ : Shared
 H₀ : Hp
 env : Env
 outer : List Env
 stack : List Env
 ex : List Addr
 fn : Str -> Bool
 calm : Bool
 pn : List (Addr × Obj)
 xe : Value -> Shared -> Prop
def frs (l : List Env) : List Addr := l.filterMap (·.frame)
abbrev Cx.fs (X : Cx) : List Addr := frs X.outer
def Vis (sc : Scope) (x : Str) : Prop := sc.names.lookup x = some .local \/ sc.names.lookup x = some .cell \/ sc.names.lookup x = some .free
def Loc (sc : Scope) (x : Str) : Prop := sc.names.lookup x = some .local \/ sc.names.lookup x = some .cell
def Look (env : Env) (h : Heap) (m : Str -> Option Value) (x : Str) (u : Value) : Prop :=
 (env.kindOf x = some .local /\ m x = some u) \/ ((env.kindOf x = some .cell \/ env.kindOf x = some .free) /\ ∃ c, env.cells.lookup x = some c /\ h.IsCell c (some u))
structure Cx.Ok (X : Cx) : Prop where
 mod : Mod X.K X.mg X.base
 kind : X.env.scope.kind = .function
 glob : X.env.globals = mainGlobals
 blt : X.env.builtins = builtinsNs
 above : X.s₀.heap.objs.size <= X.env.locals
 inj : ∀ x y c, X.env.cells.lookup x = some c -> X.env.cells.lookup y = some c -> x = y
 has : ∀ x, (X.env.kindOf x = some .cell \/ X.env.kindOf x = some .free) -> ∃ c, X.env.cells.lookup x = some c
 cab : ∀ x c, X.fn x = true -> X.env.cells.lookup x = some c -> X.s₀.heap.objs.size <= c
 hd : X.calm = true -> X.A.handled = none
 frames : X.A.frames = some X.stack
 stk : X.stack = X.outer \/ (X.stack = X.env :: X.outer /\ X.env.frame = some X.env.locals)
 exf : ∀ b ∈ X.ex, b ≠ X.env.locals /\ ∀ x c, X.env.cells.lookup x = some c -> c ≠ b
 bs : ∀ b o, X.base.get? b = some o -> X.s₀.heap.get? b = some o /\ X.H₀ b = none
 bsz : X.base.objs.size <= X.s₀.heap.objs.size
 noex : ∀ b o, X.base.get? b = some o -> b ∉ X.ex
 exfs : ∀ b ∈ X.ex, b ∉ X.fs
 funs : X.s₀.heap.FunFrames X.base X.outer
 frf : ∀ b ∈ X.fs, X.H₀ b = none
structure Inv (X : Cx) (pins : List (Addr × Obj)) (σ : List (Option V)) (H : Hp) (s : Shared) : Prop where
 ok : X.Ok
 os : s.os = X.s₀.os
 bare : AllBare s.gens
 base : Un X.fs X.ex X.H₀ H X.s₀.heap s.heap
 loc : ∃ m, s.heap.Ns X.env.locals m /\ ∀ (i : Nat) (x : Str) (v : V), X.N[i]? = some x -> σ[i]? = some (some v) -> Vis X.env.scope x -> ∃ u, RelV v u /\ Look X.env s.heap m x u
 cell : ∀ x c, X.env.cells.lookup x = some c -> ∃ v, s.heap.IsCell c v
 free : H X.env.locals = none
 freeC : ∀ x c, X.env.cells.lookup x = some c -> H c = none
 pin : ∀ p ∈ X.pn ++ pins, s.heap.get? p.1 = some p.2 /\ H p.1 = none /\ p.1 ≠ X.env.locals /\ p.1 ∉ X.fs /\ ∀ v, p.2.data ≠ .cell v
 hok : HOk X.prog X.w H s.heap
 len : σ.length = X.N.length
section
variable {X : Cx} {pins : List (Addr × Obj)} {σ : List (Option V)} {H H' : Hp} {s : Shared} {h' : Heap}
theorem Cx.Ok.nofr (ok : X.Ok) {b : Addr} {o : Obj} (e : X.base.get? b = some o) : b ∉ X.fs := fun hb => by
 have := (ok.funs.mem hb).1
 rw [e] at this; cases this
theorem Inv.bs (I : Inv X pins σ H s) : ∀ b o, X.base.get? b = some o -> s.heap.get? b = some o /\ H b = none := fun b o e =>
 ⟨I.base.keep b o (I.ok.bs b o e).1 (I.ok.bs b o e).2 (I.ok.nofr e) (I.ok.noex b o e), I.base.free b o (I.ok.bs b o e).1 (I.ok.bs b o e).2 (I.ok.noex b o e)⟩
theorem Inv.bk (I : Inv X pins σ H s) : ∀ b o, X.base.get? b = some o -> s.heap.get? b = some o := fun b o e => (I.bs b o e).1
theorem Inv.mod (I : Inv X pins σ H s) : Mod X.K X.mg X.base := I.ok.mod
theorem Inv.kIn (I : Inv X pins σ H s) : X.K.In s.heap := I.ok.mod.kin.keeps I.bk
theorem Inv.fr (I : Inv X pins σ H s) : ∃ m, Fr X.base X.env.locals s.heap m :=
 let ⟨m, hn, _⟩ := I.loc
 ⟨m, hn, I.bk, aou I.ok.bsz I.ok.above⟩
theorem Inv.lt (I : Inv X pins σ H s) : X.env.locals < s.heap.objs.size := let ⟨_, hn, _⟩ := I.loc; hn.lt
theorem Inv.sz (I : Inv X pins σ H s) : X.s₀.heap.objs.size <= s.heap.objs.size := aou I.ok.above (apj I.lt)
theorem Inv.nofs (I : Inv X pins σ H s) {a : Addr} (h : s.heap.objs.size <= a) : a ∉ X.fs := fun hb => by
 obtain ⟨_, o, ho, _⟩ := I.ok.funs.mem hb
 exact absurd (aow (aoc ho) (aou I.sz h)) (ao5 _)
theorem Inv.cne (I : Inv X pins σ H s) : ∀ x c, X.env.cells.lookup x = some c -> c ≠ X.env.locals := fun x c e z => by
 obtain ⟨v, o, ho, hd⟩ := I.cell x c e
 obtain ⟨m, ⟨o', es, ep, ho', hd', _⟩, _⟩ := I.loc
 rw [z, ho'] at ho; cases ho; rw [hd'] at hd; cases hd
theorem Inv.funs (I : Inv X pins σ H s) : s.heap.FunFrames X.base X.outer := by
 have all : ∀ (l : List Env), (∀ b ∈ frs l, b ∈ X.fs) -> X.s₀.heap.FunFrames X.base l -> s.heap.FunFrames X.base l := by
  intro l
  induction l with
  | nil => intro _ _; trivial
  | cons env r ih =>
   intro hs hl
   obtain ⟨hk, ⟨L, o, hf, hn, ho, hd⟩, hr⟩ := hl
   have hL : L ∈ X.fs := hs L (by unfold frs; rw [aqA, hf]; exact an0)
   obtain ⟨sl, e⟩ := I.base.slot L o ho (I.ok.frf L hL) hL fun z => I.ok.exfs L z hL
   exact ⟨hk, ⟨L, _, hf, hn, e, hd⟩, ih (fun b hb => hs b (by unfold frs; rw [aqA, hf]; exact anY _ hb)) hr⟩
 exact all X.outer (fun _ hb => hb) I.ok.funs
theorem Inv.stack (I : Inv X pins σ H s) : s.heap.FunFrames X.base X.stack := by
 rcases I.ok.stk with e | ⟨e, hf⟩
 ·rw [e]; exact I.funs
 ·rw [e]
  obtain ⟨m, hn, _⟩ := I.loc
  refine .cons (by rw [I.ok.kind]; decide) hf hn ?_ I.funs
  exact aq3 (aou I.ok.bsz I.ok.above)
theorem Inv.stkSub (I : Inv X pins σ H s) : ∀ b ∈ frs X.stack, b ∈ X.env.locals :: X.fs := fun b hb => by
 rcases I.ok.stk with e | ⟨e, hf⟩
 ·rw [e] at hb; exact anY _ hb
 ·rw [e] at hb
  unfold frs at hb
  rw [aqA, hf] at hb
  exact hb
theorem Inv.stkFree (I : Inv X pins σ H s) : ∀ b ∈ frs X.stack, H b = none := fun b hb => by
 rcases aoa.mp (I.stkSub b hb) with e | hb
 ·rw [e]; exact I.free
 ·obtain ⟨_, o, ho, _⟩ := I.ok.funs.mem hb
  exact I.base.free b o ho (I.ok.frf b hb) fun z => I.ok.exfs b z hb
theorem Inv.step {g' : Array GenState} {t' : Nat} {d' : Drawn} {ch : List Addr} (I : Inv X pins σ H s)
  (hch : ∀ b ∈ ch, (b ∈ X.ex \/ X.s₀.heap.objs.size <= b) /\ b ≠ X.env.locals /\ (∀ x c, X.env.cells.lookup x = some c -> c ≠ b) /\ ∀ p ∈ X.pn ++ pins, p.1 ≠ b)
  (keep : ∀ b o, b ≠ X.env.locals -> b ∉ X.fs -> b ∉ ch -> s.heap.get? b = some o -> H b = none -> h'.get? b = some o)
  (slot : ∀ b o, b ≠ X.env.locals -> b ∈ X.fs -> b ∉ ch -> s.heap.get? b = some o -> H b = none -> ∃ sl, h'.get? b = some { o with slots := sl }) (free : ∀ b o, b ∉ ch -> s.heap.get? b = some o -> H b = none -> H' b = none)
  (there : ∀ b o, b ∉ ch -> s.heap.get? b = some o -> ∃ o', h'.get? b = some o')
  (tups : ∀ b xs, H b = some (.tup xs) -> H' b = some (.tup xs)) (frzs : ∀ b o u, H b = some (.frz o u) -> H' b = some (.frz o u)) (tbls : ∀ b ps, H b = some (.tbl ps) -> ∃ more, H' b = some (.tbl (ps ++ more)))
  (ns : ∀ m, s.heap.Ns X.env.locals m -> h'.Ns X.env.locals m) (hok : HOk X.prog X.w H' h') (hg : AllBare g') :
  Inv X pins σ H' { s with heap := h', gens := g', drawn := d', toks := t' } := by
 have neL : ∀ b o, X.s₀.heap.get? b = some o -> b ≠ X.env.locals := fun b o e => aoB (aow (aoc e) I.ok.above)
 have neC : ∀ b o, X.s₀.heap.get? b = some o -> b ∉ X.ex -> b ∉ ch := fun b o e hx hb => by
  rcases (hch b hb).1 with z | z
  ·exact hx z
  ·exact absurd (aow (aoc e) z) (ao5 _)
 have cellK : ∀ x c, X.env.cells.lookup x = some c -> ∀ v, s.heap.IsCell c v -> h'.IsCell c v := fun x c e v ⟨o, ho, hd⟩ => by
  have nch : c ∉ ch := fun z => (hch c z).2.2.1 x c e rfl
  by_cases hc : c ∈ X.fs
  ·obtain ⟨sl, q⟩ := slot c o (I.cne x c e) hc nch ho (I.freeC x c e)
   exact ⟨_, q, hd⟩
  ·exact ⟨o, keep c o (I.cne x c e) hc nch ho (I.freeC x c e), hd⟩
 refine ⟨I.ok, I.os, hg, ⟨fun b o e n hb hx => ?_, fun b o e n hb hx => ?_, fun b o e n hx => ?_, fun b o e hx => ?_, fun b xs e => tups b xs (I.base.tups b xs e), fun b o xs e => frzs b o xs (I.base.frzs b o xs e), fun b ps e => ?_⟩, ?_, fun x c e => ?_, ?_, fun x c e => ?_, fun p hp => ?_, hok, I.len⟩
 ·exact keep b o (neL b o e) hb (neC b o e hx) (I.base.keep b o e n hb hx) (I.base.free b o e n hx)
 ·obtain ⟨sl, e1⟩ := I.base.slot b o e n hb hx
  obtain ⟨sl', e2⟩ := slot b _ (neL b o e) hb (neC b o e hx) e1 (I.base.free b o e n hx)
  exact ⟨sl', e2⟩
 ·obtain ⟨o', e1⟩ := I.base.there b o e hx
  exact free b o' (neC b o e hx) e1 (I.base.free b o e n hx)
 ·obtain ⟨o', e1⟩ := I.base.there b o e hx
  exact there b o' (neC b o e hx) e1
 ·obtain ⟨m1, e1⟩ := I.base.tbls b ps e
  obtain ⟨m2, e2⟩ := tbls b _ e1
  exact ⟨m1 ++ m2, by rw [e2, Array.append_assoc]⟩
 ·obtain ⟨m, hn, hl⟩ := I.loc
  refine ⟨m, ns m hn, fun i x v e1 e2 e3 => ?_⟩
  obtain ⟨u, r, l⟩ := hl i x v e1 e2 e3
  refine ⟨u, r, ?_⟩
  rcases l with l | ⟨k, c, e, z⟩
  ·exact .inl l
  ·exact .inr ⟨k, c, e, cellK x c e _ z⟩
 ·obtain ⟨v, z⟩ := I.cell x c e
  exact ⟨v, cellK x c e v z⟩
 ·obtain ⟨m, ⟨o, _, _, ho, _⟩, _⟩ := I.loc
  exact free _ o (fun z => (hch _ z).2.1 rfl) ho I.free
 ·obtain ⟨v, o, ho, hd⟩ := I.cell x c e
  exact free c o (fun z => (hch c z).2.2.1 x c e rfl) ho (I.freeC x c e)
 ·obtain ⟨e, n, ne, nf, d⟩ := I.pin p hp
  have nch : p.1 ∉ ch := fun z => (hch p.1 z).2.2.2 p hp rfl
  exact ⟨keep p.1 p.2 ne nf nch e n, free p.1 p.2 nch e n, ne, nf, d⟩
theorem Inv.un {t' : Nat} (I : Inv X pins σ H s) (u : Un X.fs [] H H' s.heap h') (hok : HOk X.prog X.w H' h') : Inv X pins σ H' { s with heap := h', toks := t' } := by
 obtain ⟨m, ⟨o, es, ep, ho, r⟩, _⟩ := id I.loc
 obtain ⟨sl, hL⟩ := u.any ho I.free (by simp)
 exact I.step (g' := s.gens) (d' := s.drawn) (ch := []) (fun _ z => nomatch z) (fun b o _ hb _ e n => u.keep b o e n hb (by simp)) (fun b o _ hb _ e n => u.slot b o e n hb (by simp)) (fun b o _ e n => u.free b o e n (by simp)) (fun b o _ e => u.there b o e (by simp)) u.tups u.frzs u.tbls (fun m' hm => by
  obtain ⟨o', es', ep', ho', r'⟩ := hm
  rw [ho] at ho'; cases ho'
  exact ⟨_, es', ep', hL, r'⟩) hok I.bare
theorem Inv.call {g' : Array GenState} {t' : Nat} {d' : Drawn} {ch : List Addr} (I : Inv X pins σ H s) (u : Un (frs X.stack) ch H H' s.heap h') (hok : HOk X.prog X.w H' h') (hg : AllBare g')
  (hch : ∀ b ∈ ch, (b ∈ X.ex \/ X.s₀.heap.objs.size <= b) /\ b ≠ X.env.locals /\ (∀ x c, X.env.cells.lookup x = some c -> c ≠ b) /\ ∀ p ∈ X.pn ++ pins, p.1 ≠ b) :
  Inv X pins σ H' { s with heap := h', gens := g', drawn := d', toks := t' } := by
 obtain ⟨m, ⟨o, es, ep, ho, r⟩, _⟩ := id I.loc
 obtain ⟨sl, hL⟩ := u.any ho I.free fun z => (hch _ z).2.1 rfl
 exact I.step (ch := ch) hch (fun b o hL hb hc e n => u.keep b o e n (fun z => (aoa.mp (I.stkSub b z)).elim hL hb) hc) (fun b o _ _ hc e n => u.any e n hc) (fun b o hc e n => u.free b o e n hc) (fun b o hc e => u.there b o e hc) u.tups u.frzs u.tbls (fun m' hm => by
  obtain ⟨o', es', ep', ho', r'⟩ := hm
  rw [ho] at ho'; cases ho'
  exact ⟨_, es', ep', hL, r'⟩) hok hg
theorem Inv.turned {t' : Nat} {it : Addr} (I : Inv X pins σ H s) (k : ∀ b o, b ≠ it -> s.heap.get? b = some o -> h'.get? b = some o) (hn : H it = none) (hL : it ≠ X.env.locals)
  (h1 : it ∈ X.ex \/ X.s₀.heap.objs.size <= it) (h2 : ∀ x c, X.env.cells.lookup x = some c -> c ≠ it) (h3 : ∀ p ∈ X.pn ++ pins, p.1 ≠ it) : Inv X pins σ H { s with heap := h', toks := t' } := by
 have nit : ∀ b u, H b = some u -> b ≠ it := fun b u e z => by rw [z, hn] at e; cases e
 refine I.step (g' := s.gens) (d' := s.drawn) (ch := [it]) (fun b hb => ?_) (fun b o _ _ hc e _ => k b o (fun z => hc (by simp [z])) e) (fun b o _ _ hc e _ => ⟨o.slots, k b o (fun z => hc (by simp [z])) e⟩) (fun _ _ _ _ n => n)
  (fun b o hc e => ⟨o, k b o (fun z => hc (by simp [z])) e⟩) (fun _ _ e => e) (fun _ _ _ e => e) (fun b ps e => ⟨#[], by rw [e]; simp⟩) (fun m hm => ?_) (fun b u e => ?_) I.bare
 ·have e : b = it := by simpa using hb
  subst e
  exact ⟨h1, hL, h2, h3⟩
 ·obtain ⟨o, es, ep, ho, r⟩ := hm
  exact ⟨o, es, ep, k _ o (ape hL) ho, r⟩
 ·refine (I.hok b u e).stay (fun c v hc q => k c v ?_ q) (fun _ q => q) fun _ _ q => q
  rcases hc with z | z
  ·rw [z]; exact nit b u e
  ·exact nit c _ z
theorem Inv.tok (I : Inv X pins σ H s) (t : Nat) : Inv X pins σ H { s with toks := t } := I.un (h' := s.heap) (t' := t) Un.refl I.hok
theorem Inv.kept {t' : Nat} (I : Inv X pins σ H s) (k : ∀ b u, s.heap.get? b = some u -> h'.get? b = some u) : Inv X pins σ H { s with heap := h', toks := t' } := I.un (Un.kept k) (I.hok.kept k)
theorem Inv.laid {a : Addr} {o : HO} {t' : Nat} (I : Inv X pins σ H s) (k : ∀ b u, s.heap.get? b = some u -> h'.get? b = some u) (hp : s.heap.objs.size <= a) (new : ObjOk X.prog X.w (upd H a o) h' a o) :
  Inv X pins σ (upd H a o) { s with heap := h', toks := t' } := I.un (Un.laid k hp (I.hok.fresh hp)) (I.hok.laid k hp new)
theorem Inv.write {x e : Addr} {o : HO} {t' : Nat} (I : Inv X pins σ H s) (mu : Mut (H x)) (he : e = x \/ H e = some (.own x)) (k : ∀ b u, b ≠ e -> s.heap.get? b = some u -> h'.get? b = some u) (heo : ∃ u, h'.get? e = some u)
  (new : ObjOk X.prog X.w (upd H x o) h' x o) : Inv X pins σ (upd H x o) { s with heap := h', toks := t' } := I.un (Un.write mu he k heo) (I.hok.write mu he k heo new)
theorem Inv.pins_of {pins' : List (Addr × Obj)} (I : Inv X pins σ H s) (h : ∀ p ∈ pins', s.heap.get? p.1 = some p.2 /\ H p.1 = none /\ p.1 ≠ X.env.locals /\ p.1 ∉ X.fs /\ ∀ v, p.2.data ≠ .cell v) : Inv X pins' σ H s :=
 ⟨I.ok, I.os, I.bare, I.base, I.loc, I.cell, I.free, I.freeC, fun p hp => (aop.mp hp).elim (fun z => I.pin p (apg _ z)) (h p), I.hok, I.len⟩
theorem adw {N : List Str} (hN : N.Nodup) {i j : Nat} {x : Str} (a : N[i]? = some x) (b : N[j]? = some x) : i = j := by
 obtain ⟨h1, e1⟩ := anT.mp a
 obtain ⟨h2, e2⟩ := anT.mp b
 exact (aqY hN).mp (e1.trans e2.symm)
theorem abW {M : Model} {A : Around} {E : Value -> Shared -> Prop} {i : Nat} {x : Str} {v : V} {u : Value} {Q : Unit -> Shared -> Prop} (I : Inv X pins σ H s) (hN : X.N.Nodup) (hi : X.N[i]? = some x) (hx : Loc X.env.scope x) (r : RelV v u)
  (h : ∀ s', Inv X pins (σ.set i (some v)) H s' -> (∃ a, apX a s.heap s'.heap /\ (a = X.env.locals \/ X.env.cells.lookup x = some a)) -> Q () s') (hf : X.fn x = true \/ X.env.scope.names.lookup x = some .local := by first | exact .inl rfl | exact .inr rfl | assumption) : wpAny M A (storeName X.env x u) Q E s := by
 obtain ⟨m, hn, hl⟩ := id I.loc
 have hcls : (X.env.scope.kind == .class || (X.env.scope.kind == .module && X.env.locals != X.env.globals)) = false := by rw [I.ok.kind]; rfl
 have hiσ : i < σ.length := by rw [I.len]; exact (anT.mp hi).1
 have cne := I.cne
 have tracked : ∀ {a : Addr} {h' : Heap}, (∃ o, s.heap.get? a = some o /\ H a = none) -> apX a s.heap h' -> HOk X.prog X.w H h' := fun {a h'} ha hs b ob e => by
  obtain ⟨_, _, hfree⟩ := ha
  refine (I.hok b ob e).stay (fun c w' hc q => (hs.2 c ?_).trans q) (fun _ q => q) fun _ _ q => q
  rintro rfl
  rcases hc with rfl | hc
  ·rw [hfree] at e; cases e
  ·rw [hfree] at hc; cases hc
 rcases hx with hk | hk
 ·refine wpAny_storeName_local hk hn (fun h' hn' hs => ?_) hcls
  obtain ⟨oL, _, _, hoL, _⟩ := id hn
  refine h _ ⟨I.ok, I.os, I.bare, ⟨fun b o e n hb hx => ?_, fun b o e n hb hx => ?_, I.base.free, fun b o e hx => ?_, I.base.tups, I.base.frzs, I.base.tbls⟩, ⟨_, hn', fun j y v' e1 e2 e3 => ?_⟩, fun y c e => ?_, I.free, I.freeC, fun p hp => ?_, tracked ⟨oL, hoL, I.free⟩ hs, by simpa using I.len⟩ ⟨_, hs, .inl rfl⟩
  ·exact (hs.2 b (aoB (aow (aoc e) I.ok.above))).trans (I.base.keep b o e n hb hx)
  ·obtain ⟨sl, e1⟩ := I.base.slot b o e n hb hx
   exact ⟨sl, (hs.2 b (aoB (aow (aoc e) I.ok.above))).trans e1⟩
  ·obtain ⟨o', e1⟩ := I.base.there b o e hx
   exact ⟨o', (hs.2 b (aoB (aow (aoc e) I.ok.above))).trans e1⟩
  ·by_cases hj : j = i
   ·subst hj
    rw [hi] at e1; cases e1
    rw [apk hiσ] at e2
    cases e2
    exact ⟨u, r, .inl ⟨hk, by simp⟩⟩
   ·rw [apY (ape hj)] at e2
    obtain ⟨u', r', q⟩ := hl j y v' e1 e2 e3
    refine ⟨u', r', ?_⟩
    rcases q with ⟨k, e⟩ | ⟨k, c, e, z⟩
    ·refine .inl ⟨k, ?_⟩
     have : y ≠ x := fun e => hj (adw hN e1 (e ▸ hi))
     simp [this, e]
    ·exact .inr ⟨k, c, e, z.sameBut hs (cne y c e)⟩
  ·obtain ⟨w', z⟩ := I.cell y c e
   exact ⟨w', z.sameBut hs (cne y c e)⟩
  ·obtain ⟨e, n, ne, nf, d⟩ := I.pin p hp
   exact ⟨(hs.2 p.1 ne).trans e, n, ne, nf, d⟩
 ·have hfn : X.fn x = true := by
   rcases hf with z | z
   ·exact z
   ·rw [z] at hk; cases hk
  obtain ⟨c, hc⟩ := I.ok.has x (.inl hk)
  obtain ⟨w', z⟩ := I.cell x c hc
  refine wpAny_storeName_cell I.ok.kind hk hc z (fun h' hc' hs => ?_)
  obtain ⟨oc, hoc, hocd⟩ := id z
  refine h { s with heap := h' } ⟨I.ok, I.os, I.bare, ⟨fun b o e n hb hx => ?_, fun b o e n hb hx => ?_, I.base.free, fun b o e hx => ?_, I.base.tups, I.base.frzs, I.base.tbls⟩, ⟨m, hn.sameBut hs (ape (cne x c hc)), fun j y v' e1 e2 e3 => ?_⟩, fun y c' e => ?_, I.free, I.freeC, fun p hp => ?_, tracked ⟨oc, hoc, I.freeC x c hc⟩ hs, by simpa using I.len⟩ ⟨c, hs, .inr hc⟩
  ·exact (hs.2 b (aoB (aow (aoc e) (I.ok.cab x c hfn hc)))).trans (I.base.keep b o e n hb hx)
  ·obtain ⟨sl, e1⟩ := I.base.slot b o e n hb hx
   exact ⟨sl, (hs.2 b (aoB (aow (aoc e) (I.ok.cab x c hfn hc)))).trans e1⟩
  ·obtain ⟨o', e1⟩ := I.base.there b o e hx
   exact ⟨o', (hs.2 b (aoB (aow (aoc e) (I.ok.cab x c hfn hc)))).trans e1⟩
  ·by_cases hj : j = i
   ·subst hj
    rw [hi] at e1; cases e1
    rw [apk hiσ] at e2
    cases e2
    exact ⟨u, r, .inr ⟨.inl hk, c, hc, hc'⟩⟩
   ·rw [apY (ape hj)] at e2
    obtain ⟨u', r', q⟩ := hl j y v' e1 e2 e3
    refine ⟨u', r', ?_⟩
    rcases q with q | ⟨k, c', e, z'⟩
    ·exact .inl q
    ·refine .inr ⟨k, c', e, z'.sameBut hs ?_⟩
     rintro rfl
     exact hj (adw hN e1 (I.ok.inj _ _ _ e hc ▸ hi))
  ·by_cases hcc : c' = c
   ·subst hcc; exact ⟨_, hc'⟩
   ·obtain ⟨w2, z2⟩ := I.cell y c' e
    exact ⟨w2, z2.sameBut hs hcc⟩
  ·obtain ⟨e, n, ne, nf, d⟩ := I.pin p hp
   refine ⟨(hs.2 p.1 ?_).trans e, n, ne, nf, d⟩
   intro q
   rw [q, hoc] at e
   have q' : oc = p.2 := Option.some.inj e
   exact d w' (by rw [<- q']; exact hocd)
theorem adx {M : Model} {A : Around} {E : Value -> Shared -> Prop} {i : Nat} {x : Str} {v : V} {u : Value} {Q : Unit -> Shared -> Prop} (I : Inv X pins σ H s) (hN : X.N.Nodup) (hi : X.N[i]? = some x) (hx : Loc X.env.scope x) (r : RelV v u)
  (h : ∀ s', Inv X pins (σ.set i (some v)) H s' -> Q () s') (hf : X.fn x = true \/ X.env.scope.names.lookup x = some .local := by first | exact .inl rfl | exact .inr rfl | assumption) : wpAny M A (storeName X.env x u) Q E s :=
 abW I hN hi hx r (fun s' I' _ => h s' I') hf
theorem Inv.call' {s' : Shared} {ch : List Addr} (I : Inv X pins σ H s) (ho : s'.os = s.os) (u : Un (frs X.stack) ch H H' s.heap s'.heap) (hok : HOk X.prog X.w H' s'.heap) (hg : AllBare s'.gens)
  (hch : ∀ b ∈ ch, (b ∈ X.ex \/ X.s₀.heap.objs.size <= b) /\ b ≠ X.env.locals /\ (∀ x c, X.env.cells.lookup x = some c -> c ≠ b) /\ ∀ p ∈ X.pn ++ pins, p.1 ≠ b) : Inv X pins σ H' s' := by
 obtain ⟨h', g', d', t', o'⟩ := s'
 have e : o' = s.os := ho
 subst e
 exact I.call (g' := g') (t' := t') (d' := d') u hok hg hch
end
abbrev XK := Value -> Option Addr -> Hp -> Prop
abbrev St := List (Option V)
abbrev VK := V -> Hp -> Prop
abbrev TE := St -> Hp -> VK -> Prop
abbrev TT := St -> Hp -> (Bool -> Hp -> Prop) -> Prop
abbrev TA := St -> Hp -> (List V -> Hp -> Prop) -> Prop
structure Ends where
 nx : St -> Hp -> Prop
 rt : VK
 bk : St -> Hp -> Prop := fun _ _ => False
 ct : St -> Hp -> Prop := fun _ _ => False
abbrev TS := Ends -> St -> Hp -> Prop
def EP (X : Cx) (pins : List (Addr × Obj)) (σ : St) (Q : VK) (u : Value) (s' : Shared) : Prop := ∃ v H', Inv X pins σ H' s' /\ RelV v u /\ Q v H'
def TP (X : Cx) (pins : List (Addr × Obj)) (σ : St) (Q : Bool -> Hp -> Prop) (b : Bool) (s' : Shared) : Prop := ∃ H', Inv X pins σ H' s' /\ Q b H'
def AP (X : Cx) (pins : List (Addr × Obj)) (σ : St) (Q : List V -> Hp -> Prop) (us : List Value) (s' : Shared) : Prop := ∃ vs H', Inv X pins σ H' s' /\ Vals vs us /\ Q vs H'
def SP (X : Cx) (pins : List (Addr × Obj)) (D : Ends) (f : Flow) (s' : Shared) : Prop :=
 match f with
 | .next => ∃ σ' H', Inv X pins σ' H' s' /\ D.nx σ' H'
 | .brk => ∃ σ' H', Inv X pins σ' H' s' /\ D.bk σ' H'
 | .cont => ∃ σ' H', Inv X pins σ' H' s' /\ D.ct σ' H'
 | .ret u => ∃ v σ' H', Inv X pins σ' H' s' /\ RelV v u /\ D.rt v H'
def PE (X : Cx) (e : Expr) (t : TE) : Prop :=
 ∀ (pins : List (Addr × Obj)) (s : Shared) (σ : St) (H : Hp) (Q : VK), Inv X pins σ H s -> t σ H Q -> wpAny (model X.prog X.w) X.A (eval e X.env) (EP X pins σ Q) X.xe s
def PT (X : Cx) (e : Expr) (t : TT) : Prop :=
 ∀ (pins : List (Addr × Obj)) (s : Shared) (σ : St) (H : Hp) (Q : Bool -> Hp -> Prop), Inv X pins σ H s -> t σ H Q -> wpAny (model X.prog X.w) X.A (isTrue e X.env (eval e X.env)) (TP X pins σ Q) X.xe s
def PW (X : Cx) (e : Expr) (t : TT) : Prop :=
 ∀ (whole : Sem Value) (pins : List (Addr × Obj)) (s : Shared) (σ : St) (H : Hp) (Q : Bool -> Hp -> Prop), Inv X pins σ H s -> t σ H Q -> wpAny (model X.prog X.w) X.A (isTrue e X.env whole) (TP X pins σ Q) X.xe s
theorem PW.pt {X : Cx} {e : Expr} {t : TT} (h : PW X e t) : PT X e t := h _
def PA (X : Cx) (es : List Expr) (t : TA) : Prop :=
 ∀ (pos : Pos) (pins : List (Addr × Obj)) (s : Shared) (σ : St) (H : Hp) (Q : List V -> Hp -> Prop), Inv X pins σ H s -> t σ H Q -> wpAny (model X.prog X.w) X.A (spliced (backTo pos (starEach es X.env))) (AP X pins σ Q) X.xe s
def PS (X : Cx) (st : Stmt) (t : TS) : Prop :=
 ∀ (pins : List (Addr × Obj)) (s : Shared) (σ : St) (H : Hp) (D : Ends), Inv X pins σ H s -> t D σ H -> wpAny (model X.prog X.w) X.A (exec st X.env) (SP X pins D) X.xe s
def PSs (X : Cx) (st : List Stmt) (t : TS) : Prop :=
 ∀ (pins : List (Addr × Obj)) (s : Shared) (σ : St) (H : Hp) (D : Ends), Inv X pins σ H s -> t D σ H -> wpAny (model X.prog X.w) X.A (execs st X.env) (SP X pins D) X.xe s
theorem thn {α : Type} {t : Sem α} {Q Q' : α -> Shared -> Prop} {M : Model} {A : Around} {E : Value -> Shared -> Prop} {s : Shared} (h : wpAny M A t Q E s) (hQ : ∀ a s, Q a s -> Q' a s) : wpAny M A t Q' E s := wpAny_mono h hQ fun _ _ x => x
end L2
namespace L2
open PySem PySem.Spec PyProof.Rows
section
variable {X : Cx}
def yb (i : Nat) : TE := fun σ H Q => ∃ v, σ[i]? = some (some v) /\ Q v H
def tC (v : V) : TE := fun _ H Q => Q v H
theorem alU {i : Nat} {x : Str} {pos : Pos} (hN : X.N[i]? = some x) (hv : Vis X.env.scope x) (hd : (x == ("__debug__" : Str)) = false := by decide) (hcd : (x == ("__classdict__" : Str)) = false := by decide) : PE X (.Name x pos) (yb i) := by
 intro pins s σ H Q I h
 obtain ⟨v, e, h⟩ := h
 obtain ⟨m, hn, hl⟩ := I.loc
 obtain ⟨u, r, l⟩ := hl i x v hN e hv
 have fin : EP X pins σ Q u s := ⟨v, H, I, r, h⟩
 rcases l with ⟨hk, hm⟩ | ⟨hk, c, hc, hcell⟩
 ·exact wpAny_Name (wpAny_loadName_local I.ok.kind hk hn hm fin) hd
 ·rcases hk with hk | hk
  ·exact wpAny_Name (wpAny_loadName_cell I.ok.kind hk hc hcell fin) hd
  ·exact wpAny_Name (wpAny_loadName_free I.ok.kind hk hc hcell fin hcd) hd
theorem zj {i j pos} : PE X (.Constant (.int i) j pos) (tC (.int i)) := fun _ _ _ H _ I h => wpAny_Constant_int ⟨.int i, H, I.tok _, ⟨_, rfl⟩, h⟩
theorem qy {b j pos} : PE X (.Constant (.bool b) j pos) (tC (.bl b)) := fun _ _ _ H _ I h => Constant_bool ⟨.bl b, H, I, rfl, h⟩
theorem vU {j pos} : PE X (.Constant .none j pos) (tC .non) := fun _ _ _ H _ I h => Constant_none ⟨.non, H, I, rfl, h⟩
theorem y3 {x j pos} : PE X (.Constant (.str x) j pos) (tC (.str x)) := fun _ _ _ H _ I h => Calls.Constant_str ⟨.str x, H, I.tok _, ⟨_, rfl⟩, h⟩
def Gl (X : Cx) (x : Str) : Prop := X.env.kindOf x = some .globalImplicit
theorem acB {E : Value -> Shared -> Prop} {pins : List (Addr × Obj)} {s : Shared} {σ : St} {H : Hp} {x : Str} {u : Value} {pos : Pos} {Q : Value -> Shared -> Prop} (I : Inv X pins σ H s) (hg : Gl X x) (hm : X.mg x = some u) (h : Q u s)
  (hd : (x == ("__debug__" : Str)) = false := by decide) : wpAny (model X.prog X.w) X.A (eval (.Name x pos) X.env) Q E s :=
 aro I.ok.kind hg (Calls.loadGlobal_global (by rw [I.ok.glob]; exact I.mod.glob.keeps I.bk) hm h) hd
theorem qc {E : Value -> Shared -> Prop} {pins : List (Addr × Obj)} {s : Shared} {σ : St} {H : Hp} {x : Str} {u : Value} {pos : Pos} {Q : Value -> Shared -> Prop} (I : Inv X pins σ H s) (hg : Gl X x) (hm : X.mg x = none) (hv : bootBuiltins x = some u) (h : Q u s)
  (hn : x ≠ "__name__" := by decide) (hd : (x == ("__debug__" : Str)) = false := by decide) : wpAny (model X.prog X.w) X.A (eval (.Name x pos) X.env) Q E s := by
 obtain ⟨mb, h1, h2⟩ := I.mod.blt
 exact aro I.ok.kind hg (Calls.loadGlobal_builtin (by rw [I.ok.glob]; exact I.mod.glob.keeps I.bk) hm (by rw [I.ok.blt]; exact h1.keeps I.bk) ((h2 x hn).trans hv) h) hd
theorem aj0 {x : Str} {v : V} {u : Value} {pos : Pos} (hg : Gl X x) (hm : X.mg x = some u) (r : RelV v u) (hd : (x == ("__debug__" : Str)) = false := by decide) : PE X (.Name x pos) (tC v) :=
 fun _ _ _ H _ I h => acB I hg hm ⟨v, H, I, r, h⟩ hd
theorem aj1 {x : Str} {v : V} {u : Value} {pos : Pos} (hg : Gl X x) (hm : X.mg x = none) (hv : bootBuiltins x = some u) (r : RelV v u) (hn : x ≠ "__name__" := by decide) (hd : (x == ("__debug__" : Str)) = false := by decide) : PE X (.Name x pos) (tC v) :=
 fun _ _ _ H _ I h => qc I hg hm hv ⟨v, H, I, r, h⟩ hn hd
variable {a b : Expr} {ta tb : TE} {pos : Pos}
def tB (t : TE) : TT := fun σ H Q => t σ H fun x H1 => ∃ c, x = .bl c /\ Q c H1
variable {tA tB' : TT} {rest : List Expr}
def anb (t u : TT) : TT := fun σ H Q => t σ H fun c H1 => if c = true then u σ H1 Q else Q false H1
def tOr (t u : TT) : TT := fun σ H Q => t σ H fun c H1 => if c = true then Q true H1 else u σ H1 Q
def anc (t : TT) : TT := fun σ H Q => t σ H fun c H1 => Q (!c) H1
theorem aj2 (ha : PT X a tA) : PW X (.BoolOp .And [a] pos) tA := by
 intro wh pins s σ H Q I h
 refine isTrue_and (thn (ha pins s σ H Q I h) fun c s1 e => ?_)
 cases c with
 | true => exact isTrue_and_nil e
 | false => exact e
theorem aaU (ha : PT X a tA) : PW X (.BoolOp .Or [a] pos) tA := by
 intro wh pins s σ H Q I h
 refine isTrue_or (thn (ha pins s σ H Q I h) fun c s1 e => ?_)
 cases c with
 | false => exact isTrue_or_nil e
 | true => exact e
theorem alV (ha : PT X a tA) (hb : PW X (.BoolOp .And (b :: rest) pos) tB') : PW X (.BoolOp .And (a :: b :: rest) pos) (anb tA tB') := by
 intro wh pins s σ H Q I h
 refine isTrue_and (thn (ha pins s σ H _ I h) fun c s1 ⟨H1, I1, q1⟩ => ?_)
 cases c with
 | true => exact hb wh pins s1 σ H1 Q I1 q1
 | false => exact ⟨H1, I1, q1⟩
theorem abX (ha : PT X a tA) (hb : PW X (.BoolOp .Or (b :: rest) pos) tB') : PW X (.BoolOp .Or (a :: b :: rest) pos) (tOr tA tB') := by
 intro wh pins s σ H Q I h
 refine isTrue_or (thn (ha pins s σ H _ I h) fun c s1 ⟨H1, I1, q1⟩ => ?_)
 cases c with
 | true => exact ⟨H1, I1, q1⟩
 | false => exact hb wh pins s1 σ H1 Q I1 q1
theorem qd (ha : PT X a tA) : PT X (.UnaryOp .Not a pos) (anc tA) := by
 intro pins s σ H Q I h
 exact isTrue_not (ha pins s σ H (fun c H1 => Q (!c) H1) I h)
def alq (ta tb : TE) : TE := fun σ H Q => ta σ H fun x H1 => ∃ c, x = .bl c /\ if c = true then tb σ H1 Q else Q (.bl false) H1
def alr (ta : TE) : TE := fun σ H Q => ta σ H fun x H1 => ∃ c, x = .bl c /\ Q (.bl (!c)) H1
theorem vV {op} {t : TE} (h : PE X a t) : PE X (.BoolOp op [a] pos) t := fun pins s σ H Q I hw => BoolOp_one (h pins s σ H Q I hw)
theorem vi (ha : PE X a ta) (hb : PE X (.BoolOp .And (b :: rest) pos) tb) : PE X (.BoolOp .And (a :: b :: rest) pos) (alq ta tb) := by
 intro pins s σ H Q I h
 refine BoolOp_and (thn (ha pins s σ H _ I h) fun v s1 ⟨x, H1, I1, r1, q1⟩ => ?_)
 obtain ⟨c, rfl, q1⟩ := q1
 cases r1
 refine wpAny_truthy_bool ?_
 cases c with
 | true => exact hb pins s1 σ H1 Q I1 q1
 | false => exact ⟨.bl false, H1, I1, rfl, q1⟩
theorem alW (ha : PE X a ta) : PE X (.UnaryOp .Not a pos) (alr ta) := by
 intro pins s σ H Q I h
 refine UnaryOp_ (thn (ha pins s σ H _ I h) fun v s1 ⟨x, H1, I1, r1, q1⟩ => ?_)
 obtain ⟨c, rfl, q1⟩ := q1
 cases r1
 exact not_of (wpAny_truthy_bool ⟨.bl (!c), H1, I1, rfl, q1⟩)
def tIf (t : TT) (ta tb : TE) : TE := fun σ H Q => t σ H fun c H1 => if c = true then ta σ H1 Q else tb σ H1 Q
theorem qz {c : Expr} (hc : PT X c tA) (ha : PE X a ta) (hb : PE X b tb) : PE X (.IfExp c a b pos) (tIf tA ta tb) := by
 intro pins s σ H Q I h
 refine wpAny_IfExp (thn (hc pins s σ H _ I h) fun d s1 ⟨H1, I1, q1⟩ => ?_)
 cases d with
 | true => exact ha pins s1 σ H1 Q I1 q1
 | false => exact hb pins s1 σ H1 Q I1 q1
end
end L2
namespace L2
open PySem PySem.Spec PyProof.Rows
def SqL (K : anS) (H : Hp) (a : Addr) (xs : List V) : Prop :=
 Rd H a (.lst xs) \/
  ∃ (o : Obj) (its : Array Value) (n : Nat), K.lookup a = some o /\ o.cls = .type "list" /\ o.dict = none /\ o.data = .seq its n /\ its.size <= sizeLine /\ Vals xs its.toList
def SqT (K : anS) (H : Hp) (a : Addr) (xs : List V) : Prop :=
 Rd H a (.tup xs) \/
  ∃ (o : Obj) (its : Array Value) (n : Nat), K.lookup a = some o /\ o.cls = .type "tuple" /\ o.data = .seq its n /\ its.size <= sizeLine /\ Vals xs its.toList
def anI : Value -> Option V
 | .none => some .non
 | .bool b => some (.bl b)
 | .int i _ => some (.int i)
 | .str x _ => some (.str x)
 | .bytes b _ => some (.byt b)
 | .float b _ => some (.flt b)
 | .ref a => some (.ref a)
 | .type n => some (.ty n)
 | _ => none
theorem RelV.abs {x : V} {u : Value} (r : RelV x u) : anI u = some x := by
 cases x with
 | non => cases r; rfl
 | bl _ => cases r; rfl
 | int _ => obtain ⟨t, rfl⟩ := r; rfl
 | str _ => obtain ⟨t, rfl⟩ := r; rfl
 | byt _ => obtain ⟨t, rfl⟩ := r; rfl
 | flt _ => obtain ⟨t, rfl⟩ := r; rfl
 | ref _ => cases r; rfl
 | ty _ => cases r; rfl
theorem RelV.inj {x y : V} {u : Value} (r : RelV x u) (q : RelV y u) : x = y := Option.some.inj (r.abs.symm.trans q.abs)
theorem Vals.inj : ∀ {xs ys : List V} {us : List Value}, Vals xs us -> Vals ys us -> xs = ys
 | _, _, _, .nil, .nil => rfl
 | _, _, _, .cons r t, .cons r' t' => by rw [r.inj r', Vals.inj t t']
section
variable {X : Cx} {pins : List (Addr × Obj)} {σ : St} {H : Hp} {s : Shared} {a : Addr} {xs ys : List V}
theorem SqL.of {K : anS} (h : H a = some (.lst xs)) : SqL K H a xs := .inl (.inl h)
theorem SqT.of {K : anS} (h : H a = some (.tup xs)) : SqT K H a xs := .inl (.inl h)
theorem Inv.list (I : Inv X pins σ H s) (h : SqL X.K H a xs) : ∃ its : List Value, Vals xs its /\ PlainL s.heap a its.toArray /\ xs.length <= sizeLine := by
 rcases h with h | ⟨o, its, n, hk, hc, hd, hs, hz, r⟩
 ·obtain ⟨z, its, n, r, e⟩ := h.ok I.hok
  exact ⟨its, r, ⟨_, n, e, rfl, rfl, rfl⟩, z⟩
 ·refine ⟨its.toList, r, ⟨o, n, I.kIn a o hk, hc, hd, by simpa using hs⟩, ?_⟩
  have e := r.length
  simp only [aok] at e
  omega
theorem Inv.tuple (I : Inv X pins σ H s) (h : SqT X.K H a xs) : ∃ its : List Value, Vals xs its /\ IsTup s.heap a its.toArray /\ xs.length <= sizeLine := by
 rcases h with h | ⟨o, its, n, hk, hc, hs, hz, r⟩
 ·obtain ⟨z, its, r, p⟩ := h.ok I.hok
  exact ⟨its, r, p, z⟩
 ·refine ⟨its.toList, r, ⟨o, I.kIn a o hk, hc, n, by simpa using hs⟩, ?_⟩
  have e := r.length
  simp only [aok] at e
  omega
theorem Inv.list_inj (I : Inv X pins σ H s) (h : SqL X.K H a xs) (h' : SqL X.K H a ys) : xs = ys := by
 obtain ⟨its, r, ⟨o, n, e, _, _, d⟩, _⟩ := I.list h
 obtain ⟨its', r', ⟨o', n', e', _, _, d'⟩, _⟩ := I.list h'
 rw [e] at e'; cases e'
 rw [d] at d'
 injection d' with d1 _
 have : its = its' := by simpa using congrArg Array.toList d1
 subst this
 exact r.inj r'
theorem Inv.tuple_inj (I : Inv X pins σ H s) (h : SqT X.K H a xs) (h' : SqT X.K H a ys) : xs = ys := by
 obtain ⟨its, r, ⟨o, e, _, n, d⟩, _⟩ := I.tuple h
 obtain ⟨its', r', ⟨o', e', _, n', d'⟩, _⟩ := I.tuple h'
 rw [e] at e'; cases e'
 rw [d] at d'
 injection d' with d1 _
 have : its = its' := by simpa using congrArg Array.toList d1
 subst this
 exact r.inj r'
end
abbrev Cx.wish (X : Cx) (E : Value -> Shared -> Prop) : Cx := { X with xe := E }
abbrev Cx.nox (X : Cx) : Cx := X.wish fun _ _ => False
theorem Cx.Ok.wish {X : Cx} (ok : X.Ok) (E : Value -> Shared -> Prop) : (X.wish E).Ok :=
 ⟨ok.mod, ok.kind, ok.glob, ok.blt, ok.above, ok.inj, ok.has, ok.cab, ok.hd, ok.frames, ok.stk, ok.exf, ok.bs, ok.bsz, ok.noex, ok.exfs, ok.funs, ok.frf⟩
theorem Cx.Ok.unwish {X : Cx} {E : Value -> Shared -> Prop} (ok : (X.wish E).Ok) : X.Ok :=
 ⟨ok.mod, ok.kind, ok.glob, ok.blt, ok.above, ok.inj, ok.has, ok.cab, ok.hd, ok.frames, ok.stk, ok.exf, ok.bs, ok.bsz, ok.noex, ok.exfs, ok.funs, ok.frf⟩
section
variable {X : Cx} {pins : List (Addr × Obj)} {σ : St} {H : Hp} {s : Shared} {E : Value -> Shared -> Prop}
theorem Inv.wish (I : Inv X pins σ H s) (E : Value -> Shared -> Prop) : Inv (X.wish E) pins σ H s := ⟨I.ok.wish E, I.os, I.bare, I.base, I.loc, I.cell, I.free, I.freeC, I.pin, I.hok, I.len⟩
theorem Inv.unwish (I : Inv (X.wish E) pins σ H s) : Inv X pins σ H s := ⟨I.ok.unwish, I.os, I.bare, I.base, I.loc, I.cell, I.free, I.freeC, I.pin, I.hok, I.len⟩
theorem SP.unwish {D : Ends} {f : Flow} {s' : Shared} (h : SP (X.wish E) pins D f s') : SP X pins D f s' := by
 cases f with
 | next => obtain ⟨σ', H', I, q⟩ := h; exact ⟨σ', H', I.unwish, q⟩
 | brk => obtain ⟨σ', H', I, q⟩ := h; exact ⟨σ', H', I.unwish, q⟩
 | cont => obtain ⟨σ', H', I, q⟩ := h; exact ⟨σ', H', I.unwish, q⟩
 | ret u => obtain ⟨v, σ', H', I, r, q⟩ := h; exact ⟨v, σ', H', I.unwish, r, q⟩
theorem PSs.nox {st : List Stmt} {t : TS} (h : PSs X.nox st t) : PSs X st t := fun pins s σ H D I hw =>
 wpAny_mono (h pins s σ H D (I.wish _) hw) (fun _ _ q => q.unwish) fun _ _ z => aqe z
end
section
variable {X : Cx} {st : Stmt} {rest : List Stmt} {t u : TS} {e : Expr} {te : TE} {pos : Pos}
def afH : TS := fun D σ H => D.nx σ H
def vj (t u : TS) : TS := fun D σ H => t { D with nx := u D } σ H
theorem zK : PSs X [] afH := fun _ _ σ H _ I h => wpAny_execs_nil ⟨σ, H, I, h⟩
theorem zi (h1 : PS X st t) (h2 : PSs X rest u) : PSs X (st :: rest) (vj t u) := by
 intro pins s σ H D I h
 refine wpAny_execs_cons (thn (h1 pins s σ H { D with nx := u D } I h) fun f s1 q => ?_)
 cases f with
 | next =>
  obtain ⟨σ', H', I', q⟩ := q
  exact h2 pins s1 σ' H' D I' q
 | ret v => exact q
 | brk => exact q
 | cont => exact q
theorem zp (h1 : PS X st t) : PSs X [st] t := by
 intro pins s σ H D I h
 refine wpAny_execs_cons (thn (h1 pins s σ H D I h) fun f s1 q => ?_)
 cases f with
 | next => exact wpAny_execs_nil q
 | ret v => exact q
 | brk => exact q
 | cont => exact q
theorem Inv.quiet {pins : List (Addr × Obj)} {σ : St} {H : Hp} {s : Shared} (I : Inv X pins σ H s) : interactive X.env = false := by simp [interactive, I.ok.kind]
def aaV (te : TE) : TS := fun D σ H => te σ H fun _ H1 => D.nx σ H1
theorem y7 (he : PE X e te) (hs : swapsWith e none pos.line X.env = pure false := by rfl) : PS X (.Expr e pos) (aaV te) := by
 intro pins s σ H D I h
 exact wpAny_Expr_any (thn (he pins s σ H _ I h) fun v s1 ⟨x, H1, I1, r1, q1⟩ => ⟨σ, H1, I1, q1⟩) I.quiet hs
def aeJ (te : TE) : TS := fun D σ H => te σ H D.rt
theorem zB (he : PE X e te) : PS X (.Return (some e) pos) (aeJ te) := by
 intro pins s σ H D I h
 exact wpAny_Return_some (thn (he pins s σ H _ I h) fun v s1 ⟨x, H1, I1, r1, q1⟩ => ⟨x, σ, H1, I1, r1, q1⟩)
def agW (c : TT) (t u : TS) : TS := fun D σ H => c σ H fun b H1 => if b = true then t D σ H1 else u D σ H1
theorem z8 {c : Expr} {a b : List Stmt} {tc : TT} (hc : PT X c tc) (ha : PSs X a t) (hb : PSs X b u) : PS X (.If c a b pos) (agW tc t u) := by
 intro pins s σ H D I h
 refine wpAny_If (thn (hc pins s σ H _ I h) fun d s1 ⟨H1, I1, q1⟩ => ?_)
 cases d with
 | true => exact ha pins s1 σ H1 D I1 q1
 | false => exact hb pins s1 σ H1 D I1 q1
def alX : TS := fun _ _ _ => False
theorem ady : PS X st alX := fun _ _ _ _ _ _ h => h.elim
end
abbrev TG := V -> St -> Hp -> (St -> Hp -> Prop) -> Prop
abbrev TGs := List V -> St -> Hp -> (St -> Hp -> Prop) -> Prop
def PG (X : Cx) (target : Expr) (t : TG) : Prop :=
 ∀ (pins : List (Addr × Obj)) (s : Shared) (σ : St) (H : Hp) (v : V) (u : Value) (Q : St -> Hp -> Prop), Inv X pins σ H s -> RelV v u -> t v σ H Q ->
  wpAny (model X.prog X.w) X.A (assign target X.env u) (fun _ s' => ∃ σ' H', Inv X pins σ' H' s' /\ Q σ' H') X.xe s
def PGs (X : Cx) (ts : List Expr) (t : TGs) : Prop :=
 ∀ (pins : List (Addr × Obj)) (s : Shared) (σ : St) (H : Hp) (vs : List V) (us : List Value) (Q : St -> Hp -> Prop), Inv X pins σ H s -> Vals vs us -> t vs σ H Q ->
  wpAny (model X.prog X.w) X.A (assignInOrder ((assignEach ts X.env).map (·.2)) us) (fun _ s' => ∃ σ' H', Inv X pins σ' H' s' /\ Q σ' H') X.xe s
abbrev alY := V -> V -> V -> Hp -> (Hp -> Prop) -> Prop
def aj3 (X : Cx) (t : alY) : Prop :=
 ∀ (pins : List (Addr × Obj)) (s : Shared) (σ : St) (H : Hp) (o i v : V) (ov iv u : Value) (Q : Hp -> Prop), Inv X pins σ H s -> RelV o ov -> RelV i iv -> RelV v u -> t o i v H Q ->
  wpAny (model X.prog X.w) X.A (setItem ov iv u) (fun _ s' => ∃ H', Inv X pins σ H' s' /\ Q H') X.xe s
section
variable {X : Cx} {pos : Pos}
def jy (i : Nat) : TG := fun v σ H Q => Q (σ.set i (some v)) H
theorem zt {i : Nat} {x : Str} (hN : X.N.Nodup) (hi : X.N[i]? = some x) (hx : Loc X.env.scope x) (hf : X.fn x = true \/ X.env.scope.names.lookup x = some .local := by first | exact .inl rfl | exact .inr rfl | assumption) : PG X (.Name x pos) (jy i) := by
 intro pins s σ H v u Q I r h
 exact wpAny_assign_Name (adx I hN hi hx r (fun s' I' => ⟨_, H, I', h⟩) hf)
def alZ : TGs := fun vs σ H Q => vs = [] /\ Q σ H
def afI (t : TG) (u : TGs) : TGs := fun vs σ H Q => ∃ v r, vs = v :: r /\ t v σ H fun σ' H' => u r σ' H' Q
theorem z3 : PGs X [] alZ := by
 intro pins s σ H vs us Q I r h
 obtain ⟨e, h⟩ := h
 subst e
 cases r
 exact assignInOrder_nil ⟨σ, H, I, h⟩
theorem zu {e : Expr} {es : List Expr} {t : TG} {u : TGs} (h1 : PG X e t) (h2 : PGs X es u)
  (hs : (assignEach (e :: es) X.env).map (·.2) = assign e X.env :: (assignEach es X.env).map (·.2) := by rfl) : PGs X (e :: es) (afI t u) := by
 intro pins s σ H vs us Q I r h
 obtain ⟨v, vr, e1, h⟩ := h
 subst e1
 cases r with
 | cons r rr =>
  rw [hs]
  refine assignInOrder_cons (thn (h1 pins s σ H _ _ _ I r h) fun _ s1 ⟨σ1, H1, I1, q1⟩ => ?_)
  exact h2 pins s1 σ1 H1 _ _ Q I1 rr q1
def aj4 (K : anS) (n : Nat) (t : TGs) : TG := fun v σ H Q => ∃ a xs, v = .ref a /\ SqT K H a xs /\ xs.length = n /\ t xs σ H Q
theorem al0 {es : List Expr} {k : Nat} {t : TGs} {n : Nat} (hc : X.calm = true) (h : PGs X es t)
  (hn : (assignEach es X.env).length = n := by rfl) (hst : (assignEach es X.env).findIdx? (·.1) = none := by rfl) : PG X (.Tuple es k pos) (aj4 X.K n t) := by
 intro pins s σ H v u Q I r hw
 obtain ⟨a, xs, e1, hq, hl, hw⟩ := hw
 subst e1
 cases r
 obtain ⟨its, rv, ht, hz⟩ := I.tuple hq
 refine assign_Tuple_tuple (I.ok.hd hc) ht (by simp [hn, <- hl, rv.length]) hst fun h' hx => ?_
 have I1 : Inv X pins σ H { s with heap := h' } := I.kept (t' := s.toks) fun b o e => hx b o (aoB (aoc e)) e
 exact h pins _ σ H xs _ Q I1 (by simpa using rv) hw
def aaW (to ti : TE) (t : alY) : TG := fun v σ H Q => to σ H fun o H1 => ti σ H1 fun i H2 => t o i v H2 fun H3 => Q σ H3
theorem jT {o i : Expr} {to ti : TE} {t : alY} (ho : PE X o to) (hi : PE X i ti) (hs : aj3 X t)
  (ha : ∀ v, assign (.Subscript o i pos) X.env v = (do
   let ov <- holding [v] (eval o X.env)
   let iv <- holding [v, ov] (eval i X.env)
   standAt pos
   holding [v, ov, iv] (setItem ov iv v)
   release [v, ov, iv] []) := by intro _; rfl) : PG X (.Subscript o i pos) (aaW to ti t) := by
 intro pins s σ H v u Q I r h
 rw [ha]
 refine wpAny_bind (wpAny_holding (thn (ho pins s σ H _ I h) fun ov s1 ⟨x, H1, I1, r1, q1⟩ => ?_))
 refine wpAny_bind (wpAny_holding (thn (hi pins s1 σ H1 _ I1 q1) fun iv s2 ⟨y, H2, I2, r2, q2⟩ => ?_))
 refine wpAny_bind (wpAny_standAt (wpAny_bind (wpAny_holding (thn (hs pins s2 σ H2 x y v ov iv u _ I2 r1 r2 r q2) fun _ s3 ⟨H3, I3, q3⟩ => ?_))))
 exact wpAny_release ⟨σ, H3, I3, q3⟩
def jE (te : TE) (g : TG) : TS := fun D σ H => te σ H fun x H1 => g x σ H1 D.nx
theorem yc {tg e : Expr} {te : TE} {g : TG} (he : PE X e te) (hg : PG X tg g) (hs : swapsWithSole [tg] e pos.line X.env = pure false := by rfl) (hw : swappedStores [tg] e X.env = pure none := by rfl)
  (h1 : (assignEach [tg] X.env).map (·.2) = [assign tg X.env] := by rfl) : PS X (.Assign [tg] e pos) (jE te g) := by
 intro pins s σ H D I h
 refine wpAny_Assign_stores (thn (he pins s σ H _ I h) fun v s1 ⟨x, H1, I1, r1, q1⟩ => ?_) hs hw
 rw [h1]
 exact thn (hg pins s1 σ H1 x v _ I1 r1 q1) fun _ s2 q => q
theorem zM {i : Nat} {x : Str} {e : Expr} {te : TE} {pos' : Pos} (hN : X.N.Nodup) (hi : X.N[i]? = some x) (hx : Loc X.env.scope x) (he : PE X e te) (hs : swapsWith e (some (.Name x pos')) pos.line X.env = pure false := by rfl) (hf : X.fn x = true \/ X.env.scope.names.lookup x = some .local := by first | exact .inl rfl | exact .inr rfl | assumption) :
  PS X (.Assign [.Name x pos'] e pos) (jE te (jy i)) := by
 intro pins s σ H D I h
 refine wpAny_Assign_Name (thn (he pins s σ H _ I h) fun v s1 ⟨y, H1, I1, r1, q1⟩ => ?_) hs
 exact adx I1 hN hi hx r1 (fun s2 I2 => ⟨_, H1, I2, q1⟩) hf
end
section
variable {X : Cx} {pos : Pos}
def ah7 (c : TT) (tb : TS) : TS := fun D σ H => ∃ W : Nat -> St -> Hp -> Prop, (∃ m, W m σ H) /\ ∀ m σ H, W m σ H ->
 c σ H fun b H1 => if b = true then ∃ N : St -> Hp -> Prop, (∀ σ' H', N σ' H' -> ∃ m', m' < m /\ W m' σ' H') /\ tb { D with nx := N, ct := N, bk := D.nx } σ H1 else D.nx σ H1
theorem adz {c : Expr} {body : List Stmt} {tc : TT} {tb : TS} (hp : PassesOwn (model X.prog X.w) X.A X.env X.xe) (hc : PT X c tc) (hb : PSs X body tb) : PS X (.While c body [] pos) (ah7 tc tb) := by
 intro pins s σ H D I h
 obtain ⟨W, ⟨m0, w0⟩, turn⟩ := h
 refine wpAny_While (codeAny_whileLoop (fun n s' => ∃ σ' H', Inv X pins σ' H' s' /\ W n σ' H') ?_ m0 ⟨σ, H, I, w0⟩)
 rintro n s1 ⟨σ1, H1, I1, w1⟩
 refine wpAny_passesOwn hp (thn (hc pins s1 σ1 H1 _ I1 (turn n σ1 H1 w1)) fun b s2 ⟨H2, I2, q2⟩ => ?_)
 cases b with
 | true =>
  obtain ⟨N, hN, q2⟩ := q2
  rw [if_pos rfl]
  refine wpAny_passesOwn hp (thn (hb pins s2 σ1 H2 _ I2 q2) fun f s3 q3 => ?_)
  cases f with
  | next =>
   obtain ⟨σ3, H3, I3, n3⟩ := q3
   obtain ⟨m', hm, w3⟩ := hN σ3 H3 n3
   exact ⟨m', hm, σ3, H3, I3, w3⟩
  | cont =>
   obtain ⟨σ3, H3, I3, n3⟩ := q3
   obtain ⟨m', hm, w3⟩ := hN σ3 H3 n3
   exact ⟨m', hm, σ3, H3, I3, w3⟩
  | brk => exact q3
  | ret v => exact q3
 | false =>
  rw [if_neg anR]
  exact wpAny_execs_nil ⟨σ1, H2, I2, q2⟩
end
structure It where
 go : Nat -> Hp -> Prop
 yld : Nat -> Hp -> V -> Hp -> Prop
 stop : Nat -> Hp -> Prop
def vz (X : Cx) (pins : List (Addr × Obj)) (H : Hp) (b : Addr) : Prop :=
 H b = none /\ b ≠ X.env.locals /\ b ∉ X.fs /\ (b ∈ X.ex \/ X.s₀.heap.objs.size <= b) /\ (∀ x c, X.env.cells.lookup x = some c -> c ≠ b) /\ ∀ p ∈ X.pn ++ pins, p.1 ≠ b
theorem Inv.fpOk {X : Cx} {pins : List (Addr × Obj)} {σ : St} {H H' : Hp} {s : Shared} {b : Addr} (I : Inv X pins σ H s) (hb : s.heap.objs.size <= b) (hn : H' b = none) : vz X pins H' b := by
 refine ⟨hn, apZ (aow I.lt hb), I.nofs hb, .inr (aou I.sz hb), fun x c e z => ?_, fun p hp z => ?_⟩
 ·obtain ⟨v, q⟩ := I.cell x c e
  exact absurd (aow q.lt (by rw [z]; exact hb)) (ao5 _)
 ·exact absurd (aow (aoc (I.pin p hp).1) (by rw [z]; exact hb)) (ao5 _)
structure Turn (P : Program) (w : World) (K : anS) (tg : Expr) (J : It) (fp : List Addr) (it : Addr) (tn : Nat -> Heap -> Prop) : Prop where
 mem : it ∈ fp
 obj : ∀ i h, tn i h -> ∀ b ∈ fp, ∃ o, h.get? b = some o /\ ∀ v, o.data ≠ .cell v
 keep : ∀ i h h', tn i h -> (∀ b ∈ fp, ∀ o, h.get? b = some o -> h'.get? b = some o) -> tn i h'
 item : ∀ (X : Cx), X.prog = P -> X.w = w -> X.K = K -> X.calm = true -> ∀ (i : Nat) (pins : List (Addr × Obj)) (s : Shared) (σ : St) (H : Hp) (E : Value -> Shared -> Prop), Inv X pins σ H s -> (∀ b ∈ fp, vz X pins H b) -> tn i s.heap -> J.go i H ->
  wpAny (model P w) X.A (pyNext (.ref it)) (fun r s1 => ∃ u, r = some u /\
   wpAny (model P w) X.A (letOwnedTupleGo tg (.ref it) u) (fun _ s2 => ∃ x H', Inv X pins σ H' s2 /\ RelV x u /\ J.yld i H x H' /\ tn (i + 1) s2.heap /\ ∀ b ∈ fp, H' b = none) E s1) E s
 done : ∀ (X : Cx), X.prog = P -> X.w = w -> X.K = K -> X.calm = true -> ∀ (i : Nat) (pins : List (Addr × Obj)) (s : Shared) (σ : St) (H : Hp) (E : Value -> Shared -> Prop), Inv X pins σ H s -> (∀ b ∈ fp, vz X pins H b) -> tn i s.heap -> J.stop i H ->
  wpAny (model P w) X.A (pyNext (.ref it)) (fun r s1 => r = none /\ Inv X pins σ H s1) E s
 self : ∀ (A : Around) (i : Nat) (s : Shared) (Q : Value -> Shared -> Prop) (E : Value -> Shared -> Prop), tn i s.heap -> Q (.ref it) s -> wpAny (model P w) A (pyIter (.ref it)) Q E s
abbrev TI := St -> Hp -> (It -> Hp -> Prop) -> Prop
def PIE (X : Cx) (pins : List (Addr × Obj)) (σ : St) (tg : Expr) (R : It -> Hp -> Prop) (itv : Value) (s2 : Shared) : Prop :=
 ∃ (it : Addr) (fp : List Addr) (tn : Nat -> Heap -> Prop) (J : It) (H' : Hp), itv = .ref it /\ Inv X pins σ H' s2 /\ Turn X.prog X.w X.K tg J fp it tn /\ tn 0 s2.heap /\ (∀ b ∈ fp, vz X pins H' b) /\ R J H'
def PI (X : Cx) (tg iter : Expr) (wi : TI) : Prop :=
 ∀ (pins : List (Addr × Obj)) (s : Shared) (σ : St) (H : Hp) (R : It -> Hp -> Prop), Inv X pins σ H s -> wi σ H R ->
  wpAny (model X.prog X.w) X.A (eval iter X.env) (fun v s1 => wpAny (model X.prog X.w) X.A (pyIter v) (PIE X pins σ tg R) X.xe s1) X.xe s
theorem ah8 {M : Model} {A : Around} {E : Value -> Shared -> Prop} {s : Shared} {tg : Expr} {it : Addr} {u : Value} {o : Obj} {n : String} {vs : Array Value} {Q : Unit -> Shared -> Prop} (ho : s.heap.get? it = some o) (hc : o.cls = .type n) (hd : o.data = .fields vs)
  (hn : ["enumerate", "zip", "dict_itemiterator", "dict_reverseitemiterator", "odict_iterator", "itertools.zip_longest", "itertools.pairwise"].contains n = false) (hQ : Q () s) : wpAny M A (letOwnedTupleGo tg (.ref it) u) Q E s := by
 unfold letOwnedTupleGo
 cases tg <;> first
  | exact wpAny_pure hQ
  | (cases u <;> first
    | exact wpAny_pure hQ
    | (refine wpAny_bind (wpAny_load ho ?_)
       rw [hc, hd]
       show wpAny M A (if (["enumerate", "zip", "dict_itemiterator", "dict_reverseitemiterator", "odict_iterator", "itertools.zip_longest", "itertools.pairwise"].contains n && vs[0]? == some (rawInt _)) = true then _ else _) Q E s
       rw [if_neg (by intro h; rw [hn, apJ] at h; cases h)]
       exact wpAny_pure hQ))
def Itl (K : anS) (a : Addr) : It :=
 ⟨fun i H => ∃ xs x, SqL K H a xs /\ xs[i]? = some x, fun i H x H' => H' = H /\ ∀ xs, SqL K H a xs -> xs[i]? = some x, fun i H => ∃ xs, SqL K H a xs /\ xs.length <= i⟩
def Itt (K : anS) (a : Addr) : It :=
 ⟨fun i H => ∃ xs x, SqT K H a xs /\ xs[i]? = some x, fun i H x H' => H' = H /\ ∀ xs, SqT K H a xs -> xs[i]? = some x, fun i H => ∃ xs, SqT K H a xs /\ xs.length <= i⟩
def Itr (lo : Int) (n : Nat) : It := ⟨fun i _ => i < n, fun i H x H' => H' = H /\ x = .int (lo + i), fun i _ => n <= i⟩
theorem agX {P : Program} {w : World} {K : anS} {tg : Expr} (a it : Addr) : Turn P w K tg (Itl K a) [it] it (fun i h => h.IsListIter it a i) where
 mem := by simp
 obj := fun i h st b hb => by
  have e : b = it := by simpa using hb
  subst e
  obtain ⟨o, e, c, d⟩ := st
  exact ⟨o, e, fun v z => by rw [d] at z; cases z⟩
 keep := fun i h h' st k => st.at fun o e => k it (by simp) o e
 item := by
  intro X hP hw hK hc i pins s σ H E I hf st hg
  subst hP hw hK
  obtain ⟨xs, x, hq, hx⟩ := hg
  obtain ⟨its, rv, p, hz⟩ := I.list hq
  obtain ⟨u, hu, ru⟩ := rv.get hx
  obtain ⟨f0, f1, f2, f3, f4, f5⟩ := hf it (by simp)
  refine wpAny_pyNext_list_item st p.isList (x := u) (by simpa using hu) fun h' st' sb => ?_
  have I1 : Inv X pins σ H { s with heap := h' } := I.turned (t' := s.toks) (fun b o hb e => (sb.2 b hb).trans e) f0 f1 f3 f4 f5
  obtain ⟨o, e, c, d⟩ := id st'
  exact ⟨u, rfl, ah8 (s := { s with heap := h' }) e c d (by decide) ⟨x, H, I1, ru, ⟨rfl, fun ys hy => by rw [I.list_inj hy hq]; exact hx⟩, st', fun b hb => (hf b hb).1⟩⟩
 done := by
  intro X hP hw hK hc i pins s σ H E I hf st hg
  subst hP hw hK
  obtain ⟨xs, hq, hx⟩ := hg
  obtain ⟨its, rv, p, hz⟩ := I.list hq
  obtain ⟨f0, f1, f2, f3, f4, f5⟩ := hf it (by simp)
  have hl := rv.length
  exact wpAny_pyNext_list_end (I.ok.hd hc) st p.isList (by simp; omega) fun h' eb => ⟨rfl, I.turned (t' := s.toks) (fun b o hb e => eb b o hb e) f0 f1 f3 f4 f5⟩
 self := fun _ _ _ _ _ st h => wpAny_pyIter_listiter st h
theorem aeK {P : Program} {w : World} {K : anS} {tg : Expr} (a it : Addr) : Turn P w K tg (Itt K a) [it] it (fun i h => h.IsTupleIter it a i) where
 mem := by simp
 obj := fun i h st b hb => by
  have e : b = it := by simpa using hb
  subst e
  obtain ⟨o, e, c, d⟩ := st
  exact ⟨o, e, fun v z => by rw [d] at z; cases z⟩
 keep := fun i h h' st k => st.at fun o e => k it (by simp) o e
 item := by
  intro X hP hw hK hc i pins s σ H E I hf st hg
  subst hP hw hK
  obtain ⟨xs, x, hq, hx⟩ := hg
  obtain ⟨its, rv, p, hz⟩ := I.tuple hq
  obtain ⟨u, hu, ru⟩ := rv.get hx
  obtain ⟨f0, f1, f2, f3, f4, f5⟩ := hf it (by simp)
  refine wpAny_pyNext_tuple_item st (show s.heap.IsTuple a its.toArray from p) (x := u) (by simpa using hu) fun h' st' sb => ?_
  have I1 : Inv X pins σ H { s with heap := h' } := I.turned (t' := s.toks) (fun b o hb e => (sb.2 b hb).trans e) f0 f1 f3 f4 f5
  obtain ⟨o, e, c, d⟩ := id st'
  exact ⟨u, rfl, ah8 (s := { s with heap := h' }) e c d (by decide) ⟨x, H, I1, ru, ⟨rfl, fun ys hy => by rw [I.tuple_inj hy hq]; exact hx⟩, st', fun b hb => (hf b hb).1⟩⟩
 done := by
  intro X hP hw hK hc i pins s σ H E I hf st hg
  subst hP hw hK
  obtain ⟨xs, hq, hx⟩ := hg
  obtain ⟨its, rv, p, hz⟩ := I.tuple hq
  obtain ⟨f0, f1, f2, f3, f4, f5⟩ := hf it (by simp)
  have hl := rv.length
  exact wpAny_pyNext_tuple_end (I.ok.hd hc) st (show s.heap.IsTuple a its.toArray from p) (by simp; omega) fun h' eb => ⟨rfl, I.turned (t' := s.toks) (fun b o hb e => eb b o hb e) f0 f1 f3 f4 f5⟩
 self := fun _ _ _ _ _ st h => wpAny_pyIter_tupleiter st h
theorem aeL {P : Program} {w : World} {K : anS} {tg : Expr} (it : Addr) (lo : Int) (n : Nat) : Turn P w K tg (Itr lo n) [it] it (fun i h => IsRangeIter h it (lo + (i : Nat) * 1) ((n : Int) - (i : Nat)) 1) where
 mem := by simp
 obj := fun i h st b hb => by
  have e : b = it := by simpa using hb
  subst e
  exact ⟨_, st, fun v z => by
   have z' : Data.fields _ = Data.cell v := z
   cases z'⟩
 keep := fun i h h' st k => k it (by simp) _ st
 item := by
  intro X hP hw hK hc i pins s σ H E I hf st hg
  subst hP hw hK
  obtain ⟨f0, f1, f2, f3, f4, f5⟩ := hf it (by simp)
  have W := Walks.range (prog := X.prog) (w := X.w) (I.ok.hd hc) it lo 1 n
  refine W.item i s _ _ hg st fun v h' tk hv st' kk => ?_
  obtain ⟨t, rfl⟩ := hv
  have I1 : Inv X pins σ H { s with heap := h', toks := tk } := I.turned (fun b o hb e => kk b o (by simpa using hb) e) f0 f1 f3 f4 f5
  refine ⟨_, rfl, ah8 (s := { s with heap := h', toks := tk }) (n := "range_iterator") st' rfl rfl (by decide) ⟨.int (lo + i), H, I1, ⟨t, ?_⟩, ⟨rfl, rfl⟩, st', fun b hb => (hf b hb).1⟩⟩
  rw [Int.mul_one]
 done := by
  intro X hP hw hK hc i pins s σ H E I hf st hg
  subst hP hw hK
  obtain ⟨f0, f1, f2, f3, f4, f5⟩ := hf it (by simp)
  exact wpAny_pyNext_range_end (I.ok.hd hc) st (by have : n <= i := hg; omega) fun h' eb => ⟨rfl, I.turned (t' := s.toks) (fun b o hb e => eb b o hb e) f0 f1 f3 f4 f5⟩
 self := fun _ _ _ _ _ st h => wpAny_pyIter_rangeiter st h
end L2
namespace L2
open PySem PySem.Spec PyProof.Rows
section
variable {X : Cx} {tg : Expr}
def ah9 (K : anS) (tl : TE) : TI := fun σ H R => tl σ H fun x H1 => ∃ a, x = .ref a /\ (∃ xs, SqL K H1 a xs) /\ R (Itl K a) H1
def al1 (K : anS) (tl : TE) : TI := fun σ H R => tl σ H fun x H1 => ∃ a, x = .ref a /\ (∃ xs, SqT K H1 a xs) /\ R (Itt K a) H1
theorem aj5 {l : Expr} {tl : TE} (hl : PE X l tl) : PI X tg l (ah9 X.K tl) := by
 intro pins s σ H R I h
 refine thn (hl pins s σ H _ I h) fun v s1 ⟨x, H1, I1, r1, q1⟩ => ?_
 obtain ⟨a, e, ⟨xs, hq⟩, q⟩ := q1
 subst e
 cases r1
 obtain ⟨its, rv, p, hz⟩ := I1.list hq
 refine wpAny_pyIter_list p.isList ?_
 refine ⟨s1.heap.objs.size, [s1.heap.objs.size], _, _, H1, rfl, I1.kept (t' := s1.toks) fun b o e => anV _ e, agX a _, ⟨_, aoi _ rfl, rfl, rfl⟩, fun b hb => ?_, q⟩
 have e : b = s1.heap.objs.size := by simpa using hb
 subst e
 exact I1.fpOk (anW _) (I1.hok.fresh (anW _))
theorem al3 {l : Expr} {tl : TE} (hl : PE X l tl) : PI X tg l (al1 X.K tl) := by
 intro pins s σ H R I h
 refine thn (hl pins s σ H _ I h) fun v s1 ⟨x, H1, I1, r1, q1⟩ => ?_
 obtain ⟨a, e, ⟨xs, hq⟩, q⟩ := q1
 subst e
 cases r1
 obtain ⟨its, rv, p, hz⟩ := I1.tuple hq
 refine wpAny_pyIter_tuple (show s1.heap.IsTuple a its.toArray from p) ?_
 refine ⟨s1.heap.objs.size, [s1.heap.objs.size], _, _, H1, rfl, I1.kept (t' := s1.toks) fun b o e => anV _ e, aeK a _, ⟨_, aoi _ rfl, rfl, rfl⟩, fun b hb => ?_, q⟩
 have e : b = s1.heap.objs.size := by simpa using hb
 subst e
 exact I1.fpOk (anW _) (I1.hok.fresh (anW _))
theorem aia {pins : List (Addr × Obj)} {σ : St} {H : Hp} {s : Shared} {R : It -> Hp -> Prop} {E : Value -> Shared -> Prop} {lo hi : Int} {t u v : Tok} {tk : Nat} (I : Inv X pins σ H s) (h1 : -(2 ^ 62) <= lo) (h2 : lo < 2 ^ 62) (h3 : -(2 ^ 62) <= hi) (h4 : hi < 2 ^ 62)
  (q : R (Itr lo (hi - lo).toNat) H) : wpAny (model X.prog X.w) X.A (pyIter (.ref s.heap.objs.size)) (PIE X pins σ tg R) E { s with heap := s.heap.push { cls := .type "range", data := .fields #[.int lo t, .int hi u, .int 1 v] }, toks := tk } := by
 refine wpAny_pyIter_range (IsRange.new ..) (small_one h1 h2 h3 h4) ?_
 have I1 : Inv X pins σ H { s with heap := s.heap.push { cls := .type "range", data := .fields #[.int lo t, .int hi u, .int 1 v] }, toks := tk } := I.kept fun b o e => anV _ e
 refine ⟨(s.heap.push { cls := .type "range", data := .fields #[.int lo t, .int hi u, .int 1 v] }).objs.size, [(s.heap.push { cls := .type "range", data := .fields #[.int lo t, .int hi u, .int 1 v] }).objs.size], _, _, H, rfl,
  I1.kept (t' := tk) fun b o e => anV _ e, aeL _ lo (hi - lo).toNat, ?_, fun b hb => ?_, q⟩
 ·have e1 : lo + ((0 : Nat) : Int) * 1 = lo := by simp
  have e2 : (((hi - lo).toNat : Nat) : Int) - ((0 : Nat) : Int) = Builtin.Range.rangeSize lo hi 1 := by rw [rangeSize_one]; split <;> omega
  show IsRangeIter _ _ (lo + ((0 : Nat) : Int) * 1) ((((hi - lo).toNat : Nat) : Int) - ((0 : Nat) : Int)) 1
  rw [e1, e2]
  exact aoi _ rfl
 ·have e : b = (s.heap.push { cls := .type "range", data := .fields #[.int lo t, .int hi u, .int 1 v] }).objs.size := by simpa using hb
  subst e
  exact I1.fpOk (anW _) (I1.hok.fresh (anW _))
def afJ (ta : TA) : TI := fun σ H R => ta σ H fun vs H1 => ∃ j : Int, vs = [.int j] /\ -(2 ^ 62) <= j /\ j < 2 ^ 62 /\ R (Itr 0 j.toNat) H1
theorem y4 {a : Expr} {ta : TA} {p pos : Pos} (hg : Gl X "range") (hm : X.mg "range" = none) (ha : PA X [a] ta) (hs : starEach [a] X.env = [(false, eval a X.env)] := by rfl) : PI X tg (.Call (.Name "range" p) [a] [] pos) (afJ ta) := by
 intro pins s σ H R I h
 refine Call_ (qc I hg hm boot_range (ao0 (thn (ha pos pins s σ H _ I h) fun us s1 ⟨vs, H1, I1, r1, q1⟩ => ?_) hs rfl))
 obtain ⟨j, e, q1, q2, q⟩ := q1
 subst e
 cases r1 with
 | cons r rr =>
  cases rr
  obtain ⟨t, rfl⟩ := r
  exact call_range_1 (aia I1 (by omega) (by omega) q1 q2 (by simpa using q))
def aj6 (wi : TI) (g : TG) (tb : TS) : TS := fun D σ H => wi σ H fun J H1 => ∃ W : Nat -> Nat -> St -> Hp -> Prop, (∃ m, W 0 m σ H1) /\ ∀ i m σ H, W i m σ H ->
 (J.stop i H /\ D.nx σ H) \/ (J.go i H /\ ∃ N : St -> Hp -> Prop, (∀ σ' H', N σ' H' -> ∃ m', m' < m /\ W (i + 1) m' σ' H') /\ ∀ x H', J.yld i H x H' -> g x σ H' fun σ2 H2 => tb { D with nx := N, ct := N, bk := D.nx } σ2 H2)
def aaX (fp : List Addr) (h : Heap) : List (Addr × Obj) := fp.filterMap fun b => (h.get? b).map fun o => (b, o)
theorem qe {fp : List Addr} {h : Heap} {b : Addr} {o : Obj} (hb : b ∈ fp) (e : h.get? b = some o) : (b, o) ∈ aaX fp h := arp.mpr ⟨b, hb, by rw [e]; rfl⟩
theorem agY {fp : List Addr} {h : Heap} {p : Addr × Obj} (hp : p ∈ aaX fp h) : p.1 ∈ fp /\ h.get? p.1 = some p.2 := by
 obtain ⟨b, hb, e⟩ := arp.mp hp
 cases q : h.get? b with
 | none => rw [q] at e; cases e
 | some o =>
  rw [q] at e
  have e' : (b, o) = p := Option.some.inj e
  subst e'
  exact ⟨hb, q⟩
theorem Inv.pinned {pins : List (Addr × Obj)} {σ : St} {H : Hp} {s : Shared} {fp : List Addr} (I : Inv X pins σ H s) (hf : ∀ b ∈ fp, vz X pins H b) (ho : ∀ b ∈ fp, ∃ o, s.heap.get? b = some o /\ ∀ v, o.data ≠ .cell v) : Inv X (pins ++ aaX fp s.heap) σ H s :=
 I.pins_of fun p hp => (aop.mp hp).elim (fun z => I.pin p (aon _ z)) fun z => by
  obtain ⟨hb, e⟩ := agY z
  obtain ⟨f0, f1, f2, _⟩ := hf p.1 hb
  obtain ⟨o, e', d⟩ := ho p.1 hb
  rw [e] at e'; cases e'
  exact ⟨e, f0, f1, f2, d⟩
theorem Inv.unpinned {pins pl : List (Addr × Obj)} {σ : St} {H : Hp} {s : Shared} (I : Inv X (pins ++ pl) σ H s) : Inv X pins σ H s := I.pins_of fun p hp => I.pin p (aon _ (apg _ hp))
theorem jz {iter : Expr} {body : List Stmt} {wi : TI} {g : TG} {tb : TS} {pos : Pos} (hp : PassesOwn (model X.prog X.w) X.A X.env X.xe) (hc : X.calm = true) (hi : PI X tg iter wi) (hg : PG X tg g) (hb : PSs X body tb)
  (hs : ∀ x, foldedSetIterable iter X.env x = pure x := by intro _; rfl) : PS X (.For tg iter body [] pos) (aj6 wi g tb) := by
 intro pins s σ H D I h
 refine wpAny_For (thn (hi pins s σ H _ I h) fun v s1 h1 => thn h1 fun itv s2 h2 => ?_) hs
 obtain ⟨it, fp, tn, J, H2, e, I2, T, st2, f2, W, ⟨m0, w0⟩, turn⟩ := h2
 subst e
 -- what stays true of the iterator's objects through the loop
 have stat : ∀ {H' : Hp}, (∀ b ∈ fp, H' b = none) -> ∀ b ∈ fp, vz X pins H' b := fun hn b hb => ⟨hn b hb, (f2 b hb).2⟩
 refine codeAny_forLoop_any (fun n s' => ∃ i σ' H', Inv X pins σ' H' s' /\ tn i s'.heap /\ (∀ b ∈ fp, H' b = none) /\ W i n σ' H') ?_ m0 ⟨0, σ, H2, I2, st2, fun b hb => (f2 b hb).1, w0⟩
 rintro n s3 ⟨i, σ3, H3, I3, st3, fr3, w3⟩
 rcases turn i n σ3 H3 w3 with ⟨stop, qn⟩ | ⟨go, N, hN, step⟩
 ·refine wpAny_passesOwn hp (thn (T.done X rfl rfl rfl hc i pins s3 σ3 H3 X.xe I3 (stat fr3) st3 stop) fun r s4 ⟨hr, I4⟩ => ?_)
  subst hr
  exact wpAny_execs_nil ⟨σ3, H3, I4, qn⟩
 ·refine wpAny_passesOwn hp (thn (T.item X rfl rfl rfl hc i pins s3 σ3 H3 X.xe I3 (stat fr3) st3 go) fun r s4 ⟨u, hr, h4⟩ => ?_)
  subst hr
  refine wpAny_passesOwn hp (thn h4 fun _ s5 ⟨x, H5, I5, r5, y5, st5, fr5⟩ => ?_)
  have I5' := I5.pinned (stat fr5) (T.obj _ _ st5)
  refine wpAny_passesOwn hp (thn (hg _ s5 σ3 H5 x u _ I5' r5 (step x H5 y5)) fun _ s6 ⟨σ6, H6, I6, q6⟩ => ?_)
  refine wpAny_passesOwn hp (thn (hb _ s6 σ6 H6 _ I6 q6) fun f s7 q7 => ?_)
  have again : ∀ {σ7 : St} {H7 : Hp}, Inv X (pins ++ aaX fp s5.heap) σ7 H7 s7 -> N σ7 H7 -> ∃ m, m < n /\ ∃ i σ' H', Inv X pins σ' H' s7 /\ tn i s7.heap /\ (∀ b ∈ fp, H' b = none) /\ W i m σ' H' := fun {σ7 H7} I7 n7 => by
   obtain ⟨m', hm, w7⟩ := hN σ7 H7 n7
   refine ⟨m', hm, i + 1, σ7, H7, I7.unpinned, T.keep _ _ _ st5 fun b hb o e => (I7.pin (b, o) (aon _ (aon _ (qe hb e)))).1, fun b hb => ?_, w7⟩
   obtain ⟨o, e, d⟩ := T.obj _ _ st5 b hb
   exact (I7.pin (b, o) (aon _ (aon _ (qe hb e)))).2.1
  cases f with
  | next => obtain ⟨σ7, H7, I7, n7⟩ := q7; exact again I7 n7
  | cont => obtain ⟨σ7, H7, I7, n7⟩ := q7; exact again I7 n7
  | brk => obtain ⟨σ7, H7, I7, q7⟩ := q7; exact ⟨σ7, H7, I7.unpinned, q7⟩
  | ret v => obtain ⟨x7, σ7, H7, I7, r7, q7⟩ := q7; exact ⟨x7, σ7, H7, I7.unpinned, r7, q7⟩
end
end L2
namespace L2
open PySem PySem.Spec PyProof.Rows
abbrev R2 := V -> V -> Hp -> VK -> Prop
def OpR (X : Cx) (f : Value -> Value -> Sem Value) (r : R2) : Prop :=
 ∀ (pins : List (Addr × Obj)) (s : Shared) (σ : St) (H : Hp) (x y : V) (v u : Value) (Q : VK), Inv X pins σ H s -> RelV x v -> RelV y u -> r x y H Q ->
  wpAny (model X.prog X.w) X.A (f v u) (EP X pins σ Q) X.xe s
def UnR (X : Cx) (f : Value -> Sem Value) (r : V -> Hp -> VK -> Prop) : Prop :=
 ∀ (pins : List (Addr × Obj)) (s : Shared) (σ : St) (H : Hp) (x : V) (v : Value) (Q : VK), Inv X pins σ H s -> RelV x v -> r x H Q ->
  wpAny (model X.prog X.w) X.A (f v) (EP X pins σ Q) X.xe s
def z6 (X : Cx) (f : Value) (r : List V -> Hp -> VK -> Prop) : Prop :=
 ∀ (pins : List (Addr × Obj)) (s : Shared) (σ : St) (H : Hp) (xs : List V) (us : List Value) (Q : VK), Inv X pins σ H s -> Vals xs us -> r xs H Q ->
  wpAny (model X.prog X.w) X.A (call f us) (EP X pins σ Q) X.xe s
def anJ (X : Cx) (r : V -> Hp -> (Bool -> Hp -> Prop) -> Prop) : Prop :=
 ∀ (pins : List (Addr × Obj)) (s : Shared) (σ : St) (H : Hp) (x : V) (v : Value) (Q : Bool -> Hp -> Prop), Inv X pins σ H s -> RelV x v -> r x H Q ->
  wpAny (model X.prog X.w) X.A (truthy v) (TP X pins σ Q) X.xe s
def tOp (r : R2) (ta tb : TE) : TE := fun σ H Q => ta σ H fun x H1 => tb σ H1 fun y H2 => r x y H2 Q
def tUn (r : V -> Hp -> VK -> Prop) (ta : TE) : TE := fun σ H Q => ta σ H fun x H1 => r x H1 Q
def rI (C : Int -> Int -> Prop) (g : Int -> Int -> V) : R2 := fun x y H Q => ∃ i j, x = .int i /\ y = .int j /\ C i j /\ Q (g i j) H
def rI0 (g : Int -> Int -> V) : R2 := fun x y H Q => ∃ i j, x = .int i /\ y = .int j /\ Q (g i j) H
def rU (g : Int -> V) : V -> Hp -> VK -> Prop := fun x H Q => ∃ i, x = .int i /\ Q (g i) H
section
variable {X : Cx} {a b c : Expr} {ta tb tc : TE} {pos : Pos}
theorem al4 (ha : PE X a ta) (hb : PE X b tb) {pins : List (Addr × Obj)} {s : Shared} {σ : St} {H : Hp} {R : V -> V -> Hp -> Prop} (I : Inv X pins σ H s)
  (h : ta σ H fun x H1 => tb σ H1 fun y H2 => R x y H2) {Q : Value -> Shared -> Prop} {f : Value -> Value -> Sem Value}
  (hf : ∀ v u s2 x y H2, Inv X pins σ H2 s2 -> RelV x v -> RelV y u -> R x y H2 -> wpAny (model X.prog X.w) X.A (f v u) Q X.xe s2) :
  wpAny (model X.prog X.w) X.A (eval a X.env) (fun v s₁ => wpAny (model X.prog X.w) X.A (eval b X.env) (fun u s₂ => wpAny (model X.prog X.w) X.A (f v u) Q X.xe s₂) X.xe s₁) X.xe s := by
 refine thn (ha pins s σ H _ I h) fun v s1 ⟨x, H1, I1, r1, q1⟩ => ?_
 refine thn (hb pins s1 σ H1 _ I1 q1) fun u s2 ⟨y, H2, I2, r2, q2⟩ => ?_
 exact hf v u s2 x y H2 I2 r1 r2 q2
theorem zJ {op : Operator} {r : R2} (ho : OpR X (binaryOp op) r) (ha : PE X a ta) (hb : PE X b tb) : PE X (.BinOp a op b pos) (tOp r ta tb) := by
 intro pins s σ H Q I h
 exact wpAny_BinOp (al4 ha hb I h fun v u s2 x y H2 I2 rx ry q => ho pins s2 σ H2 x y v u Q I2 rx ry q)
theorem als {op : UnaryOp} {r : V -> Hp -> VK -> Prop} (ho : UnR X (unaryOp op) r) (ha : PE X a ta) : PE X (.UnaryOp op a pos) (tUn r ta) := by
 intro pins s σ H Q I h
 exact UnaryOp_ (thn (ha pins s σ H _ I h) fun v s1 ⟨x, H1, I1, r1, q1⟩ => ho pins s1 σ H1 x v Q I1 r1 q1)
theorem opI {f : Value -> Value -> Sem Value} {C : Int -> Int -> Prop} {g : Int -> Int -> Int}
  (rule : ∀ (i j : Int) (t u : Tok) (s : Shared) (Q : Value -> Shared -> Prop) (E : Value -> Shared -> Prop), C i j -> Q (.int (g i j) s.toks) { s with toks := s.toks + 1 } -> wpAny (model X.prog X.w) X.A (f (.int i t) (.int j u)) Q E s) :
  OpR X f (rI C fun i j => .int (g i j)) := by
 intro pins s σ H x y v u Q I rx ry h
 obtain ⟨i, j, rfl, rfl, hc, q⟩ := h
 obtain ⟨t, rfl⟩ := rx
 obtain ⟨t', rfl⟩ := ry
 exact rule i j t t' s _ _ hc ⟨.int (g i j), H, I.tok _, ⟨_, rfl⟩, q⟩
theorem ane {f : Value -> Value -> Sem Value} {g : Int -> Int -> Int}
  (rule : ∀ (i j : Int) (t u : Tok) (s : Shared) (Q : Value -> Shared -> Prop) (E : Value -> Shared -> Prop), Q (.int (g i j) s.toks) { s with toks := s.toks + 1 } -> wpAny (model X.prog X.w) X.A (f (.int i t) (.int j u)) Q E s) :
  OpR X f (rI0 fun i j => .int (g i j)) := by
 intro pins s σ H x y v u Q I rx ry h
 obtain ⟨i, j, rfl, rfl, q⟩ := h
 obtain ⟨t, rfl⟩ := rx
 obtain ⟨t', rfl⟩ := ry
 exact rule i j t t' s _ _ ⟨.int (g i j), H, I.tok _, ⟨_, rfl⟩, q⟩
theorem aj7 {f : Value -> Value -> Sem Value} {g : Int -> Int -> Bool}
  (rule : ∀ (i j : Int) (t u : Tok) (s : Shared) (Q : Value -> Shared -> Prop) (E : Value -> Shared -> Prop), Q (.bool (g i j)) s -> wpAny (model X.prog X.w) X.A (f (.int i t) (.int j u)) Q E s) :
  OpR X f (rI0 fun i j => .bl (g i j)) := by
 intro pins s σ H x y v u Q I rx ry h
 obtain ⟨i, j, rfl, rfl, q⟩ := h
 obtain ⟨t, rfl⟩ := rx
 obtain ⟨t', rfl⟩ := ry
 exact rule i j t t' s _ _ ⟨.bl (g i j), H, I, rfl, q⟩
def anK (i j : Int) : Prop := 0 <= j /\ j <= 1000000 /\ i.natAbs < 2 ^ 64
def CMul (i j : Int) : Prop := (-(2 ^ 64) < i /\ i < 2 ^ 64) \/ (-(2 ^ 64) < j /\ j < 2 ^ 64)
theorem CMul.ok {i j : Int} (h : CMul i j) : IntMulOk i j := by
 rcases h with ⟨h1, h2⟩ | ⟨h1, h2⟩
 ·exact .of_left (intBits_le_64 h1 h2)
 ·exact .of_right (intBits_le_64 h1 h2)
theorem yd : OpR X (binaryOp .Add) (rI0 fun i j => .int (i + j)) := ane fun _ _ _ _ _ _ _ q => add_int q
theorem jk : OpR X (binaryOp .Sub) (rI0 fun i j => .int (i - j)) := ane fun _ _ _ _ _ _ _ q => sub_int q
theorem aaY : OpR X (binaryOp .Mult) (rI CMul fun i j => .int (i * j)) := opI fun _ _ _ _ _ _ _ hc q => mul_int q hc.ok
theorem vW : OpR X (binaryOp .Mod) (rI (fun _ j => 0 < j) fun i j => .int (i % j)) := opI fun i j _ _ _ _ _ hc q => by
 have h1 : (0 : Int) < j := hc
 exact mod_int' (by omega) (by rw [Int.fmod_eq_emod_of_nonneg i (by omega)]; exact q)
theorem vX : OpR X (binaryOp .Pow) (rI anK fun i j => .int (i ^ j.toNat)) := opI fun _ _ _ _ _ _ _ hc q => pow_int_small hc.1 hc.2.1 hc.2.2 q
theorem unI {f : Value -> Sem Value} {g : Int -> Int}
  (rule : ∀ (i : Int) (t : Tok) (s : Shared) (Q : Value -> Shared -> Prop) (E : Value -> Shared -> Prop), Q (.int (g i) s.toks) { s with toks := s.toks + 1 } -> wpAny (model X.prog X.w) X.A (f (.int i t)) Q E s) :
  UnR X f (rU fun i => .int (g i)) := by
 intro pins s σ H x v Q I rx h
 obtain ⟨i, rfl, q⟩ := h
 obtain ⟨t, rfl⟩ := rx
 exact rule i t s _ _ ⟨.int (g i), H, I.tok _, ⟨_, rfl⟩, q⟩
theorem aib : UnR X (unaryOp .USub) (rU fun i => .int (-i)) := unI fun _ _ _ _ _ q => neg_int q
end
section
variable {X : Cx} {a b c : Expr} {ta tb tc : TE} {pos : Pos}
theorem aic {pins : List (Addr × Obj)} {σ : St} {H : Hp} {s : Shared} {Q : VK} {k k' : Bool} (I : Inv X pins σ H s) (q : Q (.bl k) H) (e : k = k') : EP X pins σ Q (.bool k') s := by
 subst e
 exact ⟨.bl k, H, I, rfl, q⟩
theorem afK : OpR X (compareOp .Lt) (rI0 fun i j => .bl (decide (i < j))) := aj7 fun _ _ _ _ _ _ _ q => lt_int q
theorem abY : OpR X (compareOp .LtE) (rI0 fun i j => .bl (decide (i <= j))) := aj7 fun _ _ _ _ _ _ _ q => le_int q
theorem aid : OpR X (compareOp .Gt) (rI0 fun i j => .bl (decide (j < i))) := aj7 fun _ _ _ _ _ _ _ q => gt_int q
theorem alu : OpR X (compareOp .GtE) (rI0 fun i j => .bl (decide (j <= i))) := aj7 fun _ _ _ _ _ _ _ q => ge_int q
theorem aie : OpR X (compareOp .Is) (fun x y H Q => y = .non /\ Q (.bl (decide (x = .non))) H) := by
 intro pins s σ H x y v u Q I rx ry h
 obtain ⟨rfl, q⟩ := h
 cases ry
 refine is_none_gen (aic I q ?_)
 cases x <;> first
  | (cases rx; rfl)
  | (obtain ⟨t, rfl⟩ := rx; rfl)
theorem aj8 : OpR X (compareOp .IsNot) (fun x y H Q => y = .non /\ Q (.bl (!decide (x = .non))) H) := by
 intro pins s σ H x y v u Q I rx ry h
 obtain ⟨rfl, q⟩ := h
 cases ry
 refine isnot_none_gen (aic I q ?_)
 cases x <;> first
  | (cases rx; rfl)
  | (obtain ⟨t, rfl⟩ := rx; rfl)
theorem zN (b : Expr) {op : CmpOp} (h : op ≠ .In := by decide) (h2 : op ≠ .NotIn := by decide) : behindInMarks op b = false := by
 have e1 : (op == CmpOp.In) = false := by cases op <;> first | rfl | exact absurd rfl h
 have e2 : (op == CmpOp.NotIn) = false := by cases op <;> first | rfl | exact absurd rfl h2
 cases b <;> simp [behindInMarks, e1, e2]
theorem yR {op : CmpOp} {r : R2} (ho : OpR X (compareOp op) r) (ha : PE X a ta) (hb : PE X b tb) (hm : behindInMarks op b = false) : PE X (.Compare a [op] [b] pos) (tOp r ta tb) := by
 intro pins s σ H Q I h
 exact wpAny_Compare1 (al4 ha hb I h fun v u s2 x y H2 I2 rx ry q => ho pins s2 σ H2 x y v u Q I2 rx ry q) hm
def afL (t : TE) : TT := fun σ H Q => t σ H fun x H' => ∃ k, x = .bl k /\ Q k H'
theorem zL {op : CmpOp} {r : R2} (ho : OpR X (compareOp op) r) (ha : PE X a ta) (hb : PE X b tb) (hm : behindInMarks op b = false) : PT X (.Compare a [op] [b] pos) (afL (tOp r ta tb)) := by
 intro pins s σ H Q I h
 refine wpAny_isTrue_Compare1 (thn (ha pins s σ H _ I h) fun v s1 ⟨x, H1, I1, r1, q1⟩ => thn (hb pins s1 σ H1 _ I1 q1) fun u s2 ⟨y, H2, I2, r2, q2⟩ =>
  thn (ho pins s2 σ H2 x y v u _ I2 r1 r2 q2) fun c s3 ⟨z, H3, I3, r3, k, e, q3⟩ => ?_) hm
 subst e
 cases r3
 exact wpAny_truthy_bool ⟨H3, I3, q3⟩
def aif (r r' : R2) (ta tb tc : TE) : TE := fun σ H Q => ta σ H fun x H1 => tb σ H1 fun y H2 => r x y H2 fun z H3 => ∃ k, z = .bl k /\
 (if k = true then tc σ H3 fun w' H4 => r' y w' H4 Q else Q (.bl false) H3)
theorem aaZ {op op' : CmpOp} {r r' : R2} (ho : OpR X (compareOp op) r) (ho' : OpR X (compareOp op') r') (ha : PE X a ta) (hb : PE X b tb) (hc : PE X c tc)
  (hm : lastMarks [op, op'] [b, c] = false := by with_unfolding_all rfl) : PE X (.Compare a [op, op'] [b, c] pos) (aif r r' ta tb tc) := by
 intro pins s σ H Q I h
 refine Compare_chain (thn (ha pins s σ H _ I h) fun v s1 ⟨x, H1, I1, r1, q1⟩ => chain_link (thn (hb pins s1 σ H1 _ I1 q1) fun u s2 ⟨y, H2, I2, r2, q2⟩ =>
  thn (ho pins s2 σ H2 x y v u _ I2 r1 r2 q2) fun d s3 ⟨z, H3, I3, r3, k, e, q3⟩ => ?_)) hm
 subst e
 cases r3
 refine wpAny_truthy_bool ?_
 cases k with
 | false => exact ite_ff ⟨.bl false, H3, I3, rfl, q3⟩
 | true => exact ite_tt (chain_last (thn (hc pins s3 σ H3 _ I3 q3) fun w' s4 ⟨z', H4, I4, r4, q4⟩ => ho' pins s4 σ H4 y z' u w' Q I4 r2 r4 q4))
def al5 (K : anS) (x : V) (H : Hp) (k : Bool) : Prop :=
 match x with
 | .non => k = false
 | .bl b => k = b
 | .int i => k = (i != 0)
 | .str y => y.length <= sizeLine /\ k = ((y.length : Int) != 0)
 | .byt y => y.size <= sizeLine /\ k = ((y.size : Int) != 0)
 | .ref p => (∃ xs, SqL K H p xs /\ k = !xs.isEmpty) \/ (∃ xs, SqT K H p xs /\ k = !xs.isEmpty) \/ ∃ kvs, H p = some (.dK kvs) /\ k = !kvs.isEmpty
 | _ => False
theorem aeM {κ : Type} {kvs : List (κ × V)} {vs : List (κ × Value)} (r : KV kvs vs) : (!vs.isEmpty) = !kvs.isEmpty := by
 cases r <;> rfl
theorem aa0 {xs : List V} {its : List Value} (r : Vals xs its) : (!its.toArray.isEmpty) = !xs.isEmpty := by
 cases r <;> simp
theorem aa1 : (sizeLine : Nat) < 2 ^ 63 := by rw [sizeLine_eq]; decide
theorem al6 : anJ X (fun x H Q => ∃ k, al5 X.K x H k /\ Q k H) := by
 intro pins s σ H x v Q I rx h
 obtain ⟨k, e, q⟩ := h
 have hl := aa1
 have hs : sizeLine = 16777216 := sizeLine_eq
 cases x with
 | non =>
  cases rx
  have e' : k = false := e
  subst e'
  exact truthy_none ⟨H, I, q⟩
 | bl b =>
  cases rx
  have e' : k = b := e
  subst e'
  exact wpAny_truthy_bool ⟨H, I, q⟩
 | int i =>
  obtain ⟨t, rfl⟩ := rx
  have e' : k = (i != 0) := e
  subst e'
  exact PySem.P.truthy_int ⟨H, I, q⟩
 | str y =>
  obtain ⟨t, rfl⟩ := rx
  obtain ⟨hy, e'⟩ : y.length <= sizeLine /\ k = ((y.length : Int) != 0) := e
  subst e'
  exact PySem.P.truthy_str (by omega) ⟨H, I.tok _, q⟩
 | byt y =>
  obtain ⟨t, rfl⟩ := rx
  obtain ⟨hy, e'⟩ : y.size <= sizeLine /\ k = ((y.size : Int) != 0) := e
  subst e'
  exact PySem.W.truthy_bytes (by omega) ⟨H, I.tok _, q⟩
 | ref p =>
  cases rx
  have e' : (∃ xs, SqL X.K H p xs /\ k = !xs.isEmpty) \/ (∃ xs, SqT X.K H p xs /\ k = !xs.isEmpty) \/ ∃ kvs, H p = some (.dK kvs) /\ k = !kvs.isEmpty := e
  rcases e' with ⟨xs, hx, e'⟩ | ⟨xs, hx, e'⟩ | ⟨kvs, hx, e'⟩
  ·subst e'
   obtain ⟨its, r, pl, hz⟩ := I.list hx
   have hlen := r.length
   exact wpAny_truthy_list pl.isList (by simp only [aod]; omega) ⟨H, I.tok _, by rw [aa0 r]; exact q⟩
  ·subst e'
   obtain ⟨its, r, pl, hz⟩ := I.tuple hx
   have hlen := r.length
   exact truthy_tuple pl (by simp only [aod]; omega) ⟨H, I.tok _, by rw [aa0 r]; exact q⟩
  ·subst e'
   obtain ⟨hz, hS, vs, r, m⟩ : kvs.length <= sizeLine /\ (p == sysModules) = false /\ ∃ vs, KV kvs vs /\ s.heap.DictOf (acz X.prog X.w) p vs := I.hok p _ hx
   have hlen : kvs.length = vs.length := Paired.length r
   exact wpAny_truthy_dict hS m (by omega) ⟨H, I.tok _, by rw [aeM r]; exact q⟩
 | _ => exact (show False from e).elim
theorem aih (ha : PE X a ta) (he : ∀ whole, isTrue a X.env whole = (do let v <- whole; standAt a.pos; holding [v] (truthy v))) :
  PT X a (fun σ H Q => ta σ H fun x H' => ∃ k, al5 X.K x H' k /\ Q k H') := by
 intro pins s σ H Q I h
 exact isTrue_plain (thn (ha pins s σ H _ I h) fun v s1 ⟨x, H1, I1, r1, q1⟩ => al6 pins s1 σ H1 x v Q I1 r1 q1) (he _)
theorem vals1 {x : V} {us : List Value} (r : Vals [x] us) : ∃ u, us = [u] /\ RelV x u := by
 cases r with
 | cons r1 r2 => cases r2; exact ⟨_, rfl, r1⟩
theorem vals2 {x y : V} {us : List Value} (r : Vals [x, y] us) : ∃ u w', us = [u, w'] /\ RelV x u /\ RelV y w' := by
 cases r with
 | cons r1 r2 =>
  cases r2 with
  | cons r3 r4 => cases r4; exact ⟨_, _, rfl, r1, r3⟩
theorem aii : z6 X (.builtin "abs") (fun xs H Q => ∃ i, xs = [.int i] /\ Q (.int (if i < 0 then -i else i)) H) := by
 intro pins s σ H xs us Q I r h
 obtain ⟨i, rfl, q⟩ := h
 obtain ⟨u, rfl, t, rfl⟩ := vals1 r
 exact call_abs_int fun u tk => ⟨.int (if i < 0 then -i else i), H, I.tok _, ⟨_, rfl⟩, q⟩
theorem agZ (hc : X.calm = true) : z6 X (.builtin "max") (fun xs H Q => ∃ i j, xs = [.int i, .int j] /\ Q (.int (if j > i then j else i)) H) := by
 intro pins s σ H xs us Q I r h
 obtain ⟨i, j, rfl, q⟩ := h
 obtain ⟨u, w', rfl, ⟨t, rfl⟩, ⟨t', rfl⟩⟩ := vals2 r
 refine max_two_ints (I.ok.hd hc) fun h' tk k => ⟨_, H, I.kept k, ?_, q⟩
 by_cases hj : j > i
 ·rw [if_pos hj, if_pos hj]; exact ⟨_, rfl⟩
 ·rw [if_neg hj, if_neg hj]; exact ⟨_, rfl⟩
theorem abZ (hc : X.calm = true) : z6 X (.builtin "min") (fun xs H Q => ∃ i j, xs = [.int i, .int j] /\ Q (.int (if j < i then j else i)) H) := by
 intro pins s σ H xs us Q I r h
 obtain ⟨i, j, rfl, q⟩ := h
 obtain ⟨u, w', rfl, ⟨t, rfl⟩, ⟨t', rfl⟩⟩ := vals2 r
 refine min_two_ints (I.ok.hd hc) fun h' tk k => ⟨_, H, I.kept k, ?_, q⟩
 by_cases hj : j < i
 ·rw [if_pos hj, if_pos hj]; exact ⟨_, rfl⟩
 ·rw [if_neg hj, if_neg hj]; exact ⟨_, rfl⟩
end
end L2
namespace L2
open PySem PySem.Spec PyProof.Rows
structure ObjM (h : Heap) (x dx C : Addr) (mA : Str -> Option Value) : Prop where
 obj : h.get? x = some (arZ C dx)
 ns : h.Ns1 dx mA
 ne : dx ≠ x
theorem ag0 {h : Heap} {dx : Addr} {mA : Str -> Option Value} (n : h.Ns1 dx mA) : ∃ od, h.get? dx = some od /\ ∀ name, ar8 name od = some (mA name) := by
 obtain ⟨o, es, ep, ho, hd, hk, _, hm⟩ := n
 refine ⟨o, ho, fun name => ?_⟩
 have e := hm name
 unfold nsFind findBy at e
 rw [<- Array.find?_toList] at e
 unfold ar8
 rw [hd]
 dsimp only
 split
 ·rename_i y q
  rw [q] at e
  exact congrArg some e
 ·rename_i q
  rw [q] at e
  have a : es.toList.any (·.refKey) = false := by
   rw [List.any_eq_false]
   intro y hy
   obtain ⟨z, t, hkey⟩ := hk y (aqq.mp hy)
   simp [DictEntry.refKey, hkey]
  have a' : ¬ es.toList.any (·.refKey) = true := by rw [a]; exact anR
  rw [if_neg a']
  exact congrArg some e
theorem ObjM.look {h : Heap} {x dx C : Addr} {mA : Str -> Option Value} (I : ObjM h x dx C mA) : ∃ od, PySem.W.InstAt h x (arZ C dx) C (some od) /\ ∀ name, ar8 name od = some (mA name) :=
 let ⟨od, ho, hl⟩ := ag0 I.ns
 ⟨od, ⟨I.obj, rfl, rfl, ho⟩, hl⟩
section
variable {prog : Program} {w : World} {A : Around} {E : Value -> Shared -> Prop} {s : Shared} {K : anS} {x dx C f : Addr} {mA : Str -> Option Value} {name : Str} {v : Value}
end
section
variable {P : Program} {w : World} {H H' : Hp} {h h' : Heap} {a C dx : Addr} {fs fs' : List (Str × V)}
theorem aj9 (hok : HOk P w H h) (e : H a = some (.ins C dx fs)) : ∃ mA, ObjM h a dx C mA /\ (∀ f, alT (fs.lookup f) (mA f)) /\ PySem.Within mA (fs.map (·.1)) /\ fs.length <= 1000 /\ H dx = some (.own a) := by
 obtain ⟨d, z, ne, ob, mA, n, r, q⟩ := (show ObjOk P w H h a (.ins C dx fs) from hok a _ e)
 exact ⟨mA, ⟨ob, n, ne⟩, r, q, z, d⟩
end
structure Cls (K : anS) (C : Addr) : Prop where
 pg : PySem.W.plainGet K C Str.empty = true
 hd : PySem.W.hasDictIn K C = true
 po : PySem.W.plainOver K C = true
 sa : aqb K (.ref C) "__setattr__" = some (some (.builtin "object.__setattr__"))
theorem Cls.get {K : anS} {C : Addr} (c : Cls K C) (f : Str) : PySem.W.plainGet K C f = true := c.pg
structure Con (K : anS) (C : Addr) (f : Str) (v : V) (u : Value) : Prop where
 at_ : aqb K (.ref C) f = some (some u)
 rel : RelV v u
 get : arB K u "__get__" = some none
 cp : PySem.W.copiedNames.contains f = false
structure Meth (K : anS) (C : Addr) (m : Str) (f : Addr) : Prop where
 at_ : aqb K (.ref C) m = some (some (.ref f))
 fn : PySem.W.isFn K (.ref f) = true
 kp : ao3 K (.ref f) = true
section
variable {X : Cx} {pins : List (Addr × Obj)} {σ : St} {H : Hp} {s : Shared} {a C dx : Addr} {fs : List (Str × V)} {f : Str} {v : V} {A : Around} {E : Value -> Shared -> Prop}
end
section
variable {X : Cx} {pins : List (Addr × Obj)} {σ : St} {H : Hp} {s : Shared} {A : Around} {E : Value -> Shared -> Prop} {Q : Value -> Shared -> Prop} {c : Value} {b : Bool}
inductive TyOf (K : anS) (H : Hp) : V -> Value -> Prop where
 | non : TyOf K H .non (.type "NoneType")
 | bl (x : Bool) : TyOf K H (.bl x) (.type "bool")
 | int (i : Int) : TyOf K H (.int i) (.type "int")
 | str (x : Str) : TyOf K H (.str x) (.type "str")
 | flt (x : UInt64) : TyOf K H (.flt x) (.type "float")
 | lst {a : Addr} {xs : List V} (e : H a = some (.lst xs)) : TyOf K H (.ref a) (.type "list")
 | frz {a : Addr} {o : Obj} {xs : List V} (e : H a = some (.frz o (.lst xs))) : TyOf K H (.ref a) (.type "list")
 | tup {a : Addr} {xs : List V} (e : H a = some (.tup xs)) : TyOf K H (.ref a) (.type "tuple")
 | dK {a : Addr} {kvs : List (Key × V)} (e : H a = some (.dK kvs)) : TyOf K H (.ref a) (.type "dict")
 | dT {a : Addr} {kvs : List (List Key × V)} (e : H a = some (.dT kvs)) : TyOf K H (.ref a) (.type "dict")
 | ins {a C dx : Addr} {fs : List (Str × V)} (e : H a = some (.ins C dx fs)) (cl : Cls K C) (ha : aqb K (.ref C) "__class__" = some (some (.builtin "object.__class__")))
   (hn : arB K (.builtin "object.__class__") "__get__" = some (some (.builtin "getset_descriptor.__get__"))) (htk : PySem.W.takesIn K (.builtin "object.__class__") = some true)
   (hm : PySem.W.mroIn K C (.type "object") = some true) : TyOf K H (.ref a) (.ref C)
theorem ag1 {x : V} {u t : Value} (I : Inv X pins σ H s) (rx : RelV x u) (ty : TyOf X.K H x t) (e : apl X.K t c = some b) (h : ∀ tk, Q (.bool b) { s with toks := tk }) :
  wpAny (model X.prog X.w) A (call (.builtin "isinstance") [u, c]) Q E s := by
 cases ty with
 | non => cases (show u = Value.none from rx); exact aoT PySem.W.kitx_none I.kIn True.intro e (fun z => nomatch z) h
 | bl y => cases (show u = Value.bool y from rx); exact aoT PySem.W.kitx_bool I.kIn True.intro e (fun z => nomatch z) h
 | int i => obtain ⟨t, q⟩ := (show ∃ t, u = Value.int i t from rx); cases q; exact aoT PySem.W.kitx_int I.kIn True.intro e (fun z => nomatch z) h
 | str y => obtain ⟨t, q⟩ := (show ∃ t, u = Value.str y t from rx); cases q; exact aoT PySem.W.kitx_str I.kIn True.intro e (fun z => nomatch z) h
 | flt y => obtain ⟨t, q⟩ := (show ∃ t, u = Value.float y t from rx); cases q; exact aoT PySem.W.kitx_float I.kIn True.intro e (fun z => nomatch z) h
 | @lst a xs ea =>
  cases (show u = Value.ref a from rx)
  obtain ⟨_, _, n, _, h1⟩ := (show ObjOk X.prog X.w H s.heap a (.lst xs) from I.hok a _ ea)
  exact aoT arC I.kIn ⟨_, h1, rfl⟩ e (fun z => nomatch z) h
 | @frz a ob xs ea =>
  cases (show u = Value.ref a from rx)
  obtain ⟨_, _, _, n, _, h1⟩ := (show ObjOk X.prog X.w H s.heap a (.frz ob (.lst xs)) from I.hok a _ ea)
  exact aoT arC I.kIn ⟨_, h1, rfl⟩ e (fun z => nomatch z) h
 | @tup a xs ea =>
  cases (show u = Value.ref a from rx)
  obtain ⟨_, _, _, p⟩ := (show ObjOk X.prog X.w H s.heap a (.tup xs) from I.hok a _ ea)
  obtain ⟨o, h1, h2, _⟩ := p
  exact aoT PySem.W.kitx_tuple I.kIn ⟨o, h1, h2⟩ e (fun z => nomatch z) h
 | @dK a kvs ea =>
  cases (show u = Value.ref a from rx)
  obtain ⟨_, _, vs, _, p⟩ := (show ObjOk X.prog X.w H s.heap a (.dK kvs) from I.hok a _ ea)
  obtain ⟨o, es, ep, h1, h2, _⟩ := p
  exact aoT PySem.W.kitx_dict I.kIn ⟨o, h1, h2.1⟩ e (fun z => nomatch z) h
 | @dT a kvs ea =>
  cases (show u = Value.ref a from rx)
  obtain ⟨_, _, xs, _, o, es, ep, h1, h2, _⟩ := (show ObjOk X.prog X.w H s.heap a (.dT kvs) from I.hok a _ ea)
  exact aoT PySem.W.kitx_dict I.kIn ⟨o, h1, h2.1⟩ e (fun z => nomatch z) h
 | @ins a C dx fs ea cl ha hn htk hm =>
  cases (show u = Value.ref a from rx)
  obtain ⟨mA, O, _⟩ := aj9 I.hok ea
  obtain ⟨od, J, _⟩ := O.look
  exact aoT (PySem.W.kitx_own (cl.get _) cl.hd ha hn htk hm) I.kIn J e (fun z => nomatch z) h
end
end L2
namespace L2
open PySem PySem.Spec PyProof.Rows
structure Room (k : Nat) (A : Around) : Prop where
 hd : A.handled = none
 dp : A.depth + 3 * k + 5 < recursionLimit
 un : A.units + 16 * k + 200 < cLine
theorem Room.mono {j k : Nat} {A : Around} (r : Room k A) (h : j <= k) : Room j A := ⟨r.hd, by have := r.dp; omega, by have := r.un; omega⟩
theorem Room.deeper {k : Nat} {A : Around} (r : Room (k + 1) A) (env : Env) : Room k (A.deeper env) :=
 ⟨r.hd, by have := r.dp; show A.depth + 1 + 3 * k + 5 < _; omega, by have := r.un; show A.units + 3 + 16 * k + 200 < _; omega⟩
theorem Room.depth {k : Nat} {A : Around} (r : Room k A) : A.depth < recursionLimit := by have := r.dp; omega
theorem Room.units {k : Nat} {A : Around} (r : Room k A) : A.units + 64 < cLine := by have := r.un; omega
def yP : TA := fun _ H Q => Q [] H
def zW (ta : TE) (tr : TA) : TA := fun σ H Q => ta σ H fun x H1 => tr σ H1 fun xs H2 => Q (x :: xs) H2
section
variable {X : Cx} {e : Expr} {es : List Expr} {te : TE} {t : TA} {pos : Pos}
theorem zh : PA X [] yP := fun _ _ _ _ H Q I h => Calls.spliced_nil ⟨[], H, I, .nil, h⟩
theorem zc (ha : PE X e te) (hr : PA X es t) (hs : starEach (e :: es) X.env = (false, eval e X.env) :: starEach es X.env := by rfl) : PA X (e :: es) (zW te t) := by
 intro pos pins s σ H Q I h
 rw [hs]
 show wpAny _ _ (spliced ((false, eval e X.env) :: backTo pos (starEach es X.env))) _ _ s
 refine Calls.spliced_cons (thn (ha pins s σ H _ I h) fun u s1 ⟨x, H1, I1, r1, q1⟩ => ?_)
 exact thn (hr pos pins s1 σ H1 _ I1 q1) fun us s2 ⟨xs, H2, I2, r2, q2⟩ => ⟨x :: xs, H2, I2, .cons r1 r2, q2⟩
def al7 (t : TA) : TE := fun σ H Q => t σ H fun xs H1 => xs.length <= sizeLine /\ ∀ p, H1 p = none -> Q (.ref p) (upd H1 p (.tup xs))
def aij (t : TA) : TE := fun σ H Q => t σ H fun xs H1 => xs.length <= sizeLine /\ ∀ p, H1 p = none -> Q (.ref p) (upd H1 p (.lst xs))
theorem zR {x1} (h : PA X es t) : PE X (.Tuple es x1 pos) (al7 t) := by
 intro pins s σ H Q I hq
 refine wpAny_Tuple_spliced (thn (h pos pins s σ H _ I hq) fun us s1 ⟨xs, H1, I1, r, z, q⟩ => ⟨by rw [<- r.length]; exact z, ?_⟩)
 have hf : H1 s1.heap.objs.size = none := I1.hok.fresh (anW _)
 refine ⟨.ref s1.heap.objs.size, upd H1 s1.heap.objs.size (.tup xs), I1.laid (t' := s1.toks) (fun b u e => anV _ e) (anW _) ?_, rfl, q _ hf⟩
 exact ⟨z, us, r, ⟨_, aoi _ rfl, rfl, _, rfl⟩⟩
theorem yr (h : PA X es t) : PE X (.List es pos) (aij t) := by
 intro pins s σ H Q I hq
 refine wpAny_List_spliced (thn (h pos pins s σ H _ I hq) fun us s1 ⟨xs, H1, I1, r, z, q⟩ => ⟨by rw [<- r.length]; exact z, ?_⟩)
 have hf : H1 s1.heap.objs.size = none := I1.hok.fresh (anW _)
 refine ⟨.ref s1.heap.objs.size, upd H1 s1.heap.objs.size (.lst xs), I1.laid (t' := s1.toks) (fun b u e => anV _ e) (anW _) ?_, rfl, q _ hf⟩
 exact ⟨z, us, 0, r, aoi _ rfl⟩
end
abbrev Sp := List V -> Hp -> VK -> XK -> Prop
abbrev CXT := List Env -> Hp -> Shared -> XK -> Value -> Shared -> Prop
structure Env0 (P : Program) (w : World) (K : anS) (mg : Str -> Option Value) (base : Heap) (A : Around) (outer : List Env) (s : Shared) (H : Hp) : Prop where
 frames : A.frames = some outer
 mod : Mod K mg base
 bs : ∀ b o, base.get? b = some o -> s.heap.get? b = some o /\ H b = none
 bsz : base.objs.size <= s.heap.objs.size
 funs : s.heap.FunFrames base outer
 frf : ∀ b ∈ frs outer, H b = none
 hok : HOk P w H s.heap
 bare : AllBare s.gens
def CE (outer : List Env) (P : Program) (w : World) (H : Hp) (s : Shared) (Q : VK) (u : Value) (s' : Shared) : Prop :=
 ∃ v H', s'.os = s.os /\ AllBare s'.gens /\ Un (frs outer) [] H H' s.heap s'.heap /\ HOk P w H' s'.heap /\ RelV v u /\ Q v H'
def CR (CX : CXT) (outer : List Env) (P : Program) (w : World) (H : Hp) (s : Shared) (Q : VK) (E : XK) (r : Result) (s' : Shared) : Prop :=
 match r with
 | .ok (.ret u) => CE outer P w H s Q u s'
 | .ok _ => False
 | .error e => CX outer H s E e s'
structure FnOk (P : Program) (w : World) (K : anS) (mg : Str -> Option Value) (base : Heap) (CX : CXT) (k : Nat) (f : Addr) (fd : FuncData) (ps : List Str) (sp : Sp) : Prop where
 len : ∀ vs H Q E, sp vs H Q E -> vs.length = ps.length
 run : ∀ (A : Around) (outer : List Env) (s : Shared) (H : Hp) (args : Args) (us : List Value) (vs : List V) (Q : VK) (E : XK), Room k A -> Env0 P w K mg base A outer s H -> BindsTo s fd args (ps.zip us) -> Vals vs us -> sp vs H Q E ->
  codeAny (model P w) A (.call (.ref f) args) (CR CX outer P w H s Q E) s
theorem FnOk.mono {P : Program} {w : World} {K : anS} {mg : Str -> Option Value} {base : Heap} {CX : CXT} {j k : Nat} {f : Addr} {fd : FuncData} {ps : List Str} {sp : Sp} (F : FnOk P w K mg base CX j f fd ps sp) (h : j <= k) :
  FnOk P w K mg base CX k f fd ps sp := ⟨F.len, fun A outer s H args us vs Q E hr => F.run A outer s H args us vs Q E (hr.mono h)⟩
section
variable {X : Cx} {pins : List (Addr × Obj)} {σ : St} {H : Hp} {s s' : Shared}
theorem Inv.env0 (I : Inv X pins σ H s) : Env0 X.prog X.w X.K X.mg X.base X.A X.stack s H :=
 ⟨I.ok.frames, I.ok.mod, I.bs, aou I.ok.bsz I.sz, I.stack, I.stkFree, I.hok, I.bare⟩
theorem Inv.after {Q : VK} {u : Value} (I : Inv X pins σ H s) (h : CE X.stack X.prog X.w H s Q u s') : EP X pins σ Q u s' := by
 obtain ⟨v, H', os, bare, un, hok, r, q⟩ := h
 obtain ⟨hh, g, d, t, os'⟩ := s'
 obtain rfl : os' = s.os := os
 exact ⟨v, H', I.call (h' := hh) (g' := g) (d' := d) (t' := t) (ch := []) un hok bare (fun b z => absurd z (by simp)), r, q⟩
end
def aa2 (sp : Sp) (dvs : List V) (E : XK) (t : TA) : TE := fun σ H Q => t σ H fun vs H1 => sp (vs ++ dvs) H1 Q E
def Binds (K : anS) (fd : FuncData) (ps : List Str) (ds : List Value) : Prop :=
 ∀ (s : Shared) (us : List Value), K.In s.heap -> (us ++ ds).length = ps.length -> BindsTo s fd ⟨us, []⟩ (ps.zip (us ++ ds))
theorem Binds.all {K : anS} {fd : FuncData} {ps : List Str} (h : ∀ us : List Value, us.length = ps.length -> bindArgs fd ⟨us, []⟩ = pure (ps.zip us)) : Binds K fd ps [] := fun s us _ hl => by
 rw [aoN] at hl ⊢
 exact .of_eq (h us hl)
def Passes (CX : CXT) (X : Cx) (E : XK) : Prop := ∀ (pins : List (Addr × Obj)) (σ : St) (H : Hp) (s : Shared) (e : Value) (s' : Shared), Inv X pins σ H s -> CX X.stack H s E e s' -> X.xe e s'
section
variable {X : Cx} {CX : CXT} {k : Nat} {f C : Addr} {fd : FuncData} {ps : List Str} {sp : Sp} {dvs : List V} {ds : List Value} {E : XK} {x m : Str} {p pos apos : Pos} {e o : Expr} {es : List Expr} {ta : TE} {t : TA}
theorem al8 {pins : List (Addr × Obj)} {σ : St} {H : Hp} {s : Shared} {Q : VK} {us : List Value} {vs : List V} (F : FnOk X.prog X.w X.K X.mg X.base CX k f fd ps sp) (hr : Room k X.A) (hb : Binds X.K fd ps ds) (hd : Vals dvs ds) (hx : Passes CX X E)
  (I : Inv X pins σ H s) (r : Vals vs us) (h : sp (vs ++ dvs) H Q E) : wpAny (model X.prog X.w) X.A (call (.ref f) us) (EP X pins σ Q) X.xe s := by
 have r2 : Vals (vs ++ dvs) (us ++ ds) := r.append hd
 have hl : (us ++ ds).length = ps.length := by rw [<- r2.length]; exact F.len _ _ _ _ h
 refine wpAny_call (codeAny_mono (F.run X.A X.stack s H ⟨us, []⟩ (us ++ ds) (vs ++ dvs) Q E hr I.env0 (hb s us I.kIn hl) r2 h) fun r s' hq => ?_)
 cases r with
 | error e => exact hx pins σ H s e s' I hq
 | ok fl =>
  cases fl with
  | ret u => exact I.after hq
  | next => exact aqe hq
  | brk => exact aqe hq
  | cont => exact aqe hq
theorem aka (F : FnOk X.prog X.w X.K X.mg X.base CX k f fd ps sp) (hr : Room k X.A) (hg : Gl X x) (hm : X.mg x = some (.ref f)) (hk : ao3 X.K (.ref f) = true) (hb : Binds X.K fd ps ds) (hd : Vals dvs ds) (hx : Passes CX X E)
  (ha : PA X (e :: es) t) (hdb : (x == ("__debug__" : Str)) = false := by decide) (he : starEach (e :: es) X.env = (false, eval e X.env) :: starEach es X.env := by rfl) (hpl : (backTo pos (starEach es X.env)).any (·.1) = false := by rfl) :
  PE X (.Call (.Name x p) (e :: es) [] pos) (aa2 sp dvs E t) := by
 intro pins s σ H Q I h
 refine wpAny_Call_Name_kw (acB I hg hm ?_ hdb)
 refine PySem.W.callWith_K (h₀ := X.base) I.ok.mod.kin hk (thn (ha pos pins s σ H _ I h) fun us s1 ⟨vs, H1, I1, r, q⟩ => ⟨I1.kIn, ?_⟩) he hpl
 exact al8 F hr hb hd hx I1 r q
structure Mk (K : anS) (C f : Addr) : Prop where
 makes : PySem.W.makesIn K C = true
 init : aqb K (.ref C) "__init__" = some (some (.ref f))
 fn : PySem.W.isFn K (.ref f) = true
 kp : ao3 K (.ref C) = true
end
section
variable {X : Cx} {CX : CXT} {k : Nat} {f C : Addr} {fd : FuncData} {ps ks : List Str} {sp : Sp} {E : XK} {x m : Str} {p pos apos kpos : Pos} {e o : Expr} {es : List Expr} {kws : List Keyword} {te ta : TE} {t tk : TA} {nm : Option Str}
structure KBinds (K : anS) (fd : FuncData) (ps ks : List Str) (g : List Value -> List Value -> List Value) (gV : List V -> List V -> List V) : Prop where
 to : ∀ (s : Shared) (us ws : List Value), K.In s.heap -> (g us ws).length = ps.length -> BindsTo s fd ⟨us, ks.zip ws⟩ (ps.zip (g us ws))
 rel : ∀ {vs : List V} {us : List Value} {zs : List V} {ws : List Value}, Vals vs us -> Vals zs ws -> Vals (gV vs zs) (g us ws)
variable {g : List Value -> List Value -> List Value} {gV : List V -> List V -> List V}
end
structure FnScope (N P : List Str) (sc : Scope) : Prop where
 kind : sc.kind = .function
 co : sc.isCoroutine = false
 gen : sc.isGenerator = false
 nd : N.Nodup
 pre : N.take P.length = P
 par : ∀ x ∈ P, sc.names.lookup x = some .local \/ sc.names.lookup x = some .cell
 nofree : ∀ y ∈ sc.names, y.2 ≠ .free
theorem ab0 {kindOf : Str -> Option NameKind} {x : Str} : ∀ {binds : List (Str × Value)} {m : Str -> Option Value}, (∀ v, (x, v) ∉ binds) -> bindL kindOf binds m x = m x
 | [], _, _ => rfl
 | (n, v) :: r, m, h => by
  unfold bindL
  rw [ab0 fun w hw => h w (anY _ hw)]
  split
  ·have : x ≠ n := by rintro rfl; exact h v an0
   simp [this]
  ·rfl
theorem ab1 {kindOf : Str -> Option NameKind} {x : Str} : ∀ {binds : List (Str × Value)} {m : Str -> Option Value}, (∀ v, (x, v) ∉ binds) -> bindC kindOf binds m x = m x
 | [], _, _ => rfl
 | (n, v) :: r, m, h => by
  unfold bindC
  rw [ab1 fun w hw => h w (anY _ hw)]
  split
  ·rfl
  ·have : x ≠ n := by rintro rfl; exact h v an0
   simp [this]
theorem ab2 {kindOf : Str -> Option NameKind} {x : Str} {v : Value} : ∀ {P : List Str} {vs : List Value} {i : Nat} {m : Str -> Option Value}, P.Nodup -> P[i]? = some x -> vs[i]? = some v -> kindOf x = some .local ->
  bindL kindOf (P.zip vs) m x = some v
 | [], _, _, _, _, h, _, _ => by simp at h
 | _ :: _, [], _, _, _, _, h, _ => by simp at h
 | p :: P, w :: vs, 0, m, nd, h1, h2, hk => by
  simp at h1 h2; subst h1; subst h2
  show bindL kindOf ((p, w) :: P.zip vs) m p = _
  unfold bindL
  rw [ab0 fun v hv => (aoY.mp nd).1 (aq8 hv).1, if_pos hk]
  simp
 | p :: P, w :: vs, i + 1, m, nd, h1, h2, hk => by
  show bindL kindOf ((p, w) :: P.zip vs) m x = _
  unfold bindL
  exact ab2 (i := i) (aoY.mp nd).2 (by simpa using h1) (by simpa using h2) hk
theorem ab3 {kindOf : Str -> Option NameKind} {x : Str} {v : Value} : ∀ {P : List Str} {vs : List Value} {i : Nat} {m : Str -> Option Value}, P.Nodup -> P[i]? = some x -> vs[i]? = some v -> kindOf x ≠ some .local ->
  bindC kindOf (P.zip vs) m x = some v
 | [], _, _, _, _, h, _, _ => by simp at h
 | _ :: _, [], _, _, _, _, h, _ => by simp at h
 | p :: P, w :: vs, 0, m, nd, h1, h2, hk => by
  simp at h1 h2; subst h1; subst h2
  show bindC kindOf ((p, w) :: P.zip vs) m p = _
  unfold bindC
  rw [ab1 fun v hv => (aoY.mp nd).1 (aq8 hv).1, if_neg hk]
  simp
 | p :: P, w :: vs, i + 1, m, nd, h1, h2, hk => by
  show bindC kindOf ((p, w) :: P.zip vs) m x = _
  unfold bindC
  exact ab3 (i := i) (aoY.mp nd).2 (by simpa using h1) (by simpa using h2) hk
def start (N : List Str) (vs : List V) : St := vs.map some ++ aqr (N.length - vs.length) none
def yf (CX : CXT) (P : Program) (w : World) (K : anS) (mg : Str -> Option Value) (base : Heap) (N : List Str) (qual : Str) (scope : Scope) (f : Addr) (cd : Value) (A : Around) (outer : List Env) (s : Shared) (H : Hp) (E : XK) : Cx where
 prog := P
 w := w
 K := K
 mg := mg
 base := base
 A := A.deeper (envOfC qual scope s.heap.objs.size f cd)
 N := N
 s₀ := s
 H₀ := H
 env := envOfC qual scope s.heap.objs.size f cd
 outer := outer
 stack := envOfC qual scope s.heap.objs.size f cd :: outer
 ex := []
 calm := true
 fn := fun _ => true
 pn := []
 xe := fun e s' => wpAny (model P w) (A.deeper (envOfC qual scope s.heap.objs.size f cd)) (leaving (envOfC qual scope s.heap.objs.size f cd) e) (fun _ s'' => CX outer H s E e s'') (fun e' s'' => CX outer H s E e' s'') s'
theorem adA {sc : Scope} {n : Nat} {x : Str} (h : sc.names.lookup x = some .cell) : ∃ c, (cellsFrom n sc.names []).lookup x = some c := by
 have q := aqf sc.names n [] (.inl h)
 exact aqF.mp q
theorem ag2 {CX : CXT} {P : Program} {w : World} {K : anS} {mg : Str -> Option Value} {base : Heap} {N ps : List Str} {qual : Str} {scope : Scope} {f : Addr} {cd : Value} {A : Around} {outer : List Env} {s s1 : Shared} {H : Hp} {E : XK} {us : List Value} {vs : List V}
  (S : FnScope N ps scope) (hd : A.handled = none) (e0 : Env0 P w K mg base A outer s H) (hl : vs.length = ps.length) (r : Vals vs us)
  (x : InCallC s s.heap.objs.size (bindL (envOfC qual scope s.heap.objs.size f cd).kindOf (ps.zip us) fun _ => none) (cellsFrom (s.heap.objs.size + 1) scope.names []) (bindC (envOfC qual scope s.heap.objs.size f cd).kindOf (ps.zip us) fun _ => none) s1) :
  Inv (yf CX P w K mg base N qual scope f cd A outer s H E) [] (start N vs) H s1 := by
 have hpl : ps.length <= N.length := by have := congrArg List.length S.pre; rw [aoA] at this; omega
 obtain ⟨h1, tk, rfl, hk⟩ := x.done
 have noA : ∀ b : Addr, b ∉ (yf CX P w K mg base N qual scope f cd A outer s H E).ex := fun b z => absurd (show b ∈ ([] : List Addr) from z) (by simp)
 refine ⟨⟨e0.mod, S.kind, rfl, rfl, anW _, fun y z c h1 h2 => ?_, fun y hy => ?_, fun y c _ h => ?_, fun _ => hd, Around.frames_deeper e0.frames, .inr ⟨rfl, rfl⟩, fun b z => absurd z (noA b), e0.bs, e0.bsz, fun b _ _ => noA b, fun b z => absurd z (noA b), e0.funs, e0.frf⟩,
  rfl, e0.bare, Un.kept hk, ⟨_, x.toInCall.ns, fun i y v h1 h2 h3 => ?_⟩, fun y c h => ⟨_, x.cell y c h⟩, e0.hok.fresh (anW _), fun y c h => ?_, fun p hp => absurd (show p ∈ ([] : List (Addr × Obj)) from hp) (by simp), e0.hok.kept hk, ?_⟩
 ·exact name_of_addr x.apart (ap8 h1) (ap8 h2)
 ·have hy : scope.names.lookup y = some .cell \/ scope.names.lookup y = some .free := hy
  rcases hy with hy | hy
  ·exact adA hy
  ·exact absurd rfl (S.nofree _ (ap8 hy))
 ·exact apj (x.above y c (ap8 h))
 ·have hi : i < vs.length := by
   unfold start at h2
   by_cases hi : i < vs.length
   ·exact hi
   ·rw [aol (by simpa using hi)] at h2
    rw [aqc] at h2
    split at h2 <;> cases h2
  have ha : vs[i]? = some v := by
   unfold start at h2
   rw [aoj (by simpa using hi), aob] at h2
   cases e : vs[i]? with
   | none => rw [e] at h2; cases h2
   | some a => rw [e] at h2; cases h2; rfl
  obtain ⟨u, hu, rv⟩ := r.get ha
  have hp : ps[i]? = some y := by
   rw [<- S.pre, aqG (by omega)]; exact h1
  have ndP : ps.Nodup := by rw [<- S.pre]; exact S.nd.sublist (arD _ _)
  refine ⟨u, rv, ?_⟩
  rcases S.par y (aof hp) with k | k
  ·exact .inl ⟨k, ab2 ndP hp hu k⟩
  ·obtain ⟨c, e⟩ := adA (n := s.heap.objs.size + 1) k
   refine .inr ⟨.inl k, c, e, ?_⟩
   have q := x.cell y c e
   rw [ab3 ndP hp hu (by show scope.names.lookup y ≠ _; rw [k]; decide)] at q
   exact q
 ·exact e0.hok.fresh (apj (x.above y c (ap8 h)))
 ·unfold start
  show _ = N.length
  rw [aoh, anQ, aqU]
  omega
theorem anf {CX : CXT} {P : Program} {w : World} {K : anS} {mg : Str -> Option Value} {base : Heap} {k : Nat} {f : Addr} {name qual : Str} {params : Arguments} {body : List Stmt} {scope : Scope} {dV kV doc pm cdv ct oc : Value} {an od : Option Addr}
  {osl : Array (Option Value)} {N ps : List Str} {sp : Sp} (lk : K.lookup f = some ⟨oc, od, .func (ap0 name qual params body scope dV kV doc pm an cdv ct), osl⟩) (hcd : arq K cdv qual = true) (S : FnScope N ps scope)
  (len : ∀ vs H Q E, sp vs H Q E -> vs.length = ps.length)
  (hbody : ∀ (A : Around) (outer : List Env) (s : Shared) (H : Hp) (vs : List V) (Q : VK) (E : XK), Room k (A.deeper (envOfC qual scope s.heap.objs.size f cdv)) -> sp vs H Q E ->
   ∃ t, PSs (yf CX P w K mg base N qual scope f cdv A outer s H E) body t /\ t { nx := fun _ H' => Q .non H', rt := Q } (start N vs) H) :
  FnOk P w K mg base CX (k + 1) f (ap0 name qual params body scope dV kV doc pm an cdv ct) ps sp := by
 refine ⟨len, fun A outer s H args us vs Q E hr e0 hb r hsp => ?_⟩
 have hl := len _ _ _ _ hsp
 have KX : K.In s.heap := e0.mod.kin.keeps fun b o e => (e0.bs b o e).1
 have lim : s.heap.NoLimit := e0.mod.nolimit.keeps fun b o e => (e0.bs b o e).1
 have hkind : ∀ y ∈ ps.zip us, scope.names.lookup y.1 = some .local \/ (scope.names.lookup y.1 = some .cell /\ ((cellsFrom (s.heap.objs.size + 1) scope.names []).lookup y.1).isSome = true) := fun ⟨n, v⟩ hy => by
  rcases S.par n (aq8 hy).1 with q | q
  ·exact .inl q
  ·exact .inr ⟨q, aqf _ _ _ (.inl q)⟩
 refine codeAny_call_function hr.depth (KX _ _ lk) rfl S.co S.gen rfl (PySem.W.codeRec_of KX hcd) (hb _ _ _ _ ?_)
 refine wpAny_newFunctionEnv_cells S.kind hkind fun env he s1 x => ?_
 subst he
 refine ⟨lim.keeps x.toInCall.keep, codeAny_func ?_⟩
 obtain ⟨t, ht, hq⟩ := hbody A outer s H vs Q E (hr.deeper _) hsp
 have I : Inv (yf CX P w K mg base N qual scope f cdv A outer s H E) [] (start N vs) H s1 := ag2 S hr.hd e0 hl r x
 refine wpAny_mono (ht [] s1 (start N vs) H _ I hq) (fun fl s' hs => ?_) fun e s' hs => hs
 have fin : ∀ {σ' : St} {H' : Hp} {v : V} {u : Value}, Inv (yf CX P w K mg base N qual scope f cdv A outer s H E) [] σ' H' s' -> RelV v u -> Q v H' -> CE outer P w H s Q u s' :=
  fun {σ' H' v u} J rv q => ⟨v, H', J.os, J.bare, J.base, J.hok, rv, q⟩
 cases fl with
 | ret u =>
  obtain ⟨v, σ', H', J, rv, q⟩ := hs
  exact fin J rv q
 | next =>
  obtain ⟨σ', H', J, q⟩ := hs
  exact fin (v := V.non) (u := Value.none) J rfl q
 | brk =>
  obtain ⟨_, _, _, q⟩ := hs
  exact aqe q
 | cont =>
  obtain ⟨_, _, _, q⟩ := hs
  exact aqe q
end L2
namespace L2
open PySem PySem.Spec PyProof.Rows
section
variable {X : Cx} {x : Str} {p pos : Pos} {e : Expr} {es : List Expr} {t : TA} {id T : String} {r : List V -> Hp -> VK -> Prop}
def tCB (r : List V -> Hp -> VK -> Prop) (t : TA) : TE := fun σ H Q => t σ H fun vs H1 => r vs H1 Q
theorem zC (hc : z6 X (.builtin id) r) (hg : Gl X x) (hm : X.mg x = none) (hv : bootBuiltins x = some (.builtin id)) (ha : PA X (e :: es) t) (hn : x ≠ "__name__" := by decide) (hdb : (x == ("__debug__" : Str)) = false := by decide)
  (he : starEach (e :: es) X.env = (false, eval e X.env) :: starEach es X.env := by rfl) (hpl : (backTo pos (starEach es X.env)).any (·.1) = false := by rfl) : PE X (.Call (.Name x p) (e :: es) [] pos) (tCB r t) := by
 intro pins s σ H Q I h
 refine wpAny_Call_Name_kw (qc I hg hm hv ?_ hn hdb)
 exact PyProof.Rows.callWith_builtin1 (thn (ha pos pins s σ H _ I h) fun us s1 ⟨vs, H1, I1, r1, q1⟩ => hc pins s1 σ H1 vs us Q I1 r1 q1) he hpl
theorem jw (hc : z6 X (.type T) r) (hg : Gl X x) (hm : X.mg x = none) (hv : bootBuiltins x = some (.type T)) (ha : PA X (e :: es) t) (hn : x ≠ "__name__" := by decide) (hdb : (x == ("__debug__" : Str)) = false := by decide)
  (he : starEach (e :: es) X.env = (false, eval e X.env) :: starEach es X.env := by rfl) (hpl : (backTo pos (starEach es X.env)).any (·.1) = false := by rfl) : PE X (.Call (.Name x p) (e :: es) [] pos) (tCB r t) := by
 intro pins s σ H Q I h
 refine wpAny_Call_Name_kw (qc I hg hm hv ?_ hn hdb)
 exact ao0 (thn (ha pos pins s σ H _ I h) fun us s1 ⟨vs, H1, I1, r1, q1⟩ => hc pins s1 σ H1 vs us Q I1 r1 q1) he hpl
theorem aeN (hc : z6 X (.type T) r) (hg : Gl X x) (hm : X.mg x = none) (hv : bootBuiltins x = some (.type T)) (hn : x ≠ "__name__" := by decide) (hdb : (x == ("__debug__" : Str)) = false := by decide) :
  PE X (.Call (.Name x p) [] [] pos) (tCB r yP) := by
 intro pins s σ H Q I h
 refine wpAny_Call_Name_kw (qc I hg hm hv ?_ hn hdb)
 exact PyProof.Rows.callWith_type0 (hc pins s σ H [] [] Q I .nil h)
end
end L2
namespace HT
open PySem PyProof.Rows
theorem rcLt_int (A : Around) (s : Shared) (a : Int) (t : Tok) (c : Int) (u : Tok) (prog : Program) (w : World) (E : Value -> Shared -> Prop) (Q : Value -> Shared -> Prop) (h : Q (.bool (decide (a < c))) s) :
  wpAny (model prog w) A (richCompare .Lt (.int a t) (.int c u)) Q E s :=
 (PyProof.Rows.lt_int h : wpAny (model prog w) A (compareOp .Lt (.int a t) (.int c u)) Q E s)
section
open PySem.SeqAt
open PySem.AutoSeq1 (wpAny_loadPart')
open PySem.MeetsSeq PySem.MeetsSeq2 PySem.MeetsSeq3
end
section
variable {prog : Program} {w : World} {A : Around} {E : Value -> Shared -> Prop} {s : Shared}
def sIx (n d : Nat) : Option Int -> Nat
 | none => d
 | some v => if v < 0 then (v + (n : Int)).toNat else min v.toNat n
theorem afM (n d k : Nat) : sIx n d (some (k : Int)) = min k n := by
 show (if (k : Int) < 0 then ((k : Int) + (n : Int)).toNat else min (k : Int).toNat n) = min k n
 rw [if_neg (by omega), apm]
theorem al9 (n d : Nat) (hd : d <= n) (o : Option Int) : sIx n d o <= n := by
 cases o with
 | none => exact hd
 | some v =>
  show (if v < 0 then (v + (n : Int)).toNat else min v.toNat n) <= n
  by_cases hv : v < 0
  ·rw [if_pos hv]; omega
  ·rw [if_neg hv]; exact aqu _ _
theorem afN (v : Int) (n d : Nat) : (if v < 0 then max (v + (n : Int)) 0 else min v (n : Int)) = ((sIx n d (some v) : Nat) : Int) := by
 show (if v < 0 then max (v + (n : Int)) 0 else min v (n : Int)) = (((if v < 0 then (v + (n : Int)).toNat else min v.toNat n) : Nat) : Int)
 by_cases hv : v < 0
 ·simp only [if_pos hv]; omega
 ·simp only [if_neg hv]; omega
theorem aeO (lo hi : Option Int) (n : Nat) : aqx lo hi 1 (n : Int) = (((sIx n 0 lo : Nat) : Int), ((sIx n n hi : Nat) : Int)) := by
 have h1 : ¬ ((1 : Int) < 0) := by omega
 unfold aqx
 simp only [h1, if_false]
 refine Prod.ext ?_ ?_
 ·cases lo with
  | none => rfl
  | some v => exact afN v n 0
 ·cases hi with
  | none => rfl
  | some v => exact afN v n n
theorem aeP (i j : Nat) : apO (i : Int) (j : Int) 1 = j - i := by
 unfold apO
 have h1 : (1 : Int) > 0 := by omega
 simp only [h1, if_true, Int.ediv_one]
 split <;> omega
theorem aa3 {v : Value} {o : Option Int} {Q : Option Int -> Shared -> Prop} (p : IsPart v o) (h : Q o s) : wpAny (model prog w) A (Builtin.Slice.slicePartIndex v) Q E s := by
 cases p with
 | none => exact slicePart_none h
 | int i t => exact slicePart_int h
theorem vY {sl : Addr} {vl vu : Value} {lo hi : Option Int} {n : Nat} {Q : Int × Int × Nat -> Shared -> Prop} (hs : s.heap.IsSliceOf sl vl vu .none) (pl : IsPart vl lo) (pu : IsPart vu hi)
  (h : Q (((sIx n 0 lo : Nat) : Int), 1, sIx n n hi - sIx n 0 lo) s) : wpAny (model prog w) A (ars (.ref sl) (pure (n : Int))) Q E s := by
 obtain ⟨os, hos, hcs, hds⟩ := id hs
 unfold ars Builtin.Slice.sliceFields
 refine wpAny_bind (wpAny_bind (wpAny_field hos hds (x := vl) rfl (wpAny_bind (wpAny_field hos hds (x := vu) rfl (wpAny_bind (wpAny_field hos hds (x := .none) rfl (wpAny_pure ?_)))))))
 refine wpAny_bind (slicePart_none ?_)
 show wpAny _ _ (if ((1 : Int) == 0) = true then _ else _) _ _ s
 rw [if_neg (by decide)]
 refine wpAny_bind (aa3 pl (wpAny_bind (aa3 pu (wpAny_bind (wpAny_pure ?_)))))
 show wpAny _ _ (match aqx lo hi 1 (n : Int) with | (lo, hi) => pure (lo, (1 : Int), apO lo hi 1)) _ _ s
 rw [aeO lo hi n]
 show wpAny _ _ (pure (((sIx n 0 lo : Nat) : Int), (1 : Int), apO ((sIx n 0 lo : Nat) : Int) ((sIx n n hi : Nat) : Int) 1)) _ _ s
 rw [aeP]
 exact wpAny_pure h
theorem aik (xs : Array Value) (i k : Nat) : ((aoq k).filterMap fun (m : Nat) => xs[((i : Int) + (m : Int) * 1).toNat]?).toArray = ((xs.toList.drop i).take k).toArray := by
 have e : (fun (m : Nat) => xs[((i : Int) + (m : Int) * 1).toNat]?) = fun m => xs[i + m]? := by
  funext m
  have : ((i : Int) + (m : Int) * 1).toNat = i + m := by omega
  rw [this]
 rw [e]
 have := pick_run xs i k
 rw [List.filterMap_map] at this
 have e2 : ((fun x => xs[x]?) ∘ fun x => i + x) = fun m => xs[i + m]? := rfl
 rw [e2] at this
 rw [this]
theorem getItem_tuple_cut {t sl : Addr} {items : Array Value} {vl vu : Value} {lo hi : Option Int} {Q : Value -> Shared -> Prop} (ht : IsTup s.heap t items) (hs : s.heap.IsSliceOf sl vl vu .none) (pl : IsPart vl lo) (pu : IsPart vu hi)
  (hw : ¬ (sIx items.size 0 lo = 0 /\ sIx items.size items.size hi = items.size))
  (h : Q (.ref s.heap.objs.size) { s with heap := s.heap.push { cls := .type "tuple", data := .seq ((items.toList.drop (sIx items.size 0 lo)).take (sIx items.size items.size hi - sIx items.size 0 lo)).toArray } })
  (hsz : items.size <= sizeLine) : wpAny (model prog w) A (getItem (.ref t) (.ref sl)) Q E s := by
 have htake : sizeOk (.seq ((items.toList.drop (sIx items.size 0 lo)).take (sIx items.size items.size hi - sIx items.size 0 lo)).toArray) := by
  show ((items.toList.drop (sIx items.size 0 lo)).take (sIx items.size items.size hi - sIx items.size 0 lo)).toArray.size <= sizeLine
  rw [aod, aoA, ao6, aok]
  omega
 have hj : sIx items.size items.size hi <= items.size := al9 _ _ (anW _) hi
 obtain ⟨os, hos, hcs, hds⟩ := id hs
 have hTs : s.TypeIs (.ref sl) "slice" := ⟨os, hos, hcs⟩
 unfold getItem
 try with_reducible refine wpAny_holding ?_
 first | refine wpAny_bind (wpAny_pure ?_) | skip
 refine wpAny_bind (wpAny_sequenceKey ht.typeIs (by decide) ?_)
 refine wpAny_bind (wpAny_callSpecial?_slot (name := apE "__getitem__") ht.typeIs ap7
  (wpAny_call_entry ap7 ht.typeIs entry_tuple_getitem ?_ (args_tuple_getitem _ _)))
 show wpAny _ _ (art (.ref t) >>= _) _ _ s
 refine wpAny_bind (tupleItemsOf_ ht ?_)
 refine wpAny_bind (wpAny_typeOf hTs ?_)
 rw [if_pos (by decide)]
 refine wpAny_bind (vY hs pl pu ?_)
 have hno : ¬ ((((sIx items.size 0 lo : Nat) : Int) == 0 && (1 : Int) == 1 && (sIx items.size items.size hi - sIx items.size 0 lo) == items.size) = true) := by
  intro q
  rw [anZ, anZ] at q
  have q1 : ((sIx items.size 0 lo : Nat) : Int) = 0 := eq_of_beq q.1.1
  have q2 : sIx items.size items.size hi - sIx items.size 0 lo = items.size := eq_of_beq q.2
  exact hw ⟨by omega, by omega⟩
 show wpAny _ _ (if (((sIx items.size 0 lo : Nat) : Int) == 0 && (1 : Int) == 1 && (sIx items.size items.size hi - sIx items.size 0 lo) == items.size) = true then _ else _) _ _ s
 rw [if_neg hno, aik]
 first
  | exact wpAny_bind (m := ap3 _) (wpAny_newObj_type (wpAny_pure ⟨_, rfl, wpAny_pure h⟩) htake)
  | exact wpAny_bind (m := ap3 _) (wpAny_newObj_type (wpAny_bind (wpAny_pure (wpAny_pure ⟨_, rfl, wpAny_pure h⟩))) htake)
  | exact wpAny_bind (wpAny_bind (m := ap3 _) (wpAny_newObj_type (wpAny_pure (wpAny_pure ⟨_, rfl, wpAny_pure h⟩)) htake))
  | exact wpAny_bind (wpAny_bind (m := ap3 _) (wpAny_newObj_type (wpAny_pure ⟨_, rfl, wpAny_pure h⟩) htake))
end
end HT
namespace L2
open PySem PySem.Spec PyProof.Rows
abbrev TO := St -> Hp -> (Option Int -> Hp -> Prop) -> Prop
def PO (X : Cx) (e : Option Expr) (t : TO) : Prop :=
 ∀ (pins : List (Addr × Obj)) (s : Shared) (σ : St) (H : Hp) (Q : Option Int -> Hp -> Prop), Inv X pins σ H s -> t σ H Q ->
  wpAny (model X.prog X.w) X.A (evalPart e X.env) (fun u s' => ∃ o H', Inv X pins σ H' s' /\ IsPart u o /\ Q o H') X.xe s
def afO : TO := fun _ H Q => Q none H
def alv (t : TE) : TO := fun σ H Q => t σ H fun x H1 => ∃ i, x = .int i /\ Q (some i) H1
theorem intsAre_of {ns : List Int} : ∀ {us : List Value}, Vals (ns.map V.int) us -> IntsAre us ns := by
 induction ns with
 | nil => intro us r; rw [arj] at r; cases r; exact .nil
 | cons n ns ih =>
  intro us r
  rw [aor] at r
  cases r with
  | cons r1 r2 =>
   obtain ⟨t, e⟩ := r1
   subst e
   exact .cons n t (ih r2)
section
variable {X : Cx} {e : Expr} {te : TE} {lo hi : Option Expr} {tl th : TO} {pos p2 : Pos}
theorem acC : PO X none afO := by
 intro pins s σ H Q I h
 rw [evalPart_none]
 exact wpAny_pure ⟨none, H, I, .none, h⟩
theorem acD (h : PE X e te) : PO X (some e) (alv te) := by
 intro pins s σ H Q I hw
 rw [evalPart_some]
 refine thn (h pins s σ H _ I hw) fun u s1 ⟨x, H1, I1, r1, q1⟩ => ?_
 obtain ⟨i, rfl, q⟩ := q1
 obtain ⟨t, rfl⟩ := r1
 exact ⟨some i, H1, I1, .int i t, q⟩
def SlR (X : Cx) (r : V -> Option Int -> Option Int -> Hp -> VK -> Prop) : Prop :=
 ∀ (pins : List (Addr × Obj)) (s : Shared) (σ : St) (H : Hp) (x : V) (v vl vu : Value) (lo hi : Option Int) (sl : Addr) (Q : VK), Inv X pins σ H s -> RelV x v -> s.heap.IsSliceOf sl vl vu .none -> IsPart vl lo -> IsPart vu hi -> r x lo hi H Q ->
  ∃ T id, typeLookup (.type T) "__getitem__" = pure (some (.builtin id)) /\ s.TypeIs v T /\ wpAny (model X.prog X.w) X.A (getItem v (.ref sl)) (EP X pins σ Q) X.xe s
def tSl (r : V -> Option Int -> Option Int -> Hp -> VK -> Prop) (te : TE) (tl th : TO) : TE := fun σ H Q => te σ H fun x H1 => tl σ H1 fun l H2 => th σ H2 fun u H3 => r x l u H3 Q
theorem aa4 {r : V -> Option Int -> Option Int -> Hp -> VK -> Prop} (hr : SlR X r) (he : PE X e te) (hl : PO X lo tl) (hu : PO X hi th) : PE X (.Subscript e (.Slice lo hi none p2) pos) (tSl r te tl th) := by
 intro pins s σ H Q I h
 refine Subscript_ (thn (he pins s σ H _ I h) fun v s1 ⟨x, H1, I1, r1, q1⟩ => ?_)
 refine wpAny_Slice (thn (hl pins s1 σ H1 _ I1 q1) fun vl s2 ⟨l, H2, I2, pl, q2⟩ => thn (hu pins s2 σ H2 _ I2 q2) fun vu s3 ⟨u, H3, I3, pu, q3⟩ => ?_)
 rw [evalPart_none]
 refine wpAny_pure ?_
 have I4 : Inv X pins σ H3 { s3 with heap := s3.heap.push { cls := .type "slice", data := .fields #[vl, vu, .none] } } := I3.kept (t' := s3.toks) fun b ob q => anV _ q
 obtain ⟨T, id, hT, ht, hg⟩ := hr pins { s3 with heap := s3.heap.push { cls := .type "slice", data := .fields #[vl, vu, .none] } } σ H3 x v vl vu l u s3.heap.objs.size Q I4 r1 (Heap.IsSliceOf.new ..) pl pu q3
 show wpAny (model X.prog X.w) X.A (subscriptTail e (.Slice lo hi none p2) v (.ref s3.heap.objs.size)) (EP X pins σ Q) X.xe { s3 with heap := s3.heap.push { cls := .type "slice", data := .fields #[vl, vu, .none] } }
 exact tail_any (ops := [.ref s3.heap.objs.size, v]) ht hT hg (by with_unfolding_all rfl)
def abH (xs : List V) (lo hi : Option Int) : List V := (xs.drop (HT.sIx xs.length 0 lo)).take (HT.sIx xs.length xs.length hi - HT.sIx xs.length 0 lo)
theorem aam (xs : List V) (lo hi : Option Int) : (abH xs lo hi).length <= xs.length := by
 unfold abH
 rw [aoA, ao6]
 omega
def ama (K : anS) : V -> Option Int -> Option Int -> Hp -> VK -> Prop := fun x lo hi H Q => ∃ a xs, x = .ref a /\ SqT K H a xs /\
 ¬ (HT.sIx xs.length 0 lo = 0 /\ HT.sIx xs.length xs.length hi = xs.length) /\ ∀ p, H p = none -> Q (.ref p) (upd H p (.tup (abH xs lo hi)))
theorem amb : SlR X (ama X.K) := by
 intro pins s σ H x v vl vu lo hi sl Q I rx hs pl pu h
 obtain ⟨a, xs, rfl, hx, hw, q⟩ := h
 cases rx
 obtain ⟨its, r, ht, hz⟩ := I.tuple hx
 have hlen : its.toArray.size = xs.length := by rw [aod]; exact r.length.symm
 refine ⟨"tuple", _, ap7.lookup, ht.typeIs, ?_⟩
 refine HT.getItem_tuple_cut ht hs pl pu (by rw [hlen]; exact hw) ?_ (by rw [hlen]; exact hz)
 rw [hlen]
 refine ⟨.ref s.heap.objs.size, _, I.laid (t' := s.toks) (o := .tup (abH xs lo hi)) (fun b ob q => anV _ q) (anW _) ?_, rfl, q _ (I.hok.fresh (anW _))⟩
 exact ⟨aou (aam xs lo hi) hz, _, (r.drop (HT.sIx xs.length 0 lo)).take (HT.sIx xs.length xs.length hi - HT.sIx xs.length 0 lo), IsTup.new _ _⟩
end
end L2
namespace L2
open PySem PySem.Spec PyProof.Rows
def ixN (n : Nat) (i : Int) : Option Nat := if 0 <= i then (if i < n then some i.toNat else none) else if -(n : Int) <= i then some (i + n).toNat else none
def atI {α : Type} (xs : List α) (i : Int) : Option α := (ixN xs.length i).bind fun j => xs[j]?
theorem afP {n : Nat} {i : Int} {j : Nat} (h : ixN n i = some j) : seqIndex? i n = some j /\ j < n /\ -(n : Int) <= i /\ i < n := by
 unfold ixN at h
 by_cases h0 : 0 <= i
 ·rw [if_pos h0] at h
  by_cases h1 : i < n
  ·rw [if_pos h1] at h
   have e : i.toNat = j := Option.some.inj h
   exact ⟨by rw [seqIndex_of h0 h1, e], by omega, by omega, h1⟩
  ·rw [if_neg h1] at h; cases h
 ·rw [if_neg h0] at h
  by_cases h1 : -(n : Int) <= i
  ·rw [if_pos h1] at h
   have e : (i + n).toNat = j := Option.some.inj h
   exact ⟨by rw [seqIndex_neg (by omega) h1, e], by omega, h1, by omega⟩
  ·rw [if_neg h1] at h; cases h
theorem afQ {α : Type} {xs : List α} {i : Int} {v : α} (h : atI xs i = some v) : ∃ j, seqIndex? i xs.length = some j /\ xs[j]? = some v /\ j < xs.length /\ -(xs.length : Int) <= i /\ i < xs.length := by
 unfold atI at h
 cases e : ixN xs.length i with
 | none => rw [e] at h; cases h
 | some j =>
  rw [e] at h
  obtain ⟨h1, h2, h3, h4⟩ := afP e
  exact ⟨j, h1, h, h2, h3, h4⟩
theorem aaH {α : Type} {xs : List α} {j : Nat} {v : α} (h : xs[j]? = some v) : atI xs (j : Int) = some v := by
 have hj : j < xs.length := (anT.mp h).1
 have e : ixN xs.length (j : Int) = some j := by
  unfold ixN
  rw [if_pos (by omega), if_pos (by omega)]; simp
 unfold atI; rw [e]; exact h
def afR (b : Expr) : Prop := ∀ o i, subscripted b false o i = operate [o, i] (getItem o i)
def IxR (X : Cx) (r : R2) : Prop :=
 ∀ (value slice : Expr) (pins : List (Addr × Obj)) (s : Shared) (σ : St) (H : Hp) (x y : V) (v u : Value) (Q : VK), Inv X pins σ H s -> RelV x v -> RelV y u -> r x y H Q ->
  subscripted slice false v u = operate [v, u] (getItem v u) -> wpAny (model X.prog X.w) X.A (subscriptTail value slice v u) (EP X pins σ Q) X.xe s
def MtR (X : Cx) (id : String) (r : V -> List V -> Hp -> VK -> Prop) : Prop :=
 ∀ (pins : List (Addr × Obj)) (s : Shared) (σ : St) (H : Hp) (x : V) (xs : List V) (v : Value) (us : List Value) (Q : VK), Inv X pins σ H s -> RelV x v -> Vals xs us -> r x xs H Q ->
  wpAny (model X.prog X.w) X.A (call (.builtin id) (v :: us)) (EP X pins σ Q) X.xe s
section
variable {X : Cx} {a b : Expr} {ta tb : TE} {pos : Pos}
theorem zV {r : R2} (hr : IxR X r) (ha : PE X a ta) (hb : PE X b tb) (hs : afR b) : PE X (.Subscript a b pos) (tOp r ta tb) := by
 intro pins s σ H Q I h
 exact Subscript_ (al4 ha hb I h fun v u s2 x y H2 I2 rx ry q => hr a b pins s2 σ H2 x y v u Q I2 rx ry q (hs _ _))
def aeQ (K : anS) : R2 := fun x y H Q => ∃ p xs i v, x = .ref p /\ y = .int i /\ SqL K H p xs /\ atI xs i = some v /\ Q v H
def amc (K : anS) : R2 := fun x y H Q => ∃ p xs i v, x = .ref p /\ y = .int i /\ SqT K H p xs /\ atI xs i = some v /\ Q v H
theorem akb : IxR X (aeQ X.K) := by
 intro value slice pins s σ H x y v u Q I rx ry h hs
 obtain ⟨p, xs, i, z, rfl, rfl, hq, he, q⟩ := h
 cases rx
 obtain ⟨t, rfl⟩ := ry
 obtain ⟨its, r, pl, hz⟩ := I.list hq
 obtain ⟨j, h1, h2, h3, h4, h5⟩ := afQ he
 obtain ⟨w, ew, rw'⟩ := r.get h2
 have hl := r.length
 have hn := aa1
 have fin : EP X pins σ Q w s := ⟨z, H, I, rw', q⟩
 by_cases h0 : 0 <= i
 ·have hj : i.toNat = j := by
   rw [seqIndex_of h0 h5] at h1
   exact Option.some.inj h1
  exact item_listR pl.isList h0 (by omega) (by rw [hj]; simpa using ew) fin hs
 ·have hj : (i + (its.toArray.size : Int)).toNat = j := by
   rw [seqIndex_neg (by omega) h4] at h1
   rw [aod, <- hl]
   exact Option.some.inj h1
  exact subscriptTail_builtinR (x := w) pl.isList.typeIs slot_list_getitem.lookup
   (wpAny_getItem_list_neg (Q := fun r s' => r = w /\ EP X pins σ Q r s') pl.isList (by omega) (by rw [aod] <;> omega) (by omega) (by rw [hj]; simpa using ew) ⟨rfl, fin⟩) hs
theorem amd : IxR X (amc X.K) := by
 intro value slice pins s σ H x y v u Q I rx ry h hs
 obtain ⟨p, xs, i, z, rfl, rfl, hq, he, q⟩ := h
 cases rx
 obtain ⟨t, rfl⟩ := ry
 obtain ⟨its, r, pl, hz⟩ := I.tuple hq
 obtain ⟨j, h1, h2, h3, h4, h5⟩ := afQ he
 obtain ⟨w, ew, rw'⟩ := r.get h2
 have hl := r.length
 have hn := aa1
 have fin : EP X pins σ Q w s := ⟨z, H, I, rw', q⟩
 exact subscriptTail_builtinR (x := w) pl.typeIs slot_tuple_getitem.lookup
  (getItem_tuple (j := j) (Q := fun r s' => r = w /\ EP X pins σ Q r s') pl (by omega) (by omega) (by rw [aod, <- hl]; exact h1) (by simpa using ew) ⟨rfl, fin⟩) hs
theorem aeR (its : List Value) (n j : Nat) (u : Value) : ap4 (·.setIfInBounds j u) { cls := .type "list", data := .seq its.toArray n } = { cls := .type "list", data := .seq (its.set j u).toArray n } := by
 simp [ap4]
theorem Inv.lst {pins : List (Addr × Obj)} {σ : St} {H : Hp} {s : Shared} {p : Addr} {xs : List V} (I : Inv X pins σ H s) (h : H p = some (.lst xs)) :
  ∃ (its : List Value) (n : Nat), Vals xs its /\ s.heap.get? p = some { cls := .type "list", data := .seq its.toArray n } /\ xs.length <= sizeLine := by
 obtain ⟨z, its, n, r, e⟩ := I.hok p _ h
 exact ⟨its, n, r, e, z⟩
theorem Inv.lstUpd {pins : List (Addr × Obj)} {σ : St} {H : Hp} {s : Shared} {p : Addr} {xs ys : List V} {its its' : List Value} {n n' : Nat} {f : Obj -> Obj} (I : Inv X pins σ H s) (h : H p = some (.lst xs))
  (ho : s.heap.get? p = some { cls := .type "list", data := .seq its.toArray n }) (hf : f { cls := .type "list", data := .seq its.toArray n } = { cls := .type "list", data := .seq its'.toArray n' }) (r : Vals ys its') (hz : ys.length <= sizeLine) (t : Nat) :
  Inv X pins σ (upd H p (.lst ys)) { s with heap := s.heap.update p f, toks := t } := by
 have e : (s.heap.update p f).get? p = some { cls := .type "list", data := .seq its'.toArray n' } := by
  rw [apb f ho (by rw [hf] <;> rfl), hf]
 refine I.write (x := p) (e := p) (by rw [h]; trivial) (.inl rfl) (fun b u hb q => (aoM _ _ (ape hb)).trans q) ⟨_, e⟩ ?_
 exact ⟨hz, its', n', r, e⟩
def vd : V -> V -> V -> Hp -> (Hp -> Prop) -> Prop := fun o i v H Q => ∃ p xs k j, o = .ref p /\ i = .int k /\ H p = some (.lst xs) /\ ixN xs.length k = some j /\ Q (upd H p (.lst (xs.set j v)))
theorem set_list : aj3 X vd := by
 intro pins s σ H o i v ov iv u Q I ro ri rv h
 obtain ⟨p, xs, k, j, rfl, rfl, hp, hj, q⟩ := h
 cases ro
 obtain ⟨t, rfl⟩ := ri
 obtain ⟨its, n, r, ho, hz⟩ := I.lst hp
 obtain ⟨h1, h2, h3, h4⟩ := afP hj
 have hl := r.length
 have hn := aa1
 have I' : Inv X pins σ (upd H p (.lst (xs.set j v))) { s with heap := s.heap.update p (ap4 (·.setIfInBounds j u)) } :=
  I.lstUpd hp ho (aeR its n j u) (r.set rv j) (by rw [apf]; exact hz) s.toks
 by_cases h0 : 0 <= k
 ·have hk : k.toNat = j := by
   rw [seqIndex_of h0 h4] at h1
   exact Option.some.inj h1
  exact PySem.W.ki_setAt ho h0 (by omega) (by rw [aod, <- hl]; exact h4) (by rw [hk]; exact ⟨_, I', q⟩)
 ·have hk : (k + (its.toArray.size : Int)).toNat = j := by
   rw [seqIndex_neg (by omega) h3] at h1
   rw [aod, <- hl]
   exact Option.some.inj h1
  exact PySem.W.ki_setBack ho (by omega) (by rw [aod, <- hl]; exact h3) (by omega) (by rw [hk]; exact ⟨_, I', q⟩)
theorem acE (lo hi : Option Int) (n : Nat) : (sliceBounds lo hi none n).1 = ((HT.sIx n 0 lo : Nat) : Int) /\ (sliceBounds lo hi none n).2.1 = ((HT.sIx n n hi : Nat) : Int) /\ (sliceBounds lo hi none n).2.2 = 1 := by
 refine ⟨?_, ?_, rfl⟩
 ·cases lo with
  | none => simp [sliceBounds, HT.sIx]
  | some i =>
   simp only [sliceBounds, HT.sIx, Option.getD_none, show (1 : Int) > 0 by decide, if_true]
   by_cases h : i < 0
   ·simp only [h, if_true] <;> omega
   ·simp only [h, if_false] <;> omega
 ·cases hi with
  | none => simp [sliceBounds, HT.sIx]
  | some i =>
   simp only [sliceBounds, HT.sIx, Option.getD_none, show (1 : Int) > 0 by decide, if_true]
   by_cases h : i < 0
   ·simp only [h, if_true] <;> omega
   ·simp only [h, if_false] <;> omega
theorem abI (its : List Value) (lo hi : Option Int) : slicePick its.toArray lo hi none = ((its.drop (HT.sIx its.length 0 lo)).take (HT.sIx its.length its.length hi - HT.sIx its.length 0 lo)).toArray := by
 obtain ⟨h1, h2, h3⟩ := acE lo hi its.toArray.size
 unfold slicePick
 rw [h1, h2, h3]
 simp only [sliceRange_one, pick_run, aod] <;> rfl
def akc (K : anS) : V -> Option Int -> Option Int -> Hp -> VK -> Prop := fun x lo hi H Q => ∃ a xs, x = .ref a /\ SqL K H a xs /\ ∀ p, H p = none -> Q (.ref p) (upd H p (.lst (abH xs lo hi)))
theorem akd : SlR X (akc X.K) := by
 intro pins s σ H x v vl vu lo hi sl Q I rx hs pl pu h
 obtain ⟨a, xs, rfl, hx, q⟩ := h
 cases rx
 obtain ⟨its, r, ht, hz⟩ := I.list hx
 have hlen := r.length
 refine ⟨"list", _, slot_list_getitem.lookup, ht.isList.typeIs, ?_⟩
 refine wpAny_getItem_list_slice ht.isList hs pl pu .none (by simp) ?_ (by rw [aod] <;> omega)
 rw [abI, <- hlen]
 refine ⟨.ref s.heap.objs.size, _, I.laid (t' := s.toks) (o := .lst (abH xs lo hi)) (fun b ob q => anV _ q) (anW _) ?_, rfl, q _ (I.hok.fresh (anW _))⟩
 exact ⟨aou (aam xs lo hi) hz, _, 0, (r.drop (HT.sIx xs.length 0 lo)).take (HT.sIx xs.length xs.length hi - HT.sIx xs.length 0 lo), aoi _ rfl⟩
def aan : V -> Bool
 | .non => true
 | .bl _ => true
 | .int _ => true
 | .str _ => true
 | _ => false
def eqV : V -> V -> Bool
 | .non, .non => true
 | .bl a, .bl b => a == b
 | .bl a, .int b => (if a then 1 else 0) == b
 | .int a, .bl b => a == (if b then 1 else 0)
 | .int a, .int b => a == b
 | .str a, .str b => a == b
 | _, _ => false
theorem ame {A : Around} {s : Shared} {y x : V} {u v : Value} (ry : RelV y u) (rx : RelV x v) (fy : aan y = true) (fx : aan x = true) : SeqAt.EqAt A s u v (eqV y x) := by
 cases y with
 | non =>
  cases ry
  cases x with
  | non => cases rx; exact SeqAt.EqAt.same _
  | bl b => cases rx; exact SeqAt.EqAt.none_bool b
  | int b => obtain ⟨t, rfl⟩ := rx; exact SeqAt.EqAt.none_int b t
  | str b => obtain ⟨t, rfl⟩ := rx; exact SeqAt.EqAt.none_str b t
  | _ => exact absurd (show false = true from fx) anR
 | bl a =>
  cases ry
  cases x with
  | non => cases rx; exact SeqAt.EqAt.bool_none a
  | bl b => cases rx; exact SeqAt.EqAt.bool_bool a b
  | int b => obtain ⟨t, rfl⟩ := rx; exact SeqAt.EqAt.bool_int a b t
  | str b => obtain ⟨t, rfl⟩ := rx; exact SeqAt.EqAt.bool_str a b t
  | _ => exact absurd (show false = true from fx) anR
 | int a =>
  obtain ⟨t', rfl⟩ := ry
  cases x with
  | non => cases rx; exact SeqAt.EqAt.int_none a t'
  | bl b => cases rx; exact SeqAt.EqAt.int_bool a t' b
  | int b => obtain ⟨t, rfl⟩ := rx; exact SeqAt.EqAt.int_int a t' b t
  | str b => obtain ⟨t, rfl⟩ := rx; exact SeqAt.EqAt.int_str a t' b t
  | _ => exact absurd (show false = true from fx) anR
 | str a =>
  obtain ⟨t', rfl⟩ := ry
  cases x with
  | non => cases rx; exact SeqAt.EqAt.str_none a t'
  | bl b => cases rx; exact SeqAt.EqAt.str_bool a t' b
  | int b => obtain ⟨t, rfl⟩ := rx; exact SeqAt.EqAt.str_int a t' b t
  | str b => obtain ⟨t, rfl⟩ := rx; exact SeqAt.EqAt.str_str a t' b t
  | _ => exact absurd (show false = true from fx) anR
 | _ => exact absurd (show false = true from fy) anR
def eqU (x : V) (u : Value) : Bool := match u with
 | .none => eqV .non x
 | .bool b => eqV (.bl b) x
 | .int i _ => eqV (.int i) x
 | .str z _ => eqV (.str z) x
 | _ => false
theorem ail {x y : V} {u : Value} (r : RelV y u) (f : aan y = true) : eqU x u = eqV y x := by
 cases y with
 | non => cases r; rfl
 | bl b => cases r; rfl
 | int i => obtain ⟨t, rfl⟩ := r; rfl
 | str z => obtain ⟨t, rfl⟩ := r; rfl
 | _ => exact absurd (show false = true from f) anR
theorem acF {x : V} : ∀ {xs : List V} {us : List Value}, Vals xs us -> xs.all aan = true -> us.any (eqU x) = xs.any fun y => eqV y x
 | _, _, .nil, _ => rfl
 | y :: xs, u :: us, .cons r t, f => by
  rw [aso, anZ] at f
  rw [arF, arF, ail r f.1, acF t f.2]
theorem aa5 {A : Around} {s : Shared} {x : V} {v : Value} (rx : RelV x v) (fx : aan x = true) : ∀ {xs : List V} {us : List Value}, Vals xs us -> xs.all aan = true -> ∀ u ∈ us, SeqAt.EqAt A s u v (eqU x u)
 | _, _, .nil, _ => fun u hu => by cases hu
 | y :: xs, u :: us, .cons r t, f => fun u' hu => by
  rw [aso, anZ] at f
  rcases aoa.mp hu with rfl | hu
  ·rw [ail r f.1]; exact ame r rx f.1 fx
  ·exact aa5 rx fx t f.2 u' hu
def inV (x : V) (xs : List V) : Bool := xs.any fun y => eqV y x
def rIn (K : anS) (neg : Bool) : R2 := fun x y H Q => ∃ p xs, y = .ref p /\ (SqL K H p xs \/ SqT K H p xs) /\ aan x = true /\ xs.all aan = true /\ Q (.bl (if neg then !inV x xs else inV x xs)) H
theorem acG : OpR X (compareOp .NotIn) (rIn X.K true) := by
 intro pins s σ H x y v u Q I rx ry h
 obtain ⟨p, xs, rfl, hq, fx, fs, q⟩ := h
 cases ry
 rcases hq with hq | hq
 ·obtain ⟨its, r, pl, hz⟩ := I.list hq
  refine SeqAt.notIn_listAt (eqU x) pl.isList (fun w hw => aa5 rx fx r fs w (by simpa using hw)) ⟨.bl _, H, I, rfl, ?_⟩
  rw [show its.toArray.any (eqU x) = its.any (eqU x) by simp, acF r fs]
  exact q
 ·obtain ⟨its, r, pl, hz⟩ := I.tuple hq
  refine SeqAt.notIn_tupleAt (eqU x) pl (fun w hw => aa5 rx fx r fs w (by simpa using hw)) ⟨.bl _, H, I, rfl, ?_⟩
  rw [show its.toArray.any (eqU x) = its.any (eqU x) by simp, acF r fs]
  exact q
theorem acH : z6 X (.builtin "len") (fun xs H Q => ∃ p ys, xs = [.ref p] /\ (SqL X.K H p ys \/ SqT X.K H p ys) /\ Q (.int ys.length) H) := by
 intro pins s σ H xs us Q I r h
 obtain ⟨p, ys, rfl, hq, q⟩ := h
 obtain ⟨u, rfl, rx⟩ := vals1 r
 cases rx
 have hn := aa1
 rcases hq with hq | hq
 ·obtain ⟨its, r', pl, hz⟩ := I.list hq
  have hlen := r'.length
  exact Calls.call_len_list pl.isList (by simp only [aod] <;> omega) ⟨.int ys.length, H, I.tok _, ⟨s.toks + 1, by rw [aod, hlen]⟩, q⟩
 ·obtain ⟨its, r', pl, hz⟩ := I.tuple hq
  have hlen := r'.length
  exact len_tuple pl (by simp only [aod] <;> omega) ⟨.int ys.length, H, I.tok _, ⟨s.toks + 1, by rw [aod, hlen]⟩, q⟩
theorem acI : z6 X (.type "list") (fun xs H Q => ∃ p ys, xs = [.ref p] /\ (SqL X.K H p ys \/ SqT X.K H p ys) /\ ∀ l, H l = none -> Q (.ref l) (upd H l (.lst ys))) := by
 intro pins s σ H xs us Q I r h
 obtain ⟨p, ys, rfl, hq, q⟩ := h
 obtain ⟨u, rfl, rx⟩ := vals1 r
 cases rx
 have fin : ∀ (its : List Value), Vals ys its -> ys.length <= sizeLine -> ∀ (h' : Heap) (c' : Nat), (∀ b o', s.heap.get? b = some o' -> h'.get? b = some o') ->
   h'.get? s.heap.objs.size = some { cls := .type "list", dict := none, data := .seq its.toArray c', slots := #[] } -> EP X pins σ Q (.ref s.heap.objs.size) { s with heap := h' } := fun its r' hz h' c' kp e =>
  ⟨.ref s.heap.objs.size, _, I.laid (t' := s.toks) kp (anW _) (show ObjOk X.prog X.w _ h' _ (.lst ys) from ⟨hz, its, c', r', e⟩), rfl, q _ (I.hok.fresh (anW _))⟩
 rcases hq with hq | hq
 ·obtain ⟨its, r', pl, hz⟩ := I.list hq
  have hlen := r'.length
  obtain ⟨o, ho, hc, n, hd⟩ := pl.isList
  exact call_list_seq p (.inl rfl) ho hc hd (fun h' c' kp e => fin its r' hz h' c' kp e) (by simp only [aod] <;> omega)
 ·obtain ⟨its, r', pl, hz⟩ := I.tuple hq
  have hlen := r'.length
  obtain ⟨o, ho, hc, n, hd⟩ := pl
  exact call_list_seq p (.inr rfl) ho hc hd (fun h' c' kp e => fin its r' hz h' c' kp e) (by simp only [aod] <;> omega)
theorem abJ : z6 X (.type "tuple") (fun xs H Q => ∃ p ys, xs = [.ref p] /\ ((SqL X.K H p ys /\ ∀ l, H l = none -> Q (.ref l) (upd H l (.tup ys))) \/ (SqT X.K H p ys /\ Q (.ref p) H))) := by
 intro pins s σ H xs us Q I r h
 obtain ⟨p, ys, rfl, h⟩ := h
 obtain ⟨u, rfl, rx⟩ := vals1 r
 cases rx
 rcases h with ⟨hq, q⟩ | ⟨hq, q⟩
 ·obtain ⟨its, r', pl, hz⟩ := I.list hq
  have hlen := r'.length
  refine call_tuple_list pl.isList (fun h' kp => ?_) (by simp only [aod] <;> omega)
  have I1 : Inv X pins σ H { s with heap := h' } := I.kept (t' := s.toks) kp
  have I2 : Inv X pins σ (upd H h'.objs.size (.tup ys)) { s with heap := h'.push { cls := .type "tuple", data := .seq its.toArray } } :=
   I1.laid (t' := s.toks) (fun b o e => anV _ e) (anW _) (show ObjOk X.prog X.w _ _ _ (.tup ys) from ⟨hz, its, r', IsTup.new _ _⟩)
  exact ⟨.ref h'.objs.size, _, I2, rfl, q _ (I1.hok.fresh (anW _))⟩
 ·obtain ⟨its, r', pl, hz⟩ := I.tuple hq
  exact call_tuple_same pl ⟨.ref p, H, I, rfl, q⟩
def tyV (K : anS) (T : String) (x : V) (H : Hp) : Prop := match x with
 | .str _ => T = "str"
 | .int _ => T = "int"
 | .ref p => (T = "list" /\ ∃ xs, SqL K H p xs) \/ (T = "tuple" /\ ∃ o, K.lookup p = some o /\ o.cls = .type "tuple" /\ o.dict = none) \/
   (T = "dict" /\ ((∃ kvs, H p = some (.dK kvs)) \/ ∃ kvs, H p = some (.dT kvs))) \/ (T = "set" /\ ∃ S n, H p = some (.set S n))
 | _ => False
theorem amf {pins : List (Addr × Obj)} {σ : St} {H : Hp} {s : Shared} {T : String} {x : V} {v : Value} (I : Inv X pins σ H s) (r : RelV x v) (ty : tyV X.K T x H) :
  s.TypeIs v T /\ ∀ a, v = .ref a -> ∃ ob, s.heap.get? a = some ob /\ ob.dict = none := by
 cases x with
 | str z =>
  obtain ⟨t, rfl⟩ := r
  cases (show T = "str" from ty)
  exact ⟨typeIs_str s z t, fun _ e => nomatch e⟩
 | int i =>
  obtain ⟨t, rfl⟩ := r
  cases (show T = "int" from ty)
  exact ⟨typeIs_int s i t, fun _ e => nomatch e⟩
 | ref p =>
  cases r
  rcases ty with ⟨rfl, xs, hq⟩ | ⟨rfl, o, hk, hc, hd⟩ | ⟨rfl, hk⟩ | ⟨rfl, S, n, hk⟩
  ·obtain ⟨its, _, pl, _⟩ := I.list hq
   refine ⟨pl.isList.typeIs, fun a e => ?_⟩
   cases e
   obtain ⟨o, n, e, c, hd, _⟩ := pl
   exact ⟨o, e, hd⟩
  ·refine ⟨⟨o, I.kIn p o hk, hc⟩, fun a e => ?_⟩
   cases e
   exact ⟨o, I.kIn _ o hk, hd⟩
  ·have z : ∃ o, s.heap.get? p = some o /\ o.ExactDict := by
    rcases hk with ⟨kvs, hk⟩ | ⟨kvs, hk⟩
    ·obtain ⟨_, _, _, _, o, _, _, e, ex, _⟩ := I.hok p _ hk
     exact ⟨o, e, ex⟩
    ·obtain ⟨_, _, _, _, o, _, _, e, ex, _⟩ := I.hok p _ hk
     exact ⟨o, e, ex⟩
   obtain ⟨o, e, ex⟩ := z
   refine ⟨⟨o, e, ex.1⟩, fun a e2 => ?_⟩
   cases e2
   exact ⟨o, e, ex.2.1⟩
  ·obtain ⟨o, _, _, _, e, ex, _⟩ := I.hok p _ hk
   refine ⟨⟨o, e, ex.1⟩, fun a e2 => ?_⟩
   cases e2
   exact ⟨o, e, ex.2.1⟩
 | _ => exact aqe ty
def tBM (K : anS) (T : String) (r : V -> List V -> Hp -> VK -> Prop) (to : TE) (t : TA) : TE := fun σ H Q => to σ H fun x H1 => tyV K T x H1 /\ t σ H1 fun xs H2 => r x xs H2 Q
variable {o e : Expr} {es : List Expr} {to : TE} {t : TA} {name : Str} {apos cpos : Pos} {T id : String} {r : V -> List V -> Hp -> VK -> Prop}
theorem aa6 (pa : PlainAttrs T) (slot : Slot T name id) (hty : typeOf (.builtin id) = pure (.type "method_descriptor")) (hm : MtR X id r) (ho : PE X o to) (ha : PA X (e :: es) t)
  (hbase : attributeBase o name X.env (eval o X.env) = eval o X.env := by rfl)
  (hfew : ((backTo cpos (starEach (e :: es) X.env)).all (fun x => !x.1) && (backToKw cpos (keywordEach [] X.env)).all (fun x => x.1.isSome)
   && decide ((e :: es).length + ([] : List Keyword).length + (if ([] : List Keyword).isEmpty then 0 else 1) < 30)) = true := by rfl)
  (hline : (apos.endLine == cpos.line) = true := by rfl) (hs : starEach (e :: es) X.env = (false, eval e X.env) :: starEach es X.env := by rfl) (hplain : (backTo cpos (starEach es X.env)).any (·.1) = false := by rfl) :
  PE X (.Call (.Attribute o name apos) (e :: es) [] cpos) (tBM X.K T r to t) := by
 intro pins s σ H Q I h
 refine wpAny_Call_method_late hbase hfew hline rfl (thn (ho pins s σ H _ I h) fun v s1 ⟨x, H1, I1, r1, ty, q1⟩ => ?_)
 obtain ⟨h1, h2⟩ := amf I1 r1 ty
 refine ⟨T, id, pa, slot, hty, h1, h2, ?_⟩
 have hA := ha cpos pins s1 σ H1 _ I1 q1
 rw [hs] at hA ⊢
 refine arS (by show (false || (backTo cpos (starEach es X.env)).any (·.1)) = false; rw [hplain] <;> rfl) (ar9 ?_)
 exact thn hA fun us s2 ⟨vs, H2, I2, r2, q2⟩ => hm pins s2 σ H2 x vs v us Q I2 r1 r2 q2
/- xs.append(e), list.index on a module's tuple .. are MtR facts of 06m -/
end
end L2
namespace L2
open PySem PySem.Spec PyProof.Rows
def MtM (X : Cx) (id : String) (r : V -> List V -> Hp -> VK -> Prop) : Prop :=
 ∀ (pins : List (Addr × Obj)) (s : Shared) (σ : St) (H : Hp) (x : V) (xs : List V) (v : Value) (us : List Value) (Q : VK), Inv X pins σ H s -> RelV x v -> Vals xs us -> r x xs H Q ->
  wpAny (model X.prog X.w) X.A (call (.builtin id) (v :: us)) (EP X pins σ Q) X.xe s
theorem Vals.one : ∀ {x : V} {us : List Value}, Vals [x] us -> ∃ u, us = [u] /\ RelV x u
 | _, _, .cons r .nil => ⟨_, rfl, r⟩
theorem Vals.two : ∀ {x y : V} {us : List Value}, Vals [x, y] us -> ∃ u v, us = [u, v] /\ RelV x u /\ RelV y v
 | _, _, _, .cons r (.cons q .nil) => ⟨_, _, rfl, r, q⟩
theorem Vals.eraseIdx : ∀ {xs : List V} {us : List Value} (i : Nat), Vals xs us -> Vals (xs.eraseIdx i) (us.eraseIdx i)
 | _, _, _, .nil => .nil
 | _, _, 0, .cons _ t => t
 | _, _, i + 1, .cons r t => .cons r (Vals.eraseIdx i t)
theorem Vals.reverse {xs : List V} {us : List Value} (h : Vals xs us) : Vals xs.reverse us.reverse := by
 induction h with
 | nil => exact .nil
 | cons r t ih => rw [apz, apz]; exact Vals.append ih (.cons r .nil)
theorem ab4 {α : Type} : ∀ (l : List α) (i : Nat), (l.eraseIdx i).length <= l.length
 | [], _ => anW _
 | _ :: _, 0 => aqN _
 | _ :: r, i + 1 => Nat.succ_le_succ (ab4 r i)
section
variable {X : Cx} {pins : List (Addr × Obj)} {σ : St} {H : Hp} {s : Shared} {l b : Addr} {xs ys zs : List V}
theorem Inv.lset {its its' : List Value} {n : Nat} {f : Array Value -> Array Value} {t' : Nat} (I : Inv X pins σ H s) (hH : H l = some (.lst xs))
  (e : s.heap.get? l = some { cls := .type "list", data := .seq its.toArray n }) (hf : f its.toArray = its'.toArray) (hv : Vals ys its') (hz : ys.length <= sizeLine) :
  Inv X pins σ (upd H l (.lst ys)) { s with heap := s.heap.update l (ap4 f), toks := t' } := by
 have q := PySem.IsL.update e f
 rw [hf] at q
 refine I.write (x := l) (e := l) (by rw [hH]; exact trivial) (.inl rfl) (fun b' u hb hu => (aoM s.heap (ap4 f) (ape hb)).trans hu) ⟨_, q⟩ ?_
 exact ⟨hz, its', _, hv, q⟩
theorem Inv.lnew {its : List Value} {t' : Nat} (I : Inv X pins σ H s) (hv : Vals ys its) (hz : ys.length <= sizeLine) :
  Inv X pins σ (upd H s.heap.objs.size (.lst ys)) { s with heap := s.heap.push { cls := .type "list", data := .seq its.toArray }, toks := t' } :=
 I.laid (fun _ _ q => anV _ q) (anW _) ⟨hz, its, 0, hv, aoi _ rfl⟩
theorem Inv.fresh (I : Inv X pins σ H s) : H s.heap.objs.size = none := I.hok.fresh (anW _)
theorem Inv.lstM (I : Inv X pins σ H s) (hH : H l = some (.lst xs)) : xs.length <= sizeLine /\ ∃ (its : List Value) (n : Nat), Vals xs its /\ xs.length = its.length /\ s.heap.get? l = some { cls := .type "list", data := .seq its.toArray n } := by
 obtain ⟨z, its, n, r, e⟩ := I.hok l _ hH
 exact ⟨z, its, n, r, r.length, e⟩
end
section
variable {X : Cx}
def acJ : V -> List V -> Hp -> VK -> Prop := fun x vs H Q => ∃ l xs y, x = .ref l /\ vs = [y] /\ H l = some (.lst xs) /\ xs.length < sizeLine /\ Q .non (upd H l (.lst (xs ++ [y])))
theorem vZ : MtM X "list.append" acJ := by
 intro pins s σ H x vs v us Q I rx rv h
 obtain ⟨l, xs, y, rfl, rfl, hH, hz, q⟩ := h
 cases rx
 obtain ⟨u, rfl, ru⟩ := rv.one
 obtain ⟨z, its, n, r, hl, e⟩ := I.lstM hH
 refine call_meets F.slot_list_append ⟨_, e, rfl⟩ asm (asa _ _) (PySem.list_append l its.toArray n u (by rw [aod]; omega)) ⟨e, ?_⟩
 refine ⟨.non, _, I.lset (its' := its ++ [u]) hH e (by simp) (r.append (.cons ru .nil)) ?_, rfl, q⟩
 rw [aoh, aoZ]
 omega
def aeS : V -> List V -> Hp -> VK -> Prop := fun x vs H Q => ∃ l xs i k y, x = .ref l /\ vs = [.int i] /\ H l = some (.lst xs) /\ -(2 ^ 63) <= i /\ i < 2 ^ 63 /\ seqIndex? i xs.length = some k /\ xs[k]? = some y /\ Q y (upd H l (.lst (xs.eraseIdx k)))
theorem adB : MtM X "list.pop" aeS := by
 intro pins s σ H x vs v us Q I rx rv h
 obtain ⟨l, xs, i, k, y, rfl, rfl, hH, h1, h2, hk, hy, q⟩ := h
 cases rx
 obtain ⟨u, rfl, ru⟩ := rv.one
 obtain ⟨t, rfl⟩ := ru
 obtain ⟨z, its, n, r, hl, e⟩ := I.lstM hH
 obtain ⟨w, hw, rw'⟩ := r.get hy
 refine call_meets F.slot_list_pop ⟨_, e, rfl⟩ F.entry_list_pop (F.args_list_pop_2 _ _)
  (MeetsSeq.list_pop_at l its.toArray n i t k w (fitsIndex_both h1 h2) (by rw [aod, <- hl]; exact hk) (by rw [<- aqn]; exact hw) (by rw [aod]; omega)) ⟨e, ?_⟩
 refine ⟨y, _, I.lset (its' := its.eraseIdx k) hH e ?_ (r.eraseIdx k) ?_, rw', q⟩
 ·show its.toArray.eraseIdxIfInBounds k = (its.eraseIdx k).toArray
  rw [List.eraseIdxIfInBounds_toArray]
 ·have := ab4 xs k
  omega
end
end L2
namespace Att
open PySem PySem.W PySem.Calls PyProof.Rows
theorem aaC {P : Params} {h : Heap} : ∀ (ns : List Int) (vs : List Value), WellAll P h vs (ns.map WData.int) -> IntsAre vs ns := by
 intro ns
 induction ns with
 | nil =>
  intro vs w
  rw [arj] at w
  cases w
  exact .nil
 | cons n ns ih =>
  intro vs w
  rw [aor] at w
  cases w with
  | cons a b =>
   cases a
   exact .cons _ _ (ih _ b)
theorem ag3 {l : OpenLaw} {n : Nat} (hn : l.most = some n) {P : Params} {h : Heap} {args : List WData} {vals : List Value}
  (hpre : l.row.toRowW.claim.pre args = true) (hwl : WellAll P h vals args) :
  ∃ a vs ns, vals = [Value.ref a] /\ args = [WData.list (ns.map WData.int)] /\ h.get? a = some { cls := .type "list", data := .seq vs.toArray } /\ IntsAre vs ns /\ ns.length <= n := by
 have hsh : WShape.hasAll [] args [.list .int] = true := (pre_splitW hpre).1
 have hc : l.pre.holds [] { args := args } = true := (pre_splitW hpre).2
 obtain ⟨d, r, rfl, h1, h2⟩ := hasAllW_cons hsh
 obtain rfl := hasAllW_nil h2
 obtain ⟨xs, rfl, h3⟩ := hasW_list h1
 obtain ⟨ns, rfl⟩ := items_int h3
 have hlen : ns.length <= n := by
  unfold OpenLaw.pre at hc
  have h4 : (WTm.not (.lt (.lit (.int (n : Int))) (.len (.arg 0)))).holds [] { args := [.list (ns.map .int)] } = true := by
   have h4 := (holds_andW hc).1
   rw [hn] at h4
   exact h4
  have h5 := condW_of h4 (w_not (w_lt w_lit (w_len_list (w_arg rfl))))
  rw [anQ] at h5
  refine Nat.le_of_not_lt fun q => ?_
  have q' : (n : Int) < ((ns.length : Nat) : Int) := by omega
  first
   | (rw [decide_eq_true q'] at h5; exact absurd h5 (by decide))
   | (simp at h5; omega)
 cases hwl with
 | cons w1 w2 =>
  cases w2
  cases w1 with
  | list ho hall => exact ⟨_, _, ns, rfl, rfl, ho, aaC ns _ hall, hlen⟩
theorem ag4 (l : OpenLaw) (args : List WData) : l.row.toRowW.claim.post args (.bool true) args = true :=
 postW_of (r := l.row.toRowW) (X := (true == true))
  (show WShape.has [] (.bool true) .bool = true by first | rfl | decide | simp [WShape.has, WShape.arms, WShape.armsAll])
  (show (WTm.eq .res (.lit (.bool true))).value [] { args := args, res := some (.bool true), after := args } = some (.bool (true == true)) from w_eq_bool (w_res rfl) w_lit) rfl
theorem attach_call {l : OpenLaw} {n : Nat} {q : Program} {loose : List Str} {XP : (Str -> Option Value) -> Heap -> Prop} {YP : World -> Heap -> Prop} {d : DefRec}
  (hn : l.most = some n) (hdf : d.params.defaults = [])
  (call : ∀ (w : World) (s₀ s₁ : Shared) (mg mb : Str -> Option Value) (fa : Addr) (o : Obj) (pm cd doc : Value) (a : Addr) (vs : List Value) (ns : List Int),
   Ground q loose [] XP w s₀ mg mb s₁.heap -> YP w s₁.heap ->
   s₁.heap.get? fa = some o -> o.data = .func (docDef d.name d.params d.body d.scope pm cd doc) -> s₁.heap.CodeRec cd d.name -> mg d.name = some (.ref fa) ->
   s₁.heap.get? a = some { cls := .type "list", data := .seq vs.toArray } -> IntsAre vs ns -> ns.length <= n -> s₁.gens = #[] ->
   codeAny (model l.prog w) callerA (.call (.ref fa) ⟨[.ref a], []⟩) (fun r s' => r = .ok (.ret (.bool true)) /\ OldK s₁.heap s'.heap /\ s'.os = s₁.os /\ AllBare s'.gens) s₁) :
  WalkO q loose XP YP l.row.toRowW d [] (fun f vs => PySem.call f vs) := by
 intro w s₀ s₁ mg mb G Y fa o pm cd doc dV kV ho hd hcd hD hmg hg args vals as hpre hlay hrd hwl hlo
 obtain rfl : dV = .none := Dflts.none hD hdf
 obtain rfl : kV = .none := Dflts.noKw hD
 obtain ⟨a, vs, ns, rfl, rfl, hobj, hints, hlen⟩ := ag3 hn hpre hwl
 refine enter_call (codeAny_mono (call w s₀ s₁ mg mb fa o pm cd doc a vs ns G Y ho (fd_plain hd) hcd hmg hobj hints hlen hg) fun r s' hq => ?_)
 obtain ⟨rfl, h2, h3, h4⟩ := hq
 exact ⟨.inl ⟨.bool true, .bool true, [], rfl, fun _ => rfl, .bool true, ag4 l _, fun _ => ⟨List.Pairwise.nil, fun _ hm => (nomatch hm)⟩⟩, h2, h3, h4⟩
section
variable {prog : Program} {w : World} {A : Around} {E : Value -> Shared -> Prop} {s : Shared} {K : Frag}
end
end Att
namespace L2
open PySem PySem.Spec PyProof.Rows
theorem ab5 : ∀ {vs : List Value} {ns : List Int}, IntsAre vs ns -> Vals (ns.map V.int) vs
 | _, _, .nil => .nil
 | _, _, .cons n t h => .cons ⟨t, rfl⟩ (ab5 h)
def amg (H : Hp) : Prop := ∀ b, H b = none \/ ∃ o xs, H b = some (.frz o (.lst xs))
theorem aim {P : Program} {w : World} {K : anS} {mg mb : Str -> Option Value} {CX : CXT} {k : Nat} {fa a : Addr} {fd : FuncData} {x : Str} {sp : Sp} {s₁ : Shared} {vs : List Value} {ns : List Int}
  (KX : K.In s₁.heap) (hns : s₁.heap.Ns mainGlobals mg) (hb : s₁.heap.Ns builtinsNs mb) (hbb : ∀ x : Str, x ≠ "__name__" -> mb x = bootBuiltins x) (hlim : s₁.heap.NoLimit) (hg : s₁.gens = #[])
  (ha : s₁.heap.get? a = some { cls := .type "list", data := .seq vs.toArray }) (hi : IntsAre vs ns) (hl : ns.length <= sizeLine) (hr : Room k callerA)
  (F : ∀ base : Heap, K.In base -> base.Ns mainGlobals mg -> FnOk P w K mg base CX k fa fd [x] sp) (hbind : ∀ (s : Shared) (u : Value), BindsTo s fd ⟨[u], []⟩ [(x, u)])
  (hsp : ∀ H : Hp, amg H -> SqL K H a (ns.map V.int) -> sp [.ref a] H (fun v _ => v = .bl true) fun _ _ _ => False)
  (hCX : ∀ H e s', CX [] H s₁ (fun _ _ _ => False) e s' -> False) :
  codeAny (model P w) callerA (.call (.ref fa) ⟨[.ref a], []⟩) (fun r s' => r = .ok (.ret (.bool true)) /\ OldK s₁.heap s'.heap /\ s'.os = s₁.os /\ AllBare s'.gens) s₁ := by
 have rv := ab5 hi
 have lenV := hi.length
 -- from an abstract heap in which nothing but the script may be tracked
 have core : ∀ H : Hp, amg H -> SqL K H a (ns.map V.int) -> HOk P w H s₁.heap -> (∀ b, H b ≠ none -> b = a) -> (H a ≠ none -> K.lookup a = none) ->
   codeAny (model P w) callerA (.call (.ref fa) ⟨[.ref a], []⟩) (fun r s' => r = .ok (.ret (.bool true)) /\ OldK s₁.heap s'.heap /\ s'.os = s₁.os /\ AllBare s'.gens) s₁ := by
  intro H hO hS hok hA hK
  have base_of : ∀ {b : Addr} {o : Obj}, s₁.heap.get? b = some o -> H b = none -> (acA s₁.heap H).get? b = some o := fun e n => ah6 e n
  have noA : ∀ {b : Addr} {o : Obj} {es : Array DictEntry} {ep : Nat}, s₁.heap.get? b = some o -> o.data = .dict es ep -> H b = none := fun {b o es ep} e d => by
   cases q : H b with
   | none => rfl
   | some u =>
    have e' : b = a := hA b (by rw [q]; simp)
    subst e'
    rw [ha] at e; cases e
    have d' : Data.seq vs.toArray _ = Data.dict es ep := d
    cases d'
  have nsK : ∀ {b : Addr} {m : Str -> Option Value}, s₁.heap.Ns b m -> (acA s₁.heap H).Ns b m := fun {b m} ⟨o, es, ep, e, d, r⟩ => ⟨o, es, ep, base_of e (noA e d), d, r⟩
  have hKb : K.In (acA s₁.heap H) := fun b o e => base_of (KX b o e) (by
   cases q : H b with
   | none => rfl
   | some u =>
    have e' : b = a := hA b (by rw [q]; simp)
    subst e'
    rw [hK (by rw [q]; simp)] at e; cases e)
  have hM : Mod K mg (acA s₁.heap H) := ⟨hKb, nsK hns, ⟨mb, nsK hb, hbb⟩, let ⟨mc, h1, h2⟩ := hlim; ⟨mc, nsK h1, h2⟩⟩
  have e0 : Env0 P w K mg (acA s₁.heap H) callerA [] s₁ H := ⟨rfl, hM, fun b o e => ajY e, aqg (agV _ _), trivial, fun b hb => absurd (show b ∈ ([] : List Addr) from hb) (by simp), hok, .of_eq hg⟩
  refine codeAny_mono ((F _ hKb (nsK hns)).run callerA [] s₁ H ⟨[.ref a], []⟩ [.ref a] [.ref a] _ _ hr e0 (hbind s₁ (.ref a)) (.cons rfl .nil) (hsp H hO hS)) fun r s' h => ?_
  cases r with
  | error e => exact (hCX H e s' h).elim
  | ok fl =>
   cases fl with
   | next => exact aqe h
   | brk => exact aqe h
   | cont => exact aqe h
   | ret u =>
    obtain ⟨v, H', os, bare, un, hok', r', q⟩ := h
    have q' : v = .bl true := q
    subst q'
    obtain rfl : u = Value.bool true := r'
    refine ⟨rfl, OldK.of_keep fun b o e => ?_, os, bare⟩
    cases q : H b with
    | none => exact un.keep b o e q (by intro z; exact absurd (show b ∈ ([] : List Addr) from z) (by simp)) (by simp)
    | some u =>
     rcases hO b with z | ⟨ob, xs, z⟩
     ·rw [q] at z; cases z
     ·have z2 := un.frzs b ob _ z
      obtain ⟨e1, _⟩ := hok b _ z
      obtain ⟨e2, _⟩ := hok' b _ z2
      rw [e] at e1; cases e1
      exact e2
 cases hk : K.lookup a with
 | some o =>
  -- the script is one of the module's own objects
  have e := KX a o hk
  rw [ha] at e
  cases e
  refine core (fun _ => none) (fun _ => .inl rfl) (.inr ⟨_, vs.toArray, _, hk, rfl, rfl, rfl, by rw [aod, lenV]; exact hl, by simpa using rv⟩) (fun b u z => by have z' : (none : Option HO) = some u := z; cases z') (fun b z => absurd rfl z) fun z => absurd rfl z
 | none =>
  refine core (fun b => if b = a then some (.frz { cls := .type "list", data := .seq vs.toArray } (.lst (ns.map V.int))) else none) (fun b => ?_) (.inl (.inr ⟨{ cls := .type "list", data := .seq vs.toArray }, if_pos rfl⟩)) (fun b u z => ?_) (fun b z => ?_) fun _ => hk
  ·by_cases hb : b = a
   ·exact .inr ⟨_, _, if_pos hb⟩
   ·exact .inl (if_neg hb)
  ·by_cases hb : b = a
   ·have z' := (if_pos hb).symm.trans z
    cases z'
    subst hb
    exact ⟨ha, by rw [anQ]; exact hl, vs, _, rv, ha⟩
   ·have z' := (if_neg hb).symm.trans z
    cases z'
  ·by_cases hb : b = a
   ·exact hb
   ·exact absurd (if_neg hb) z
end L2
namespace L2
open PySem PySem.Spec PyProof.Rows
abbrev KOf {K : anS} {h : Heap} (_ : K.In h) : anS := K
theorem walk_of {l : PySem.W.OpenLaw} {n k : Nat} {q : Program} {loose : List Str} {XP : (Str -> Option Value) -> Heap -> Prop} {YP : World -> Heap -> Prop} {d : DefRec} {K : Params -> anS} {CX : World -> CXT} {sp : World -> Sp} {x : Str}
  (hn : l.most = some n) (hn2 : n <= sizeLine) (hdf : d.params.defaults = []) (hr : Room k callerA)
  (hY : ∀ (w : World) (h : Heap), YP w h -> (K w.params).In h)
  (F : ∀ (w : World) (mg : Str -> Option Value) (fa : Addr) (h : Heap), (K w.params).In h -> h.Ns mainGlobals mg -> mg d.name = some (.ref fa) ->
   ∃ fd : FuncData, (∀ (s : Shared) (u : Value), BindsTo s fd ⟨[u], []⟩ [(x, u)]) /\
    ∀ base : Heap, (K w.params).In base -> base.Ns mainGlobals mg -> FnOk l.prog w (K w.params) mg base (CX w) k fa fd [x] (sp w))
  (hsp : ∀ (w : World) (H : Hp) (a : Addr) (ns : List Int), ns.length <= n -> amg H -> SqL (K w.params) H a (ns.map V.int) -> sp w [.ref a] H (fun v _ => v = .bl true) fun _ _ _ => False)
  (hCX : ∀ (w : World) (H : Hp) (s : Shared) (e : Value) (s' : Shared), CX w [] H s (fun _ _ _ => False) e s' -> False) :
  PySem.W.WalkO q loose XP YP l.row.toRowW d [] (fun f vs => PySem.call f vs) := by
 refine Att.attach_call hn hdf fun w s₀ s₁ mg mb fa o pm cd doc a vs ns G Y ho hd hcd hmg hobj hints hlen hg => ?_
 have KX := hY w _ Y
 obtain ⟨fd, hb, hF⟩ := F w mg fa _ KX G.T.g hmg
 exact aim KX G.T.g G.T.b G.T.builtins G.T.nolimit hg hobj hints (aou hlen hn2) hr hF hb (fun H hO hS => hsp w H a ns hlen hO hS) fun H e s' => hCX w H s₁ e s'
end L2
/- THE LAST THEOREM (shape; LID, My.* are yours):
   My.Adr: a structure of the addresses that your layer names (classes, functions); My.Txt K t: a structure (Prop) of the equations over K;
   My.txt_mk : {K} {implicit addresses ..} (e1 : nsIn K mainGlobals "law" = some (some (.ref f))) (e2 : K.lookup f = some ⟨oc, od, .func (fnOf "law" "law" params body scope dV kV doc pm an cdv ct), sl⟩) (e3 : codeIn K cdv "law" = true) .. : ∃ t, My.Txt K t
set_option maxRecDepth 100000 in
set_option maxHeartbeats 0 in
theorem PySem.Challenge.cw_LID_holds : PySem.Challenge.rw_LID.Holds := by
 w_on; o_law; k_head; (case hw => w_witness2)
 k_fill
 refine L2.walk_of (l := PySem.Challenge.rw_LID) (n := 63) (k := 40) (x := "script") (CX := fun w => ..) (sp := fun _ => My.sp_law) rfl (by decide) rfl ⟨rfl, by decide, by decide⟩ (fun w h Y => PySem.W.kIn_of Y) ?F ?S ?C
 case F =>
  intro w mg fa h KX G hmg
  have T : ∃ t, My.Txt (L2.KOf KX) t := by
   dsimp only [L2.KOf]                          -- K must stand as «<heap const> w.params» for k_is
   refine' My.txt_mk ?e1 ?e2 ?e3 ..
   (case e1 => PySem.W.k_is)                    -- in the order: a name -> its address -> its object -> its parts
   (case e2 => PySem.W.k_is)
   ..
  obtain ⟨t, T⟩ := T
  have e0 := hmg.symm.trans (apH KX G T.law)
  cases e0                                       -- fa is the law's own address
  exact ⟨_, fun s u => .of_eq rfl, fun base kb nb => My.law_fn T kb nb⟩     -- if «.of_eq rfl» comes too early: refine' ⟨_, ?b, fun base kb nb => My.law_fn T kb nb⟩; exact fun s u => .of_eq rfl
 case S => exact fun w H a ns hl hO hS => ..
 case C => exact ..
(the tactic k_is has no namespace: write k_is) -/
namespace L2
open PySem PySem.Spec PyProof.Rows
def qf (s : Stmt) : Arguments := match s with
 | .FunctionDef _ a _ _ _ _ _ _ _ _ => a
 | _ => { posonlyargs := [], args := [], vararg := none, kwonlyargs := [], kw_defaults := [], kwarg := none, defaults := [] }
def yS (s : Stmt) : List Stmt := match s with
 | .FunctionDef _ _ b _ _ _ _ _ _ _ => b
 | _ => []
def zr (s : Stmt) : Scope := match s with
 | .FunctionDef _ _ _ _ _ _ sc _ _ _ => sc
 | _ => { kind := .function, names := [], isGenerator := false, isCoroutine := false }
abbrev CX0 : CXT := fun _ _ _ _ _ _ => False
abbrev E0 : XK := fun _ _ _ => False
theorem ang {X : Cx} : Passes CX0 X E0 := fun _ _ _ _ _ _ _ h => h.elim
structure Fun (K : anS) (x qual : Str) (st : Stmt) (f : Addr) (fd : FuncData) : Prop where
 ex : ∃ (oc : Value) (od : Option Addr) (kV doc pm : Value) (an : Option Addr) (cdv ct : Value) (osl : Array (Option Value)),
  fd = ap0 x qual (qf st) (yS st) (zr st) .none kV doc pm an cdv ct /\ K.lookup f = some ⟨oc, od, .func fd, osl⟩ /\ arq K cdv qual = true
 kp : ao3 K (.ref f) = true
section
variable {P : Program} {w : World} {K : anS} {mg : Str -> Option Value} {base : Heap}
theorem Fun.ok {x qual : Str} {st : Stmt} {f : Addr} {fd : FuncData} {N ps : List Str} {k : Nat} {sp : Sp} (F : Fun K x qual st f fd) (S : FnScope N ps (zr st)) (len : ∀ vs H Q E, sp vs H Q E -> vs.length = ps.length)
  (hbody : ∀ (cdv : Value) (A : Around) (outer : List Env) (s : Shared) (H : Hp) (vs : List V) (Q : VK) (E : XK), Room k (A.deeper (envOfC qual (zr st) s.heap.objs.size f cdv)) -> sp vs H Q E ->
   ∃ t, PSs (yf CX0 P w K mg base N qual (zr st) f cdv A outer s H E).nox (yS st) t /\ t { nx := fun _ H' => Q .non H', rt := Q } (start N vs) H) : FnOk P w K mg base CX0 (k + 1) f fd ps sp := by
 obtain ⟨oc, od, kV, doc, pm, an, cdv, ct, osl, rfl, lk, hcd⟩ := F.ex
 refine anf lk hcd S len fun A outer s H vs Q E hr hsp => ?_
 obtain ⟨t, h, q⟩ := hbody cdv A outer s H vs Q E hr hsp
 exact ⟨t, h.nox, q⟩
theorem Fun.binds {x qual : Str} {st : Stmt} {f : Addr} {fd : FuncData} {ps : List Str} (F : Fun K x qual st f fd)
  (h : ∀ (kV doc pm : Value) (an : Option Addr) (cdv ct : Value) (us : List Value), us.length = ps.length -> bindArgs (ap0 x qual (qf st) (yS st) (zr st) .none kV doc pm an cdv ct) ⟨us, []⟩ = pure (ps.zip us)) : Binds K fd ps [] := by
 obtain ⟨oc, od, kV, doc, pm, an, cdv, ct, osl, rfl, lk, hcd⟩ := F.ex
 exact .all (h kV doc pm an cdv ct)
theorem aeT {x qual : Str} {st : Stmt} {f : Addr} {oc : Value} {od an : Option Addr} {osl : Array (Option Value)} {kV doc pm cdv ct : Value} (l : K.lookup f = some ⟨oc, od, .func (ap0 x qual (qf st) (yS st) (zr st) .none kV doc pm an cdv ct), osl⟩)
  (c : arq K cdv qual = true) (k : ao3 K (.ref f) = true) : Fun K x qual st f (ap0 x qual (qf st) (yS st) (zr st) .none kV doc pm an cdv ct) := ⟨⟨oc, od, kV, doc, pm, an, cdv, ct, osl, rfl, l, c⟩, k⟩
end
theorem yg {n : Nat} (h : n <= 1000) : n < sizeLine := Nat.lt_of_le_of_lt h (by decide)
section
variable {X : Cx}
theorem pv (i : Nat) {x : Str} {pos : Pos} (hN : X.N[i]? = some x := by rfl) (hv : Vis X.env.scope x := by first | exact Or.inl rfl | exact Or.inr (Or.inl rfl) | exact Or.inr (Or.inr rfl)) (hd : (x == ("__debug__" : Str)) = false := by decide)
  (hcd : (x == ("__classdict__" : Str)) = false := by decide) : PE X (.Name x pos) (yb i) := alU hN hv hd hcd
end
def Same (H H' : Hp) : Prop := ∀ b o, H b = some o -> H' b = some o
theorem Same.refl (H : Hp) : Same H H := fun _ _ h => h
theorem Same.trans {H H1 H2 : Hp} (a : Same H H1) (b : Same H1 H2) : Same H H2 := fun c o h => b c o (a c o h)
theorem Same.free {H H' : Hp} (e : Same H H') {l : Addr} (h : H' l = Option.none) : H l = Option.none := by
 cases q : H l with
 | none => rfl
 | some o =>
  rw [e l o q] at h
  cases h
theorem Same.seq {K : anS} {H H' : Hp} {a : Addr} {xs : List V} (e : Same H H') (h : SqL K H a xs) : SqL K H' a xs := by
 rcases h with (h | ⟨o, h⟩) | h
 ·exact .inl (.inl (e _ _ h))
 ·exact .inl (.inr ⟨o, e _ _ h⟩)
 ·exact .inr h
def yh (env : Env) : List (Str × NameKind) -> List (Str × Addr) -> List (Str × Addr)
 | [], acc => acc
 | (x, k) :: r, acc => if k == .free then yh env r ((x, (env.cells.lookup x).getD 0) :: acc) else yh env r acc
theorem aeU {sc : Scope} {env : Env} (h : ∀ x, (x, NameKind.free) ∈ sc.names -> ∃ c, env.cells.lookup x = some c) : closureFor sc env = pure (yh env sc.names []) := by
 have key : ∀ (names : List (Str × NameKind)) (acc : List (Str × Addr)), (∀ x, (x, NameKind.free) ∈ names -> ∃ c, env.cells.lookup x = some c) ->
   (forIn names acc fun (x : Str × NameKind) (cs : List (Str × Addr)) => if (x.2 == NameKind.free) = true then (do let c <- cellOf env x.1; pure (ForInStep.yield ((x.1, c) :: cs))) else pure (ForInStep.yield cs)) = (pure (yh env names acc) : Sem (List (Str × Addr))) := by
  intro names
  induction names with
  | nil => intro acc _; rfl
  | cons p r ih =>
   intro acc hh
   obtain ⟨x, k⟩ := p
   rw [apV]
   unfold yh
   by_cases hk : (k == NameKind.free) = true
   ·have hk' : k = .free := by simpa using hk
    subst hk'
    obtain ⟨c, hc⟩ := hh x an0
    simp only [beq_self_eq_true, if_true]
    rw [<- ih _ fun y hy => hh y (anY _ hy)]
    have : cellOf env x = pure c := by unfold cellOf; rw [hc]
    rw [this, hc]
    rfl
   ·simp only [hk, aoF, if_false]
    rw [<- ih _ fun y hy => hh y (anY _ hy)]
    rfl
 simp only [closureFor]
 have q := key sc.names [] h
 refine Eq.trans ?_ (Eq.trans (congrArg (fun z => z >>= fun r => pure r) q) ?_)
 ·rfl
 ·rfl
theorem qg {env : Env} : ∀ {names : List (Str × NameKind)} {acc : List (Str × Addr)} {p : Str × Addr}, p ∈ yh env names acc -> p ∈ acc \/ ((p.1, NameKind.free) ∈ names /\ p.2 = (env.cells.lookup p.1).getD 0)
 | [], acc, p, h => .inl h
 | (x, k) :: r, acc, p, h => by
  unfold yh at h
  split at h
  ·rename_i hk
   have hk' : k = .free := by simpa using hk
   subst hk'
   rcases qg h with q | ⟨q, e⟩
   ·rcases aoa.mp q with q | q
    ·subst q; exact .inr ⟨an0, rfl⟩
    ·exact .inl q
   ·exact .inr ⟨anY _ q, e⟩
  ·rcases qg h with q | ⟨q, e⟩
   ·exact .inl q
   ·exact .inr ⟨anY _ q, e⟩
theorem qs {α : Type} : ∀ {l : List (Str × α)} {x : Str} {v : α}, (x, v) ∈ l -> ∃ u, l.lookup x = some u
 | (y, u) :: r, x, v, h => by
  rw [aoV]
  cases hb : x == y with
  | true => exact ⟨u, rfl⟩
  | false =>
   rcases aoa.mp h with e | h
   ·have : x = y := congrArg Prod.fst e
    subst this
    simp at hb
   ·exact qs h
theorem vk {env : Env} : ∀ {names : List (Str × NameKind)} {acc : List (Str × Addr)} {x : Str}, (x, NameKind.free) ∈ names -> (x, (env.cells.lookup x).getD 0) ∈ yh env names acc
 | (y, k) :: r, acc, x, h => by
  have mono : ∀ (names : List (Str × NameKind)) (acc : List (Str × Addr)) (p : Str × Addr), p ∈ acc -> p ∈ yh env names acc := by
   intro names
   induction names with
   | nil => intro acc p hp; exact hp
   | cons q r ih =>
    intro acc p hp
    obtain ⟨a, b⟩ := q
    unfold yh
    split
    ·exact ih _ _ (anY _ hp)
    ·exact ih _ _ hp
  unfold yh
  rcases aoa.mp h with e | h
  ·cases e
   simp only [beq_self_eq_true, if_true]
   exact mono _ _ _ an0
  ·split
   ·exact vk h
   ·exact vk h
theorem ve {env : Env} {names : List (Str × NameKind)} {x : Str} {c : Addr} (h : ∀ x, (x, NameKind.free) ∈ names -> ∃ c, env.cells.lookup x = some c) (e : (yh env names []).lookup x = some c) : env.cells.lookup x = some c /\ (x, NameKind.free) ∈ names := by
 rcases qg (mem_of_lookup e) with q | ⟨q, e'⟩
 ·cases q
 ·obtain ⟨c', hc⟩ := h _ q
  dsimp only at hc e'
  rw [hc] at e'
  exact ⟨by rw [hc]; exact congrArg some e'.symm, q⟩
theorem aao {env : Env} {names : List (Str × NameKind)} {x : Str} {c : Addr} (h : ∀ x, (x, NameKind.free) ∈ names -> ∃ c, env.cells.lookup x = some c) (hx : (x, NameKind.free) ∈ names) (e : env.cells.lookup x = some c) : (yh env names []).lookup x = some c := by
 obtain ⟨u, hu⟩ := qs (vk (env := env) (acc := []) hx)
 have := (ve h hu).1
 rw [this] at e
 rw [hu, e]
theorem y6 : ∀ {names : List (Str × NameKind)} {n : Nat} {acc : List (Str × Addr)} {x : Str} {c : Addr}, (cellsFrom n names acc).lookup x = some c -> (n <= c /\ c < n + names.length /\ (x, NameKind.cell) ∈ names) \/ (acc.lookup x = some c /\ (x, NameKind.cell) ∉ names)
 | [], n, acc, x, c, h => .inr ⟨h, by simp⟩
 | (y, k) :: r, n, acc, x, c, h => by
  unfold cellsFrom at h
  split at h
  ·rename_i hk
   have hk' : k = .cell := by simpa using hk
   subst hk'
   rcases y6 h with ⟨q1, q2, q3⟩ | ⟨q1, q2⟩
   ·exact .inl ⟨aqO q1, aow q2 (by rw [aoe]; omega), anY _ q3⟩
   ·rw [aoV] at q1
    cases hb : x == y with
    | true =>
     rw [hb] at q1
     cases q1
     have : x = y := by simpa using hb
     subst this
     exact .inl ⟨anW _, by rw [aoe]; exact Nat.lt_add_of_pos_right (ark _), an0⟩
    | false =>
     rw [hb] at q1
     refine .inr ⟨q1, fun z => ?_⟩
     rcases aoa.mp z with e | z
     ·have : x = y := congrArg Prod.fst e
      subst this
      simp at hb
     ·exact q2 z
  ·rename_i hk
   rcases y6 h with ⟨q1, q2, q3⟩ | ⟨q1, q2⟩
   ·exact .inl ⟨q1, aow q2 (by rw [aoe]; omega), anY _ q3⟩
   ·refine .inr ⟨q1, fun z => ?_⟩
    rcases aoa.mp z with e | z
    ·have : k = .cell := (congrArg Prod.snd e).symm
     subst this
     simp at hk
    ·exact q2 z
theorem jl : ∀ (names : List (Str × NameKind)) (n : Nat) (acc : List (Str × Addr)), (acc.Pairwise fun x y => x.2 ≠ y.2) -> (∀ p ∈ acc, p.2 < n) -> (cellsFrom n names acc).Pairwise fun x y => x.2 ≠ y.2
 | [], n, acc, h, _ => h
 | (y, k) :: r, n, acc, h, hl => by
  unfold cellsFrom
  split
  ·refine jl r (n + 1) _ (List.pairwise_cons.mpr ⟨fun p hp => ?_, h⟩) fun p hp => ?_
   ·exact apZ (hl p hp)
   ·rcases aoa.mp hp with e | hp
    ·subst e; exact aqv _
    ·exact apa (hl p hp)
  ·exact jl r n acc h hl
theorem abK {names : List (Str × NameKind)} {n : Nat} {acc : List (Str × Addr)} {x : Str} (h : names.lookup x = some .cell) : ∃ c, (cellsFrom n names acc).lookup x = some c :=
 aqF.mp (aqf names n acc (.inl h))
theorem vf {names : List (Str × NameKind)} {n : Nat} {acc : List (Str × Addr)} {x : Str} (h : (acc.lookup x).isSome = true) : ∃ c, (cellsFrom n names acc).lookup x = some c :=
 aqF.mp (aqf names n acc (.inr h))
theorem jU : ∀ (names : List (Str × NameKind)) (h : Heap) (acc : List (Str × Addr)) (x : Str) (c : Addr), (cellsFrom h.objs.size names acc).lookup x = some c -> h.objs.size <= c -> (∀ p ∈ acc, p.2 < h.objs.size) -> (pushCells h names).IsCell c none
 | [], h, acc, x, c, e, hc, hl => absurd (hl _ (mem_of_lookup e)) (arT.mpr hc)
 | (y, k) :: r, h, acc, x, c, e, hc, hl => by
  unfold cellsFrom at e
  unfold pushCells
  split at e
  ·rename_i hk
   rw [if_pos hk]
   by_cases hcc : c = h.objs.size
   ·subst hcc
    exact ⟨_, pushCells_keeps _ _ _ _ (aoi _ rfl), rfl⟩
   ·have es : (h.push { cls := .type "cell", data := .cell none }).objs.size = h.objs.size + 1 := apc ..
    refine jU r _ ((y, h.objs.size) :: acc) x c (by rw [es]; exact e) (by rw [es]; exact Nat.lt_of_le_of_ne hc (ape hcc)) fun p hp => ?_
    rw [es]
    rcases aoa.mp hp with e | hp
    ·subst e; exact aqv _
    ·exact apa (hl p hp)
  ·rename_i hk
   rw [if_neg hk]
   exact jU r h acc x c e hc hl
def zq (X : Cx) (sc : Scope) (N : List Str) (s₀ : Shared) (H₀ : Hp) (ex : List Addr) (pn : List (Addr × Obj)) : Cx :=
 { X with N := N, s₀ := s₀, H₀ := H₀, env := compEnvC sc (cellsFrom (s₀.heap.objs.size + 1) sc.names (yh X.env sc.names [])) s₀.heap.objs.size X.env,
          outer := X.stack, ex := ex, fn := fun x => decide (sc.names.lookup x = some .cell), pn := pn, xe := fun _ _ => False }
structure CompScope (NO : List Str) (scO : Scope) (N : List Str) (sc : Scope) (own : Nat) (fr : List Nat) : Prop where
 kind : sc.kind = .function
 nd : N.Nodup
 snd : (sc.names.map (·.1)).Nodup
 free : ∀ p ∈ sc.names, p.2 = .free -> scO.names.lookup p.1 = some .cell \/ scO.names.lookup p.1 = some .free
 frn : ∀ p ∈ (N.drop own).zip fr, NO[p.2]? = some p.1 /\ sc.names.lookup p.1 = some .free
 len : N.length = own + fr.length
def jm (own : Nat) (fr : List Nat) (σ : St) : St := aqr own none ++ fr.map fun j => (σ[j]?).getD none
theorem yk {α : Type} : ∀ {l : List (Str × α)} {x : Str} {k : α}, (l.map (·.1)).Nodup -> (x, k) ∈ l -> l.lookup x = some k
 | (y, u) :: r, x, k, nd, h => by
  rw [aor] at nd
  obtain ⟨h1, h2⟩ := aoY.mp nd
  rw [aoV]
  rcases aoa.mp h with e | h'
  ·cases e; simp
  ·have : x ≠ y := by
    intro e
    subst e
    exact h1 (aos.mpr ⟨(x, k), h', rfl⟩)
   rw [beq_eq_false_iff_ne.mpr this]
   exact yk h2 h'
theorem jA {env : Env} : ∀ {names : List (Str × NameKind)} {x : Str} {k : NameKind}, names.lookup x = some k ->
  (names.map fun (n, k) => if (k == NameKind.free && env.scope.kind == .function && env.kindOf n == some .cell) then (n, NameKind.cell) else (n, k)).lookup x = some (if (k == NameKind.free && env.scope.kind == .function && env.kindOf x == some .cell) then .cell else k)
 | (n, k') :: r, x, k, h => by
  have ih := @jA env r x k
  show List.lookup x ((if (k' == NameKind.free && env.scope.kind == .function && env.kindOf n == some .cell) = true then (n, NameKind.cell) else (n, k')) :: _) = _
  cases hx : x == n with
  | true =>
   have : x = n := by simpa using hx
   subst this
   simp only [aoV, hx] at h
   cases h
   split <;> simp [aoV]
  | false =>
   simp only [aoV, hx] at h
   split
   ·simp only [aoV, hx]; exact ih h
   ·simp only [aoV, hx]; exact ih h
theorem jo {env : Env} : ∀ {names : List (Str × NameKind)} {x : Str}, names.lookup x = none ->
  (names.map fun (n, k) => if (k == NameKind.free && env.scope.kind == .function && env.kindOf n == some .cell) then (n, NameKind.cell) else (n, k)).lookup x = none
 | [], _, _ => rfl
 | (n, k') :: r, x, h => by
  have ih := @jo env r x
  show List.lookup x ((if (k' == NameKind.free && env.scope.kind == .function && env.kindOf n == some .cell) = true then (n, NameKind.cell) else (n, k')) :: _) = _
  cases hx : x == n with
  | true => simp only [aoV, hx] at h; cases h
  | false =>
   simp only [aoV, hx] at h
   split
   ·simp only [aoV, hx]; exact ih h
   ·simp only [aoV, hx]; exact ih h
section
variable {X : Cx} {pins : List (Addr × Obj)} {σ : St} {H : Hp} {s : Shared} {NO N : List Str} {scO sc : Scope} {own : Nat} {fr : List Nat} {fp : List Addr}
theorem ain {tk : Nat} (S : CompScope NO scO N sc own fr) (hN : X.N = NO) (hsc : X.env.scope = scO) (I : Inv X pins σ H s) (hf : ∀ b ∈ fp, vz X pins H b) (ho : ∀ b ∈ fp, ∃ o, s.heap.get? b = some o /\ ∀ v, o.data ≠ .cell v) :
  Inv (zq X sc N s H fp (X.pn ++ pins)) [] (jm own fr σ) H { s with heap := pushCells (s.heap.push { cls := .type "dict", data := .dict #[] }) sc.names, toks := tk } := by
 have hfree : ∀ x, (x, NameKind.free) ∈ sc.names -> ∃ c, X.env.cells.lookup x = some c := fun x hx => I.ok.has x (by
  show X.env.scope.names.lookup x = _ \/ X.env.scope.names.lookup x = _
  rw [hsc]
  exact S.free _ hx rfl)
 have hclt : ∀ p ∈ yh X.env sc.names [], p.2 < s.heap.objs.size := fun p hp => by
  rcases qg hp with q | ⟨q, e⟩
  ·cases q
  ·obtain ⟨c, hc⟩ := hfree _ q
   rw [e, hc]
   obtain ⟨v, o, ho, _⟩ := I.cell _ c hc
   exact aoc ho
 have hsz : (s.heap.push { cls := .type "dict", data := .dict #[] }).objs.size = s.heap.objs.size + 1 := apc ..
 have hk : ∀ b o, s.heap.get? b = some o -> (pushCells (s.heap.push { cls := .type "dict", data := .dict #[] }) sc.names).get? b = some o := fun b o e => pushCells_keeps _ _ _ _ (anV _ e)
 have hcase : ∀ {x : Str} {c : Addr}, (cellsFrom (s.heap.objs.size + 1) sc.names (yh X.env sc.names [])).lookup x = some c -> (s.heap.objs.size + 1 <= c /\ (x, NameKind.cell) ∈ sc.names) \/ (X.env.cells.lookup x = some c /\ (x, NameKind.free) ∈ sc.names) := fun {x c} e => by
  rcases y6 e with ⟨q1, _, q3⟩ | ⟨q1, _⟩
  ·exact .inl ⟨q1, q3⟩
  ·exact .inr (ve hfree q1)
 have clap : (yh X.env sc.names []).Pairwise fun x y => x.2 ≠ y.2 := by
  have key : ∀ (names : List (Str × NameKind)) (acc : List (Str × Addr)), (∀ p ∈ acc, X.env.cells.lookup p.1 = some p.2) -> (∀ x, (x, NameKind.free) ∈ names -> ∃ c, X.env.cells.lookup x = some c) -> (acc.Pairwise fun x y => x.2 ≠ y.2) -> (∀ p ∈ acc, (p.1, NameKind.free) ∉ names) -> (names.map (·.1)).Nodup ->
    (yh X.env names acc).Pairwise fun x y => x.2 ≠ y.2 := by
   intro names
   induction names with
   | nil => intro acc _ _ h _ _; exact h
   | cons p r ih =>
    intro acc h1 h2 h3 h4 h5
    obtain ⟨y, k⟩ := p
    rw [aor] at h5
    obtain ⟨n1, n2⟩ := aoY.mp h5
    unfold yh
    split
    ·rename_i hk
     have hk' : k = .free := by simpa using hk
     subst hk'
     obtain ⟨c, hc⟩ := h2 y an0
     rw [hc]
     refine ih _ (fun p hp => ?_) (fun x hx => h2 x (anY _ hx)) (List.pairwise_cons.mpr ⟨fun p hp => ?_, h3⟩) (fun p hp => ?_) n2
     ·rcases aoa.mp hp with e | hp
      ·subst e; exact hc
      ·exact h1 p hp
     ·intro e
      have e' : p.2 = c := e.symm
      have := I.ok.inj _ _ _ hc (e' ▸ h1 p hp)
      exact h4 p hp (this ▸ an0)
     ·rcases aoa.mp hp with e | hp
      ·subst e
       intro z
       exact n1 (aos.mpr ⟨_, z, rfl⟩)
      ·intro z; exact h4 p hp (anY _ z)
    ·exact ih acc h1 (fun x hx => h2 x (anY _ hx)) h3 (fun p hp z => h4 p hp (anY _ z)) n2
  exact key sc.names [] (fun p hp => by cases hp) hfree List.Pairwise.nil (fun p hp => by cases hp) S.snd
 have apart := jl sc.names (s.heap.objs.size + 1) _ clap fun p hp => apa (hclt p hp)
 have hkd : ∀ x, (zq X sc N s H fp (X.pn ++ pins)).env.kindOf x = some .cell \/ (zq X sc N s H fp (X.pn ++ pins)).env.kindOf x = some .free -> (x, NameKind.cell) ∈ sc.names \/ (x, NameKind.free) ∈ sc.names := fun x hx => by
  cases q : sc.names.lookup x with
  | none =>
   have e : (zq X sc N s H fp (X.pn ++ pins)).env.kindOf x = none := jo q
   rw [e] at hx
   rcases hx with z | z <;> cases z
  | some k =>
   have e : (zq X sc N s H fp (X.pn ++ pins)).env.kindOf x = some _ := jA (env := X.env) q
   rw [e] at hx
   have hm := mem_of_lookup q
   cases k <;> first | exact .inl hm | exact .inr hm | (rcases hx with z | z <;> cases z)
 have cellAt : ∀ x c, (cellsFrom (s.heap.objs.size + 1) sc.names (yh X.env sc.names [])).lookup x = some c -> ∃ v, (pushCells (s.heap.push { cls := .type "dict", data := .dict #[] }) sc.names).IsCell c v := fun x c e => by
  rcases hcase e with ⟨q, _⟩ | ⟨q, _⟩
  ·exact ⟨none, jU _ _ _ x c (by rw [hsz]; exact e) (by rw [hsz]; exact q) fun p hp => by rw [hsz]; exact apa (hclt p hp)⟩
  ·obtain ⟨v, o, ho, hd⟩ := I.cell x c q
   exact ⟨v, o, hk _ _ ho, hd⟩
 have lt_of_cell : ∀ x c, X.env.cells.lookup x = some c -> c < s.heap.objs.size := fun x c e => by
  obtain ⟨v, o, ho, hd⟩ := I.cell x c e
  exact aoc ho
 have lt_of_fp : ∀ b ∈ fp, b < s.heap.objs.size := fun b hb => by
  obtain ⟨o, e, _⟩ := ho b hb
  exact aoc e
 have okX : (zq X sc N s H fp (X.pn ++ pins)).Ok := by
  refine ⟨I.mod, S.kind, I.ok.glob, I.ok.blt, anW _, fun x y c h1 h2 => name_of_addr apart (mem_of_lookup h1) (mem_of_lookup h2), fun x hx => ?_, fun x c hx hc => ?_, I.ok.hd, I.ok.frames, .inl rfl, fun b hb => ⟨aoB (lt_of_fp b hb), fun x c e => ?_⟩, I.bs, aou I.ok.bsz I.sz, fun b o e hb => ?_, fun b hb z => ?_, I.stack, I.stkFree⟩
  ·rcases hkd x hx with q | q
   ·exact abK (yk S.snd q)
   ·obtain ⟨c, hc⟩ := hfree x q
    exact vf (by rw [aao hfree q hc]; rfl)
  ·have hx' : sc.names.lookup x = some .cell := of_decide_eq_true hx
   rcases hcase hc with ⟨q, _⟩ | ⟨_, q⟩
   ·exact aqO q
   ·rw [yk S.snd q] at hx'; cases hx'
  ·rcases hcase e with ⟨q, _⟩ | ⟨q, _⟩
   ·exact apZ (aow (lt_of_fp b hb) (aqO q))
   ·exact (hf b hb).2.2.2.2.1 x c q
  ·rcases (hf b hb).2.2.2.1 with z | z
   ·exact I.ok.noex b o e z
   ·exact absurd (aoc e) (arT.mpr (aou I.ok.bsz z))
  ·rcases aoa.mp (I.stkSub b z) with q | q
   ·exact (hf b hb).2.1 q
   ·exact (hf b hb).2.2.1 q
 refine ⟨okX, rfl, I.bare, Un.kept hk, ⟨fun _ => none, (Heap.Ns.new s.heap (.type "dict")).keeps (pushCells_keeps _ _), fun i x v h1 h2 h3 => ?_⟩, cellAt, I.hok.fresh (anW _), fun x c e => ?_, fun p hp => ?_, I.hok.kept hk, ?_⟩
 ·obtain ⟨m, _, hl⟩ := id I.loc
  have h2' : (jm own fr σ)[i]? = some (some v) := h2
  have hio : own <= i := by
   unfold jm at h2'
   refine Nat.le_of_not_lt fun hi => ?_
   rw [aoj (by simpa using hi), aqc] at h2'
   split at h2' <;> cases h2'
  obtain ⟨k, rfl⟩ := Nat.exists_eq_add_of_le hio
  have h1' : N[own + k]? = some x := h1
  unfold jm at h2'
  rw [aol (by simp)] at h2'
  simp only [aqU, Nat.add_sub_cancel_left, aob] at h2'
  cases hj : fr[k]? with
  | none => rw [hj] at h2'; cases h2'
  | some j =>
   rw [hj] at h2'
   have h2'' : (σ[j]?).getD none = some v := Option.some.inj h2'
   have hp : (x, j) ∈ (N.drop own).zip fr := by
    refine aof (i := k) ?_
    rw [List.getElem?_zip_eq_some]
    exact ⟨by rw [aqL]; exact h1', hj⟩
   obtain ⟨f1, f2⟩ := S.frn _ hp
   have hσ : σ[j]? = some (some v) := by
    cases q : σ[j]? with
    | none => rw [q] at h2''; cases h2''
    | some w => rw [q] at h2''; exact congrArg some h2''
   have hxf : (x, NameKind.free) ∈ sc.names := mem_of_lookup f2
   have hko := S.free _ hxf rfl
   have hvis : Vis X.env.scope x := by rw [hsc]; exact .inr hko
   obtain ⟨u, ru, q⟩ := hl j x v (by rw [hN]; exact f1) hσ hvis
   refine ⟨u, ru, .inr ⟨?_, ?_⟩⟩
   ·have e : (zq X sc N s H fp (X.pn ++ pins)).env.kindOf x = some _ := jA (env := X.env) f2
    rw [e]
    split
    ·exact .inl rfl
    ·exact .inr rfl
   ·rcases q with ⟨k1, _⟩ | ⟨_, c, hc, z⟩
    ·have k1' : X.env.scope.names.lookup x = some .local := k1
     rw [hsc] at k1'
     rcases hko with z | z <;> rw [z] at k1' <;> cases k1'
    ·obtain ⟨o, ho, hd⟩ := z
     refine ⟨c, ?_, o, hk _ _ ho, hd⟩
     have hcl := aao hfree hxf hc
     obtain ⟨c', hc'⟩ := vf (names := sc.names) (n := s.heap.objs.size + 1) (acc := yh X.env sc.names []) (x := x) (by rw [hcl]; rfl)
     rcases hcase hc' with ⟨_, z⟩ | ⟨z, _⟩
     ·have := yk S.snd z
      rw [f2] at this; cases this
     ·rw [hc] at z; cases z; exact hc'
 ·rcases hcase e with ⟨q, _⟩ | ⟨q, _⟩
  ·exact I.hok.fresh (aqO q)
  ·exact I.freeC x c q
 ·have hp' : p ∈ X.pn ++ pins := by simpa [zq] using hp
  obtain ⟨e, n, ne, nf, d⟩ := I.pin p hp'
  refine ⟨hk _ _ e, n, aoB (aoc e), fun z => ?_, d⟩
  rcases aoa.mp (I.stkSub _ z) with q | q
  ·exact ne q
  ·exact nf q
 ·show (jm own fr σ).length = N.length
  unfold jm
  rw [S.len]
  simp
end
abbrev TB := St -> Hp -> (St -> Hp -> Prop) -> Prop
def PB (X : Cx) (act : Sem Unit) (t : TB) : Prop :=
 ∀ (pins : List (Addr × Obj)) (s : Shared) (σ : St) (H : Hp) (Q : St -> Hp -> Prop), Inv X pins σ H s -> t σ H Q -> wpAny (model X.prog X.w) X.A act (fun _ s' => ∃ σ' H', Inv X pins σ' H' s' /\ Q σ' H') X.xe s
def PTs (X : Cx) (ifs : List Expr) (t : TT) : Prop :=
 ∀ (pins : List (Addr × Obj)) (s : Shared) (σ : St) (H : Hp) (Q : Bool -> Hp -> Prop), Inv X pins σ H s -> t σ H Q ->
  wpAny (model X.prog X.w) X.A (forIn ifs true fun c r => if r = true then do let ok <- isTrue c X.env (eval c X.env); pure (ForInStep.yield ok) else pure (ForInStep.yield r)) (TP X pins σ Q) X.xe s
def amh : TT := fun _ H Q => Q true H
theorem yO {X : Cx} : PTs X [] amh := fun pins s σ H Q I h => wpAny_tests_nil ⟨H, I, h⟩
theorem acK {X : Cx} {c : Expr} {t : TT} (hc : PT X c t) : PTs X [c] t := fun pins s σ H Q I h => wpAny_tests_one (hc pins s σ H Q I h)
def adC (J : It) (g : TG) (tt : TT) (tb : TB) : TB := fun σ H Q => ∃ W : Nat -> Nat -> St -> Hp -> Prop, (∃ m, W 0 m σ H) /\ ∀ i m σ H, W i m σ H ->
 (J.stop i H /\ Q σ H) \/ (J.go i H /\ ∀ x H', J.yld i H x H' -> g x σ H' fun σ2 H2 => tt σ2 H2 fun b H3 => if b = true then tb σ2 H3 fun σ' H' => ∃ m', m' < m /\ W (i + 1) m' σ' H' else ∃ m', m' < m /\ W (i + 1) m' σ2 H3)
section
variable {X : Cx} {pins : List (Addr × Obj)} {s : Shared} {σ : St} {H : Hp} {tg : Expr} {e : Expr} {d : Nat} {acc : Value} {ifs : List Expr} {g : TG} {tt : TT} {tb : TB} {act : Sem Unit} {pos : Pos}
theorem adD (hx : ∀ e s, X.xe e s -> False) (hc : X.calm = true) (hg : PG X tg g) (ht : PTs X ifs tt) (hb : PB X act tb)
  (heq : ∀ it, compTurn e d it acc X.env = (do
   standAt pos
   match <- pyNext it with
   | none => pure (.done .next)
   | some v =>
    letOwnedTupleGo tg it v
    assign tg X.env v
    let mut ok := true
    for c in ifs do
     if ok then ok <- isTrue c X.env (eval c X.env)
    if ok then
     act
    again (.compLoop e d it acc X.env)))
  (hqt : ∀ it, (Code.compLoop e d it acc X.env).quiet = true)
  (hden : ∀ it, (model X.prog X.w).den (.compLoop e d it acc X.env) = (compTurn e d it acc X.env).onRaise (fun x => do noteFrame x X.env; theTreesLotGoes x))
  (hund : ∀ it, X.A.under (.compLoop e d it acc X.env) = X.A)
  {it : Addr} {fp : List Addr} {tn : Nat -> Heap -> Prop} {J : It} {Q : St -> Hp -> Prop} {R : Result -> Shared -> Prop} (I : Inv X pins σ H s) (T : Turn X.prog X.w X.K tg J fp it tn) (st : tn 0 s.heap) (f : ∀ b ∈ fp, vz X pins H b)
  (h : adC J g tt tb σ H Q) (hR : ∀ σ' H' s', Inv X pins σ' H' s' -> (∀ b ∈ fp, H' b = none) -> Q σ' H' -> R (.ok .next) s') : codeAny (model X.prog X.w) X.A (.compLoop e d (.ref it) acc X.env) R s := by
 obtain ⟨W, ⟨m0, w0⟩, turn⟩ := h
 have stat : ∀ {H' : Hp}, (∀ b ∈ fp, H' b = none) -> ∀ b ∈ fp, vz X pins H' b := fun hn b hb => ⟨hn b hb, (f b hb).2⟩
 refine codeAny_loop (hqt _) (fun n s' => ∃ i σ' H', Inv X pins σ' H' s' /\ tn i s'.heap /\ (∀ b ∈ fp, H' b = none) /\ W i n σ' H') ?_ m0 ⟨0, σ, H, I, st, fun b hb => (f b hb).1, w0⟩
 rintro n s3 ⟨i, σ3, H3, I3, st3, fr3, w3⟩
 rw [hden, hund]
 refine wpAny_noted ?_
 rw [heq]
 have nox : ∀ e' s', X.xe e' s' -> notedBy (model X.prog X.w) X.A X.env (fun e s' => R (.error e) s') e' s' := fun e' s' z => (hx e' s' z).elim
 refine wpAny_bind (wpAny_standAt (wpAny_bind ?_))
 rcases turn i n σ3 H3 w3 with ⟨stop, qn⟩ | ⟨go, step⟩
 ·refine wpAny_mono (T.done X rfl rfl rfl hc i pins s3 σ3 H3 X.xe I3 (stat fr3) st3 stop) (fun r s4 hr4 => ?_) nox
  obtain ⟨hr, I4⟩ := hr4
  subst hr
  exact wpAny_pure (hR σ3 H3 s4 I4 fr3 qn)
 ·refine wpAny_mono (T.item X rfl rfl rfl hc i pins s3 σ3 H3 X.xe I3 (stat fr3) st3 go) (fun r s4 hr4 => ?_) nox
  obtain ⟨u, hr, h4⟩ := hr4
  subst hr
  refine wpAny_bind (wpAny_mono h4 (fun _ s5 h5 => ?_) nox)
  obtain ⟨x, H5, I5, r5, y5, st5, fr5⟩ := h5
  have I5' := I5.pinned (stat fr5) (T.obj _ _ st5)
  refine wpAny_bind (wpAny_mono (hg _ s5 σ3 H5 x u _ I5' r5 (step x H5 y5)) (fun _ s6 h6 => ?_) nox)
  obtain ⟨σ6, H6, I6, q6⟩ := h6
  refine wpAny_bind (wpAny_mono (ht _ s6 σ6 H6 _ I6 q6) (fun ok s7 h7 => ?_) nox)
  obtain ⟨H7, I7, q7⟩ := h7
  have again : ∀ {σ7 : St} {H7 : Hp} {s7 : Shared}, Inv X (pins ++ aaX fp s5.heap) σ7 H7 s7 -> (∃ m', m' < n /\ W (i + 1) m' σ7 H7) -> ∃ m, m < n /\ ∃ i σ' H', Inv X pins σ' H' s7 /\ tn i s7.heap /\ (∀ b ∈ fp, H' b = none) /\ W i m σ' H' := fun {σ7 H7 s7} I7 n7 => by
   obtain ⟨m', hm, w7⟩ := n7
   refine ⟨m', hm, i + 1, σ7, H7, I7.unpinned, T.keep _ _ _ st5 fun b hb o e => (I7.pin (b, o) (aon _ (aon _ (qe hb e)))).1, fun b hb => ?_, w7⟩
   obtain ⟨o, e, d⟩ := T.obj _ _ st5 b hb
   exact (I7.pin (b, o) (aon _ (aon _ (qe hb e)))).2.1
  cases ok with
  | false =>
   rw [if_neg anR] at q7
   exact wpAny_pure ⟨rfl, again I7 q7⟩
  | true =>
   rw [if_pos rfl] at q7
   refine wpAny_bind (wpAny_mono (hb _ s7 σ6 H7 _ I7 q7) (fun _ s8 h8 => ?_) nox)
   obtain ⟨σ8, H8, I8, q8⟩ := h8
   exact wpAny_pure ⟨rfl, again I8 q8⟩
theorem acL {D : Addr} {elt : Expr} {te : TE} (he : PE X elt te) : PB X (do let _ <- call (.builtin "list.append") [.ref D, <- eval elt X.env]) (fun σ H Q => te σ H fun y H1 => ∃ xs, H1 D = some (.lst xs) /\ xs.length < sizeLine /\ Q σ (upd H1 D (.lst (xs ++ [y])))) := by
 intro pins s σ H Q I h
 refine wpAny_bind (thn (he pins s σ H _ I h) fun v s1 h1 => ?_)
 obtain ⟨y, H1, I1, r1, xs, hD, hz, q⟩ := h1
 obtain ⟨z, its, n, r, hl, e⟩ := I1.lstM hD
 refine wpAny_bind ?_
 refine call_meets F.slot_list_append ⟨_, e, rfl⟩ asm (asa _ _) (PySem.list_append D its.toArray n v (by rw [aod]; omega)) ⟨e, ?_⟩
 refine wpAny_pure ⟨σ, _, I1.lset (its' := its ++ [v]) hD e (by simp) (r.append (.cons r1 .nil)) ?_, q⟩
 rw [aoh, aoZ]
 omega
theorem adE {M : Model} {A : Around} {E : Value -> Shared -> Prop} {sc : Scope} {gl : Addr} {cl : List (Str × Addr)} {qual : Str} {env : Env} {Q : Env -> Shared -> Prop} {s : Shared}
  (h : Q { scope := sc, locals := s.heap.objs.size, globals := gl, cells := cellsFrom (s.heap.objs.size + 1) sc.names cl, qual := qual, func := none, code := env.code, frame := env.frame, builtins := env.builtins } { s with heap := pushCells (s.heap.push { cls := .type "dict", data := .dict #[] }) sc.names }) :
  wpAny M A (newFunctionEnv sc gl cl [] qual none .none (some env)) Q E s := by
 simp only [newFunctionEnv, Option.isSome_some, if_true]
 refine wpAny_bind (wpAny_alloc ?_)
 refine wpAny_bind (wpAny_layCells _ (fun name kind cells => by cases hkc : kind == NameKind.cell <;> simp [hkc]) _ _ _ _ ?_)
 rw [show ({ s with heap := s.heap.push { cls := .type "dict", data := .dict #[] } } : Shared).heap.objs.size = s.heap.objs.size + 1 from apc ..]
 refine wpAny_bind ?_
 rw [aqd]
 exact wpAny_pure (wpAny_pure h)
theorem comp_back {sc : Scope} {N : List Str} {fp : List Addr} {σ' : St} {H' : Hp} {s' : Shared} {h' : Heap} (I : Inv X pins σ H s) (hf : ∀ b ∈ fp, vz X pins H b) (J : Inv (zq X sc N s H fp (X.pn ++ pins)) [] σ' H' s') (hs : apX s.heap.objs.size s'.heap h') :
  Inv X pins σ H' { s' with heap := h' } := by
 have u : Un (frs X.stack) fp H H' s.heap s'.heap := J.base
 have ne : ∀ b o, s.heap.get? b = some o -> b ≠ s.heap.objs.size := fun b o e => aoB (aoc e)
 have hfree : H' s.heap.objs.size = none := J.free
 refine I.call' (s' := { s' with heap := h' }) (ch := fp) J.os ⟨fun b o e n h1 h2 => (hs.2 b (ne b o e)).trans (u.keep b o e n h1 h2), fun b o e n h1 h2 => ?_, u.free, fun b o e h2 => ?_, u.tups, u.frzs, u.tbls⟩ (fun a o e => ?_) J.bare fun b hb => ?_
 ·obtain ⟨sl, q⟩ := u.slot b o e n h1 h2
  exact ⟨sl, (hs.2 b (ne b o e)).trans q⟩
 ·obtain ⟨o', q⟩ := u.there b o e h2
  exact ⟨o', (hs.2 b (ne b o e)).trans q⟩
 ·refine (J.hok a o e).stay (fun c v hc q => (hs.2 c ?_).trans q) (fun _ q => q) fun _ _ q => q
  intro z
  subst z
  rcases hc with hc | hc
  ·rw [<- hc] at e
   rw [hfree] at e; cases e
  ·rw [hfree] at hc; cases hc
 ·exact ⟨(hf b hb).2.2.2.1, (hf b hb).2.1, (hf b hb).2.2.2.2⟩
end
def vA (D : Addr) (te : TE) : TB := fun σ H Q => te σ H fun y H1 => ∃ xs, H1 D = some (.lst xs) /\ xs.length < sizeLine /\ Q σ (upd H1 D (.lst (xs ++ [y])))
def qA (wi : TI) (own : Nat) (fr : List Nat) (g : TG) (tt : TT) (tb : Addr -> TB) : TE := fun σ H Q => wi σ H fun J H1 => ∀ D, H1 D = none ->
 adC J g tt (tb D) (jm own fr σ) (upd H1 D (.lst [])) fun _ H2 => Q (.ref D) H2
section
variable {X : Cx} {pins : List (Addr × Obj)} {s : Shared} {σ : St} {H : Hp} {tg elt iter : Expr} {ifs : List Expr} {rest : List Comprehension} {sc scO : Scope} {NO N : List Str} {own : Nat} {fr : List Nat} {wi : TI} {g : TG} {tt : TT} {tb : Addr -> TB} {pos : Pos}
theorem adF {RR : Value -> Addr -> Result -> Shared -> Prop} {it : Addr} {fp : List Addr} {tn : Nat -> Heap -> Prop} {J : It} {Q : VK} (S : CompScope NO scO N sc own fr) (hN : X.N = NO) (hsc : X.env.scope = scO) (hc : X.calm = true)
  (hg : ∀ s₀ H₀ ex pn, PG (zq X sc N s₀ H₀ ex pn) tg g) (ht : ∀ s₀ H₀ ex pn, PTs (zq X sc N s₀ H₀ ex pn) ifs tt)
  (hb : ∀ D s₀ H₀ ex pn, ∃ act, PB (zq X sc N s₀ H₀ ex pn) act (tb D) /\ ∀ it, compTurn (.ListComp elt (⟨tg, iter, ifs, 0⟩ :: rest) sc pos) 0 it (.ref D) (zq X sc N s₀ H₀ ex pn).env = (do
   standAt iter.pos
   match <- pyNext it with
   | none => pure (.done .next)
   | some v =>
    letOwnedTupleGo tg it v
    assign tg (zq X sc N s₀ H₀ ex pn).env v
    let mut ok := true
    for c in ifs do
     if ok then ok <- isTrue c (zq X sc N s₀ H₀ ex pn).env (eval c (zq X sc N s₀ H₀ ex pn).env)
    if ok then
     act
    again (.compLoop (.ListComp elt (⟨tg, iter, ifs, 0⟩ :: rest) sc pos) 0 it (.ref D) (zq X sc N s₀ H₀ ex pn).env)))
  (I : Inv X pins σ H s) (T : Turn X.prog X.w X.K tg J fp it tn) (st : tn 0 s.heap) (f : ∀ b ∈ fp, vz X pins H b)
  (h : ∀ D, H D = none -> adC J g tt (tb D) (jm own fr σ) (upd H D (.lst [])) fun _ H2 => Q (.ref D) H2)
  (hRR : ∀ (D C : Addr) (s' : Shared) (H' : Hp), (∃ m, s'.heap.Ns C m) -> C ≠ X.env.locals -> (∀ x c, X.env.cells.lookup x = some c -> c ≠ C) -> H' C = none -> X.s₀.heap.objs.size <= C -> (∀ p ∈ X.pn ++ pins, p.1 ≠ C) -> Inv X pins σ H' s' -> Q (.ref D) H' -> RR (.ref D) C (.ok .next) s') :
  wpAny (model X.prog X.w) X.A (newList []) (fun acc s₃ => wpAny (model X.prog X.w) X.A (newFunctionEnv sc X.env.globals (yh X.env sc.names []) [] X.env.qual none .none (some X.env)) (fun cenv s₄ =>
   codeAny (model X.prog X.w) X.A (.compStart (.ListComp elt (⟨tg, iter, ifs, 0⟩ :: rest) sc pos) 0 (.ref it) acc { cenv with scope := relabel sc X.env }) (RR acc cenv.locals) s₄) X.xe s₃) X.xe s := by
 refine wpAny_newObj_type (adE ?_)
 have fpsz : ∀ b ∈ fp, b < s.heap.objs.size := fun b hb => by
  obtain ⟨o, e, _⟩ := T.obj _ _ st b hb
  exact aoc e
 have I3 := I.lnew (its := []) (ys := []) (t' := s.toks) .nil (aoI _)
 have f3 : ∀ b ∈ fp, vz X pins (upd H s.heap.objs.size (.lst [])) b := fun b hb => ⟨by rw [zI (aoB (fpsz b hb))]; exact (f b hb).1, (f b hb).2⟩
 have st3 : tn 0 (s.heap.push { cls := .type "list", data := .seq ([] : List Value).toArray }) := T.keep _ _ _ st fun b _ o e => anV _ e
 have I4 := ain (tk := s.toks) S hN hsc I3 f3 (T.obj _ _ st3)
 obtain ⟨act, pb, heq⟩ := hb s.heap.objs.size _ _ _ _
 have st4 := T.keep _ _ (pushCells ((s.heap.push { cls := .type "list", data := .seq ([] : List Value).toArray }).push { cls := .type "dict", data := .dict #[] }) sc.names) st3 fun b _ o e => pushCells_keeps _ _ _ _ (anV _ e)
 have cells_lt : ∀ x c, X.env.cells.lookup x = some c -> c < s.heap.objs.size := fun x c e => by
  obtain ⟨v, o, ho, hd⟩ := I.cell x c e
  exact aoc ho
 have esz : (s.heap.push { cls := .type "list", data := .seq ([] : List Value).toArray }).objs.size = s.heap.objs.size + 1 := apc ..
 have loop := adD (X := zq X sc N { s with heap := s.heap.push { cls := .type "list", data := .seq ([] : List Value).toArray } } (upd H s.heap.objs.size (.lst [])) fp (X.pn ++ pins)) (R := RR (.ref s.heap.objs.size) (s.heap.push { cls := .type "list", data := .seq ([] : List Value).toArray }).objs.size) (fun _ _ z => z) hc (hg _ _ _ _) (ht _ _ _ _) pb heq (fun _ => rfl) (fun _ => rfl) (fun _ => rfl) I4 T st4
  (fun b hb => ⟨(f3 b hb).1, I4.ok.exf b hb |>.1, I4.ok.exfs b hb, .inl hb, I4.ok.exf b hb |>.2, fun p hp => by
   have hp' : p ∈ X.pn ++ pins := by simpa [zq] using hp
   exact (f b hb).2.2.2.2.2 p hp'⟩) (h _ I.fresh)
  (fun σ' H' s' J' fr' q' => hRR _ _ s' H' (let ⟨m, hm, _⟩ := J'.loc; ⟨m, hm⟩) (by rw [esz]; exact apZ (apa I.lt)) (fun x c e => by rw [esz]; exact aoB (apa (cells_lt x c e))) J'.free (by rw [esz]; exact Nat.le_succ_of_le I.sz) (fun p hp => by rw [esz]; exact aoB (apa (aoc (I.pin p hp).1))) (comp_back (h' := s'.heap) I3 f3 J' (Heap.SameBut.refl ..)) q')
 exact codeAny_compStart_list loop (T.self X.A 0 _ _ _ st4 loop)
theorem Inv.touch {C : Addr} {h' : Heap} (I : Inv X pins σ H s) (hs : apX C s.heap h') (hn : H C = none) (h0 : C ≠ X.env.locals) (h1 : ∀ x c, X.env.cells.lookup x = some c -> c ≠ C) (h2 : X.s₀.heap.objs.size <= C) (h3 : ∀ p ∈ X.pn ++ pins, p.1 ≠ C) :
  Inv X pins σ H { s with heap := h' } :=
 I.turned (t' := s.toks) (fun b o hb e => (hs.2 b hb).trans e) hn h0 (.inr h2) h1 h3
theorem abL {prog : Program} {w : World} {A : Around} {R : Result -> Shared -> Prop} {s : Shared} {elt' : Expr} {g0 : Comprehension} {tg' it' : Expr} {ifs' : List Expr} {sc' : Scope} {pos' : Pos} {itv acc : Value} {env : Env}
  (here : codeAny (model prog w) A (.compLoop (.ListComp elt' [g0, ⟨tg', it', ifs', 0⟩] sc' pos') 1 itv acc env) R s)
  (once : wpAny (model prog w) A (pyIter itv) (fun j s1 => codeAny (model prog w) A (.compLoop (.ListComp elt' [g0, ⟨tg', it', ifs', 0⟩] sc' pos') 1 j acc env) R s1) (notedBy (model prog w) A env fun x s1 => R (.error x) s1) s) :
  codeAny (model prog w) A (.compStart (.ListComp elt' [g0, ⟨tg', it', ifs', 0⟩] sc' pos') 1 itv acc env) R s := by
 apply codeAny_of_tree
 show wpAny _ _ ((compStart (.ListComp elt' [g0, ⟨tg', it', ifs', 0⟩] sc' pos') 1 itv acc env).onRaise (fun z => do noteFrame z env; standAt theWindowsPlace)) _ _ s
 apply wpAny_notedAt
 unfold compStart
 show wpAny _ _ (ask >>= _) _ _ s
 apply wpAny_bind
 apply wpAny_askSetting
 apply wpAny_ite
 split
 ·first
   | exact wpAny_bind (wpAny_pure (wpAny_pure (And.intro rfl here)))
   | exact wpAny_pure (And.intro rfl here)
 ·apply wpAny_bind
  apply wpAny_rule
  show wpAny _ _ (standAt it'.pos >>= _) _ _ s
  exact wpAny_bind (wpAny_standAt (wpAny_bind (wpAny_mono once (fun j s1 q => wpAny_pure (And.intro rfl q)) fun _ _ z => z)))
section
variable {elt2 : Expr} {te : TE} {tg2 iter2 : Expr} {ifs2 : List Expr} {wi2 : TI} {g2 : TG} {tt2 : TT} {tb2 : TB} {y : Str} {i : Nat} {py spos : Pos}
def tIn (wi2 : TI) (g2 : TG) (tt2 : TT) (tb2 : TB) : TB := fun σ H Q => wi2 σ H fun J H1 => adC J g2 tt2 tb2 σ H1 Q
theorem alw {D : Addr} (hx : ∀ e s, X.xe e s -> False) (hc : X.calm = true) (hi : PI X tg2 iter2 wi2) (hg : PG X tg2 g2) (ht : PTs X ifs2 tt2) (he : PE X elt te)
  (hs : ∀ x, foldedSetIterable iter2 X.env x = pure x) :
  PB X (do
   let x <- eval iter2 X.env
   standAt iter2.pos
   let x <- foldedSetIterable iter2 X.env x
   let _ <- runOwn (.compStart (.ListComp elt [⟨tg, iter, ifs, 0⟩, ⟨tg2, iter2, ifs2, 0⟩] sc pos) 1 (<- holding [x] (pyIter x)) (.ref D) X.env) X.env) (tIn wi2 g2 tt2 (vA D te)) := by
 intro pins s σ H Q I h
 refine wpAny_bind (thn (hi pins s σ H _ I h) fun v s1 h1 => ?_)
 refine wpAny_bind (wpAny_standAt ?_)
 refine wpAny_bind (wpAny_of_eq (hs v) ?_)
 refine wpAny_bind (wpAny_holding (thn h1 fun itv s2 h2 => ?_))
 obtain ⟨it, fp, tn, J, H2, e, I2, T, st2, f2, q⟩ := h2
 subst e
 refine wpAny_bind (wpAny_runOwn ?_)
 have loop := adD (e := .ListComp elt [⟨tg, iter, ifs, 0⟩, ⟨tg2, iter2, ifs2, 0⟩] sc pos) (d := 1) (pos := iter2.pos)
  (R := fun r s' => match r with | .ok f => wpAny (model X.prog X.w) X.A (pure ()) (fun _ s' => ∃ σ' H', Inv X pins σ' H' s' /\ Q σ' H') X.xe s' | .error e => cameBackBy (model X.prog X.w) X.A X.env X.xe e s')
  hx hc hg ht (acL (D := D) he) (fun _ => rfl) (fun _ => rfl) (fun _ => rfl) (fun _ => rfl) I2 T st2 f2 q (fun σ' H' s' J' _ q' => wpAny_pure ⟨σ', H', J', q'⟩)
 exact abL loop (T.self X.A 0 _ _ _ st2 loop)
theorem afS (S : CompScope NO scO N sc own fr) (hsc : X.env.scope = scO) (ok : X.Ok) : closureFor sc X.env = pure (yh X.env sc.names []) :=
 aeU fun x hx => ok.has x (by
  show X.env.scope.names.lookup x = _ \/ X.env.scope.names.lookup x = _
  rw [hsc]
  exact S.free _ hx rfl)
theorem afT (S : CompScope NO scO N sc own fr) (hc : X.calm = true) (hi : PI X tg iter wi) (hg : ∀ s₀ H₀ ex pn, PG (zq X sc N s₀ H₀ ex pn) tg g) (ht : ∀ s₀ H₀ ex pn, PTs (zq X sc N s₀ H₀ ex pn) ifs tt)
  (hb : ∀ D s₀ H₀ ex pn, ∃ act, PB (zq X sc N s₀ H₀ ex pn) act (tb D) /\ ∀ it, compTurn (.ListComp elt (⟨tg, iter, ifs, 0⟩ :: rest) sc pos) 0 it (.ref D) (zq X sc N s₀ H₀ ex pn).env = (do
   standAt iter.pos
   match <- pyNext it with
   | none => pure (.done .next)
   | some v =>
    letOwnedTupleGo tg it v
    assign tg (zq X sc N s₀ H₀ ex pn).env v
    let mut ok := true
    for c in ifs do
     if ok then ok <- isTrue c (zq X sc N s₀ H₀ ex pn).env (eval c (zq X sc N s₀ H₀ ex pn).env)
    if ok then
     act
    again (.compLoop (.ListComp elt (⟨tg, iter, ifs, 0⟩ :: rest) sc pos) 0 it (.ref D) (zq X sc N s₀ H₀ ex pn).env)))
  (hN : X.N = NO) (hsc : X.env.scope = scO) (hs : ∀ x, foldedSetIterable iter X.env x = pure x) :
  PE X (.ListComp elt (⟨tg, iter, ifs, 0⟩ :: rest) sc pos) (qA wi own fr g tt tb) := by
 intro pins s σ H Q I h
 rw [eval_ListComp]
 refine wpAny_comprehension_free (use := none) rfl hs (afS S hsc I.ok) S.kind (fun p hp hl => yk S.snd (k := .local) (by rw [<- hl]; exact hp)) (thn (hi pins s σ H _ I h) fun v s1 h1 => thn h1 fun itv s2 h2 => ?_)
 obtain ⟨it, fp, tn, J, H2, e, I2, T, st2, f2, q⟩ := h2
 subst e
 refine adF (RR := fun acc C => compPost (model X.prog X.w) X.A X.xe none (EP X pins σ Q) acc C) S hN hsc hc hg ht hb I2 T st2 f2 q ?_
 rintro D C s' H' ⟨m, hm⟩ c0 c1 c2 c3 c4 J' q'
 exact ⟨m, hm, fun h' hs' => ⟨.ref D, H', J'.touch hs' c2 c0 c1 c3 c4, rfl, q'⟩⟩
theorem aa7 (S : CompScope NO scO N sc own fr) (hc : X.calm = true) (hNd : X.N.Nodup) (hiN : X.N[i]? = some y) (hy : Loc X.env.scope y) (hi : PI X tg iter wi) (hg : ∀ s₀ H₀ ex pn, PG (zq X sc N s₀ H₀ ex pn) tg g) (ht : ∀ s₀ H₀ ex pn, PTs (zq X sc N s₀ H₀ ex pn) ifs tt)
  (hb : ∀ D s₀ H₀ ex pn, ∃ act, PB (zq X sc N s₀ H₀ ex pn) act (tb D) /\ ∀ it, compTurn (.ListComp elt (⟨tg, iter, ifs, 0⟩ :: rest) sc pos) 0 it (.ref D) (zq X sc N s₀ H₀ ex pn).env = (do
   standAt iter.pos
   match <- pyNext it with
   | none => pure (.done .next)
   | some v =>
    letOwnedTupleGo tg it v
    assign tg (zq X sc N s₀ H₀ ex pn).env v
    let mut ok := true
    for c in ifs do
     if ok then ok <- isTrue c (zq X sc N s₀ H₀ ex pn).env (eval c (zq X sc N s₀ H₀ ex pn).env)
    if ok then
     act
    again (.compLoop (.ListComp elt (⟨tg, iter, ifs, 0⟩ :: rest) sc pos) 0 it (.ref D) (zq X sc N s₀ H₀ ex pn).env)))
  (hN : X.N = NO) (hsc : X.env.scope = scO) (hs : ∀ x, foldedSetIterable iter X.env x = pure x) (hf : X.fn y = true \/ X.env.scope.names.lookup y = some .local)
  (hsw : swapsWith (.ListComp elt (⟨tg, iter, ifs, 0⟩ :: rest) sc pos) (some (.Name y py)) spos.line X.env = pure true) :
  PS X (.Assign [.Name y py] (.ListComp elt (⟨tg, iter, ifs, 0⟩ :: rest) sc pos) spos) (jE (qA wi own fr g tt tb) (jy i)) := by
 intro pins s σ H D I h
 rw [exec_Assign_Name_used _ _ _ _ hsw]
 refine wpAny_bind (wpAny_standAt (wpAny_bind ?_))
 show wpAny _ X.A (do let _ <- comprehension (.ListComp elt (⟨tg, iter, ifs, 0⟩ :: rest) sc pos) sc X.env _ (newList []) false (eval iter X.env) (some (assign (.Name y py) X.env))) _ _ s
 refine wpAny_bind (wpAny_mono (wpAny_comprehension_free (use := some (assign (.Name y py) X.env)) (Q := fun _ s' => SP X pins D .next s') rfl hs (afS S hsc I.ok) S.kind (fun p hp hl => yk S.snd (k := .local) (by rw [<- hl]; exact hp))
  (thn (hi pins s σ H _ I h) fun v s1 h1 => thn h1 fun itv s2 h2 => ?_)) (fun _ s' hq => wpAny_pure (wpAny_pure hq)) fun _ _ e => e)
 obtain ⟨it, fp, tn, J, H2, e, I2, T, st2, f2, q⟩ := h2
 subst e
 refine adF (Q := fun x H1 => jy i x σ H1 D.nx) (RR := fun acc C => compPost (model X.prog X.w) X.A X.xe (some (assign (.Name y py) X.env)) (fun _ s' => SP X pins D .next s') acc C) S hN hsc hc hg ht hb I2 T st2 f2 q ?_
 rintro A' C s' H' ⟨m, hm⟩ c0 c1 c2 c3 c4 J' q'
 show wpAny _ X.A (assign (.Name y py) X.env (.ref A')) _ _ _
 refine wpAny_assign_Name (abW (v := .ref A') J' hNd hiN hy rfl (fun s2' I2' hsb => ?_) hf)
 obtain ⟨a, hs2, ha⟩ := hsb
 have hCa : C ≠ a := by
  rcases ha with ha | ha
  ·rw [ha]; exact c0
  ·exact ape (c1 _ _ ha)
 exact ⟨m, hm.sameBut hs2 hCa, fun h' hs' => ⟨_, H', I2'.touch hs' c2 c0 c1 c3 c4, q'⟩⟩
end
end
section
variable {X : Cx} {tg elt iter tg2 iter2 : Expr} {ifs ifs2 : List Expr} {sc scO : Scope} {NO N : List Str} {own : Nat} {fr : List Nat} {wi wi2 : TI} {g g2 : TG} {tt tt2 : TT} {te : TE} {pos py spos : Pos} {y : Str} {i : Nat}
theorem yK (S : CompScope NO scO N sc own fr) (hc : X.calm = true) (hi : PI X tg iter wi) (hg : ∀ s₀ H₀ ex pn, PG (zq X sc N s₀ H₀ ex pn) tg g) (ht : ∀ s₀ H₀ ex pn, PTs (zq X sc N s₀ H₀ ex pn) ifs tt) (he : ∀ s₀ H₀ ex pn, PE (zq X sc N s₀ H₀ ex pn) elt te)
  (hN : X.N = NO) (hsc : X.env.scope = scO) (hs : ∀ x, foldedSetIterable iter X.env x = pure x) : PE X (.ListComp elt [⟨tg, iter, ifs, 0⟩] sc pos) (qA wi own fr g tt fun D => vA D te) :=
 afT S hc hi hg ht (fun D s₀ H₀ ex pn => ⟨_, acL (D := D) (he s₀ H₀ ex pn), fun _ => rfl⟩) hN hsc hs
theorem adG (S : CompScope NO scO N sc own fr) (hc : X.calm = true) (hNd : X.N.Nodup) (hiN : X.N[i]? = some y) (hy : Loc X.env.scope y) (hi : PI X tg iter wi) (hg : ∀ s₀ H₀ ex pn, PG (zq X sc N s₀ H₀ ex pn) tg g) (ht : ∀ s₀ H₀ ex pn, PTs (zq X sc N s₀ H₀ ex pn) ifs tt) (he : ∀ s₀ H₀ ex pn, PE (zq X sc N s₀ H₀ ex pn) elt te)
  (hN : X.N = NO) (hsc : X.env.scope = scO) (hs : ∀ x, foldedSetIterable iter X.env x = pure x) (hf : X.fn y = true \/ X.env.scope.names.lookup y = some .local)
  (hsw : swapsWith (.ListComp elt [⟨tg, iter, ifs, 0⟩] sc pos) (some (.Name y py)) spos.line X.env = pure true) :
  PS X (.Assign [.Name y py] (.ListComp elt [⟨tg, iter, ifs, 0⟩] sc pos) spos) (jE (qA wi own fr g tt fun D => vA D te) (jy i)) :=
 aa7 S hc hNd hiN hy hi hg ht (fun D s₀ H₀ ex pn => ⟨_, acL (D := D) (he s₀ H₀ ex pn), fun _ => rfl⟩) hN hsc hs hf hsw
end
theorem adH {elt tg iter tg2 iter2 : Expr} {ifs ifs2 : List Expr} {sc : Scope} {pos : Pos} {it acc : Value} {env : Env} :
  compTurn (.ListComp elt [⟨tg, iter, ifs, 0⟩, ⟨tg2, iter2, ifs2, 0⟩] sc pos) 0 it acc env = (do
   standAt iter.pos
   match <- pyNext it with
   | none => pure (.done .next)
   | some v =>
    letOwnedTupleGo tg it v
    assign tg env v
    let mut ok := true
    for c in ifs do
     if ok then ok <- isTrue c env (eval c env)
    if ok then
     (do
      let x <- eval iter2 env
      standAt iter2.pos
      let x <- foldedSetIterable iter2 env x
      let _ <- runOwn (.compStart (.ListComp elt [⟨tg, iter, ifs, 0⟩, ⟨tg2, iter2, ifs2, 0⟩] sc pos) 1 (<- holding [x] (pyIter x)) acc env) env)
    again (.compLoop (.ListComp elt [⟨tg, iter, ifs, 0⟩, ⟨tg2, iter2, ifs2, 0⟩] sc pos) 0 it acc env)) := by
 unfold compTurn
 simp only [bind_assoc, pure_bind]
 rfl
section
variable {X : Cx} {tg elt iter tg2 iter2 : Expr} {ifs ifs2 : List Expr} {sc scO : Scope} {NO N : List Str} {own : Nat} {fr : List Nat} {wi wi2 : TI} {g g2 : TG} {tt tt2 : TT} {te : TE} {pos py spos : Pos} {y : Str} {i : Nat}
theorem aio (S : CompScope NO scO N sc own fr) (hc : X.calm = true) (hi : PI X tg iter wi) (hg : ∀ s₀ H₀ ex pn, PG (zq X sc N s₀ H₀ ex pn) tg g) (ht : ∀ s₀ H₀ ex pn, PTs (zq X sc N s₀ H₀ ex pn) ifs tt)
  (hi2 : ∀ s₀ H₀ ex pn, PI (zq X sc N s₀ H₀ ex pn) tg2 iter2 wi2) (hg2 : ∀ s₀ H₀ ex pn, PG (zq X sc N s₀ H₀ ex pn) tg2 g2) (ht2 : ∀ s₀ H₀ ex pn, PTs (zq X sc N s₀ H₀ ex pn) ifs2 tt2)
  (he : ∀ s₀ H₀ ex pn, PE (zq X sc N s₀ H₀ ex pn) elt te) (hN : X.N = NO) (hsc : X.env.scope = scO) (hs : ∀ x, foldedSetIterable iter X.env x = pure x) (hs2 : ∀ s₀ H₀ ex pn x, foldedSetIterable iter2 (zq X sc N s₀ H₀ ex pn).env x = pure x) :
  PE X (.ListComp elt [⟨tg, iter, ifs, 0⟩, ⟨tg2, iter2, ifs2, 0⟩] sc pos) (qA wi own fr g tt fun D => tIn wi2 g2 tt2 (vA D te)) :=
 afT S hc hi hg ht (fun D s₀ H₀ ex pn => ⟨_, alw (D := D) (fun _ _ z => z) hc (hi2 s₀ H₀ ex pn) (hg2 s₀ H₀ ex pn) (ht2 s₀ H₀ ex pn) (he s₀ H₀ ex pn) (hs2 s₀ H₀ ex pn), fun it => adH⟩) hN hsc hs
theorem adI (S : CompScope NO scO N sc own fr) (hc : X.calm = true) (hNd : X.N.Nodup) (hiN : X.N[i]? = some y) (hy : Loc X.env.scope y) (hi : PI X tg iter wi) (hg : ∀ s₀ H₀ ex pn, PG (zq X sc N s₀ H₀ ex pn) tg g) (ht : ∀ s₀ H₀ ex pn, PTs (zq X sc N s₀ H₀ ex pn) ifs tt)
  (hi2 : ∀ s₀ H₀ ex pn, PI (zq X sc N s₀ H₀ ex pn) tg2 iter2 wi2) (hg2 : ∀ s₀ H₀ ex pn, PG (zq X sc N s₀ H₀ ex pn) tg2 g2) (ht2 : ∀ s₀ H₀ ex pn, PTs (zq X sc N s₀ H₀ ex pn) ifs2 tt2)
  (he : ∀ s₀ H₀ ex pn, PE (zq X sc N s₀ H₀ ex pn) elt te) (hN : X.N = NO) (hsc : X.env.scope = scO) (hs : ∀ x, foldedSetIterable iter X.env x = pure x) (hs2 : ∀ s₀ H₀ ex pn x, foldedSetIterable iter2 (zq X sc N s₀ H₀ ex pn).env x = pure x)
  (hf : X.fn y = true \/ X.env.scope.names.lookup y = some .local)
  (hsw : swapsWith (.ListComp elt [⟨tg, iter, ifs, 0⟩, ⟨tg2, iter2, ifs2, 0⟩] sc pos) (some (.Name y py)) spos.line X.env = pure true) :
  PS X (.Assign [.Name y py] (.ListComp elt [⟨tg, iter, ifs, 0⟩, ⟨tg2, iter2, ifs2, 0⟩] sc pos) spos) (jE (qA wi own fr g tt fun D => tIn wi2 g2 tt2 (vA D te)) (jy i)) :=
 aa7 S hc hNd hiN hy hi hg ht (fun D s₀ H₀ ex pn => ⟨_, alw (D := D) (fun _ _ z => z) hc (hi2 s₀ H₀ ex pn) (hg2 s₀ H₀ ex pn) (ht2 s₀ H₀ ex pn) (he s₀ H₀ ex pn) (hs2 s₀ H₀ ex pn), fun it => adH⟩) hN hsc hs hf hsw
end
section
variable {X : Cx} {pins : List (Addr × Obj)} {σ : St} {H : Hp} {s : Shared} {h' : Heap} {fp : List Addr}
theorem Inv.turnedAll {t' : Nat} (I : Inv X pins σ H s) (hf : ∀ b ∈ fp, vz X pins H b) (k : ∀ b o, b ∉ fp -> s.heap.get? b = some o -> h'.get? b = some o) : Inv X pins σ H { s with heap := h', toks := t' } := by
 refine I.step (g' := s.gens) (d' := s.drawn) (ch := fp) (fun b hb => ⟨(hf b hb).2.2.2.1, (hf b hb).2.1, (hf b hb).2.2.2.2⟩) (fun b o _ _ hc e _ => k b o hc e) (fun b o _ _ hc e _ => ⟨o.slots, k b o hc e⟩) (fun _ _ _ _ n => n)
  (fun b o hc e => ⟨o, k b o hc e⟩) (fun _ _ e => e) (fun _ _ _ e => e) (fun b ps e => ⟨#[], by rw [e]; simp⟩) (fun m hm => ?_) (fun b u e => ?_) I.bare
 ·obtain ⟨o, es, ep, ho, r⟩ := hm
  exact ⟨o, es, ep, k _ o (fun z => (hf _ z).2.1 rfl) ho, r⟩
 ·refine (I.hok b u e).stay (fun c v hc q => k c v (fun z => ?_) q) (fun _ q => q) fun _ _ q => q
  have hn := (hf c z).1
  rcases hc with hc | hc
  ·subst hc; rw [e] at hn; cases hn
  ·rw [hc] at hn; cases hn
theorem Inv.turnedNew {t' : Nat} {t : Addr} {o : HO} (I : Inv X pins σ H s) (hf : ∀ b ∈ fp, vz X pins H b) (k : ∀ b o, b ∉ fp -> s.heap.get? b = some o -> h'.get? b = some o) (ht : s.heap.objs.size <= t) (new : ObjOk X.prog X.w (upd H t o) h' t o) :
  Inv X pins σ (upd H t o) { s with heap := h', toks := t' } := by
 have hn : H t = none := I.hok.fresh ht
 have ne : ∀ b ob, s.heap.get? b = some ob -> b ≠ t := fun b ob e => aoB (aow (aoc e) ht)
 refine I.step (g' := s.gens) (d' := s.drawn) (ch := fp) (fun b hb => ⟨(hf b hb).2.2.2.1, (hf b hb).2.1, (hf b hb).2.2.2.2⟩) (fun b o _ _ hc e _ => k b o hc e) (fun b o _ _ hc e _ => ⟨o.slots, k b o hc e⟩) (fun b ob _ e n => by rw [zI (ne b ob e)]; exact n)
  (fun b o hc e => ⟨o, k b o hc e⟩) (fun b xs e => by rw [zI (zY e hn)]; exact e) (fun b ob u e => by rw [zI (zY e hn)]; exact e) (fun b ps e => ⟨#[], by rw [zI (zY e hn), e]; simp⟩) (fun m hm => ?_) (fun b u e => ?_) I.bare
 ·obtain ⟨o, es, ep, ho, r⟩ := hm
  exact ⟨o, es, ep, k _ o (fun z => (hf _ z).2.1 rfl) ho, r⟩
 ·by_cases hb : b = t
  ·subst hb; rw [zA] at e; cases e; exact new
  ·rw [zI hb] at e
   refine (I.hok b u e).stay (fun c v hc q => k c v (fun z => ?_) q) (fun c q => by rw [zI (zY q hn)]; exact q) fun c xs q => by rw [zI (zY q hn)]; exact q
   have hn' := (hf c z).1
   rcases hc with hc | hc
   ·subst hc; rw [e] at hn'; cases hn'
   ·rw [hc] at hn'; cases hn'
end
def Ite (K : anS) (a : Addr) : It :=
 ⟨fun i H => ∃ xs x, SqL K H a xs /\ xs[i]? = some x, fun i H x H' => ∃ t y, x = .ref t /\ H t = none /\ H' = upd H t (.tup [.int i, y]) /\ ∀ xs, SqL K H a xs -> xs[i]? = some y, fun i H => ∃ xs, SqL K H a xs /\ xs.length <= i⟩
theorem ag5 {P : Program} {w : World} {K : anS} {es : List Expr} {k : Nat} {pos : Pos} (a e it : Addr) (hne : e ≠ it) : Turn P w K (.Tuple es k pos) (Ite K a) [e, it] e (fun i h => (∃ old, IsEnum h e it i old) /\ h.IsListIter it a i) where
 mem := by simp
 obj := fun i h st b hb => by
  obtain ⟨⟨old, se⟩, o, eo, c, d⟩ := st
  rcases aoa.mp hb with z | z
  ·subst z
   exact ⟨_, se, fun v z => by
    have z' : Data.fields _ = Data.cell v := z
    cases z'⟩
  ·have z : b = it := by simpa using z
   subst z
   exact ⟨o, eo, fun v z => by rw [d] at z; cases z⟩
 keep := fun i h h' st kk => ⟨let ⟨old, se⟩ := st.1; ⟨old, kk e (by simp) _ se⟩, st.2.at fun o eo => kk it (by simp) o eo⟩
 item := by
  intro X hP hw hK hc i pins s σ H E I hf st hg
  subst hP hw hK
  obtain ⟨xs, x, hq, hx⟩ := hg
  obtain ⟨its, rv, p, hz⟩ := I.list hq
  obtain ⟨u, hu, ru⟩ := rv.get hx
  obtain ⟨⟨old, se⟩, si⟩ := st
  refine wpAny_pyNext_enum_item se si p.isList (x := u) (by simpa using hu) hne fun h' so si' tp sz kp => ?_
  refine ⟨_, rfl, ?_⟩
  refine wpAny_letOwnedTupleGo_enum (s := { s with heap := h', toks := s.toks + 1 }) so fun h2 se2 sb => ?_
  have hlt : e < s.heap.objs.size := aoc se
  obtain ⟨oi, eoi, _, _⟩ := id si
  have hlt2 : it < s.heap.objs.size := aoc eoi
  have kk : ∀ b o, b ∉ [e, it] -> s.heap.get? b = some o -> h2.get? b = some o := fun b o hb eb => by
   have h1 : b ≠ e := fun z => hb (by simp [z])
   have h2' : b ≠ it := fun z => hb (by simp [z])
   exact (sb.2 b h1).trans (kp b o h1 h2' eb)
  have I2 : Inv X pins σ (upd H s.heap.objs.size (.tup [.int i, x])) { s with heap := h2, toks := s.toks + 1 } := I.turnedNew hf kk (anW _)
   ⟨by show 2 <= sizeLine; decide, [.int i s.toks, u], .cons ⟨_, rfl⟩ (.cons ru .nil), ⟨_, (sb.2 _ (apZ hlt)).trans tp, rfl, _, rfl⟩⟩
  refine ⟨.ref s.heap.objs.size, _, I2, rfl, ⟨_, x, rfl, I.fresh, rfl, fun ys hy => by rw [I.list_inj hy hq]; exact hx⟩, ⟨⟨_, se2⟩, ?_⟩, fun b hb => ?_⟩
  ·exact si'.at fun o eo => (sb.2 it (ape hne)).trans eo
  ·rw [zI]
   ·exact (hf b hb).1
   ·rcases aoa.mp hb with z | z
    ·subst z; exact aoB hlt
    ·have z : b = it := by simpa using z
     subst z; exact aoB hlt2
 done := by
  intro X hP hw hK hc i pins s σ H E I hf st hg
  subst hP hw hK
  obtain ⟨xs, hq, hx⟩ := hg
  obtain ⟨its, rv, p, hz⟩ := I.list hq
  obtain ⟨⟨old, se⟩, si⟩ := st
  have hl := rv.length
  exact wpAny_pyNext_enum_end (I.ok.hd hc) se si p.isList (by simp; omega) fun h' eb => ⟨rfl, I.turnedAll (t' := s.toks) hf fun b o hb e' => eb b o (fun z => hb (by simp [z])) e'⟩
 self := fun _ _ _ _ _ st h => let ⟨_, se⟩ := st.1; wpAny_pyIter_enum se h
section
variable {X : Cx} {es : List Expr} {k : Nat} {tpos : Pos}
def afU (K : anS) (ta : TA) : TI := fun σ H R => ta σ H fun vs H1 => ∃ a, vs = [.ref a] /\ (∃ xs, SqL K H1 a xs) /\ R (Ite K a) H1
theorem ake {a : Expr} {ta : TA} {p pos : Pos} (hg : Gl X "enumerate") (hm : X.mg "enumerate" = none) (ha : PA X [a] ta) (hs : starEach [a] X.env = [(false, eval a X.env)] := by rfl) : PI X (.Tuple es k tpos) (.Call (.Name "enumerate" p) [a] [] pos) (afU X.K ta) := by
 intro pins s σ H R I h
 refine Call_ (qc I hg hm boot_enumerate (ao0 (thn (ha pos pins s σ H _ I h) fun us s1 ⟨vs, H1, I1, r1, q1⟩ => ?_) hs rfl))
 obtain ⟨l, e, ⟨xs, hq⟩, q⟩ := q1
 subst e
 cases r1 with
 | cons r rr =>
  cases rr
  cases r
  obtain ⟨its, rv, p, hz⟩ := I1.list hq
  refine call_enumerate_list p.isList fun h' he hi hsz kp => ?_
  refine wpAny_pyIter_enum he ?_
  have hne : s1.heap.objs.size + 1 ≠ s1.heap.objs.size := Nat.succ_ne_self _
  refine ⟨s1.heap.objs.size + 1, [s1.heap.objs.size + 1, s1.heap.objs.size], _, _, H1, rfl, I1.kept (t' := s1.toks) kp, ag5 l _ _ hne, ⟨⟨_, he⟩, hi⟩, fun b hb => ?_, q⟩
  rcases aoa.mp hb with z | z
  ·subst z; exact I1.fpOk (aqN _) (I1.hok.fresh (aqN _))
  ·have z : b = s1.heap.objs.size := by simpa using z
   subst z; exact I1.fpOk (anW _) (I1.hok.fresh (anW _))
end
theorem aip {K : anS} {a : Addr} {xs : List V} {g : TG} {tb : TS} {D : Ends} {σ : St} {H : Hp} (Pv : Nat -> St -> Hp -> Prop) (h0 : Pv 0 σ H) (hl : ∀ i σ H, i <= xs.length -> Pv i σ H -> SqL K H a xs)
  (hs : ∀ i x σ H t, xs[i]? = some x -> Pv i σ H -> H t = none -> g (.ref t) σ (upd H t (.tup [.int i, x])) fun σ2 H2 => tb { D with nx := Pv (i + 1), ct := Pv (i + 1), bk := D.nx } σ2 H2) (hd : ∀ σ H, Pv xs.length σ H -> D.nx σ H) :
  ∃ W : Nat -> Nat -> St -> Hp -> Prop, (∃ m, W 0 m σ H) /\ ∀ i m σ H, W i m σ H ->
   ((Ite K a).stop i H /\ D.nx σ H) \/ ((Ite K a).go i H /\ ∃ N : St -> Hp -> Prop, (∀ σ' H', N σ' H' -> ∃ m', m' < m /\ W (i + 1) m' σ' H') /\ ∀ x H', (Ite K a).yld i H x H' -> g x σ H' fun σ2 H2 => tb { D with nx := N, ct := N, bk := D.nx } σ2 H2) := by
 refine ⟨fun i m σ H => Pv i σ H /\ i <= xs.length /\ m + i = xs.length, ⟨xs.length, h0, aoI _, rfl⟩, fun i m σ H ⟨p, hi, hm⟩ => ?_⟩
 have q := hl i σ H hi p
 by_cases hlt : i < xs.length
 ·refine .inr ⟨⟨xs, xs[i], q, anP hlt⟩, Pv (i + 1), fun σ' H' n => ⟨m - 1, by omega, n, hlt, by omega⟩, fun x H' hy => ?_⟩
  obtain ⟨t, y, rfl, ht, rfl, hy⟩ := hy
  exact hs i y σ H t (hy xs q) p ht
 ·have e : i = xs.length := by omega
  subst e
  exact .inl ⟨⟨xs, q, anW _⟩, hd σ H p⟩
mutual
def Rep (K : anS) (H : Hp) : PyData -> V -> Prop
 | .none, v => v = .non
 | .bool b, v => v = .bl b
 | .int i, v => v = .int i
 | .str x, v => v = .str x
 | .list ds, v => ∃ a xs, v = .ref a /\ SqL K H a xs /\ Reps K H ds xs
 | .tuple ds, v => ∃ a xs, v = .ref a /\ SqT K H a xs /\ Reps K H ds xs
 | .dict _, _ => False
def Reps (K : anS) (H : Hp) : List PyData -> List V -> Prop
 | [], xs => xs = []
 | d :: ds, xs => ∃ x r, xs = x :: r /\ Rep K H d x /\ Reps K H ds r
end
theorem Same.seqT {K : anS} {H H' : Hp} {a : Addr} {xs : List V} (e : Same H H') (h : SqT K H a xs) : SqT K H' a xs := by
 rcases h with (h | ⟨o, h⟩) | h
 ·exact .inl (.inl (e _ _ h))
 ·exact .inl (.inr ⟨o, e _ _ h⟩)
 ·exact .inr h
mutual
theorem Rep.mono {K : anS} {H H' : Hp} (e : Same H H') : ∀ (d : PyData) (v : V), Rep K H d v -> Rep K H' d v
 | .none, _, h => by rw [Rep] at h ⊢; exact h
 | .bool _, _, h => by rw [Rep] at h ⊢; exact h
 | .int _, _, h => by rw [Rep] at h ⊢; exact h
 | .str _, _, h => by rw [Rep] at h ⊢; exact h
 | .list ds, v, h => by
  rw [Rep] at h ⊢
  obtain ⟨a, xs, h1, h2, h3⟩ := h
  exact ⟨a, xs, h1, e.seq h2, Reps.mono e ds xs h3⟩
 | .tuple ds, v, h => by
  rw [Rep] at h ⊢
  obtain ⟨a, xs, h1, h2, h3⟩ := h
  exact ⟨a, xs, h1, e.seqT h2, Reps.mono e ds xs h3⟩
 | .dict _, _, h => by rw [Rep] at h; exact h.elim
theorem Reps.mono {K : anS} {H H' : Hp} (e : Same H H') : ∀ (ds : List PyData) (xs : List V), Reps K H ds xs -> Reps K H' ds xs
 | [], _, h => by rw [Reps] at h ⊢; exact h
 | d :: ds, xs, h => by
  rw [Reps] at h ⊢
  obtain ⟨x, r, h1, h2, h3⟩ := h
  exact ⟨x, r, h1, Rep.mono e d x h2, Reps.mono e ds r h3⟩
end
theorem rep_int {K : anS} {H : Hp} {i : Int} {v : V} : Rep K H (.int i) v ↔ v = .int i := by rw [Rep]
theorem rep_bool {K : anS} {H : Hp} {b : Bool} {v : V} : Rep K H (.bool b) v ↔ v = .bl b := by rw [Rep]
theorem rep_none {K : anS} {H : Hp} {v : V} : Rep K H .none v ↔ v = .non := by rw [Rep]
theorem rep_str {K : anS} {H : Hp} {x : Str} {v : V} : Rep K H (.str x) v ↔ v = .str x := by rw [Rep]
theorem rep_list {K : anS} {H : Hp} {ds : List PyData} {v : V} : Rep K H (.list ds) v ↔ ∃ a xs, v = .ref a /\ SqL K H a xs /\ Reps K H ds xs := by rw [Rep]
theorem rep_tuple {K : anS} {H : Hp} {ds : List PyData} {v : V} : Rep K H (.tuple ds) v ↔ ∃ a xs, v = .ref a /\ SqT K H a xs /\ Reps K H ds xs := by rw [Rep]
theorem reps_nil {K : anS} {H : Hp} {xs : List V} : Reps K H [] xs ↔ xs = [] := by rw [Reps]
theorem reps_cons {K : anS} {H : Hp} {d : PyData} {ds : List PyData} {xs : List V} : Reps K H (d :: ds) xs ↔ ∃ x r, xs = x :: r /\ Rep K H d x /\ Reps K H ds r := by rw [Reps]
theorem Reps.nil' {K : anS} {H : Hp} : Reps K H [] [] := reps_nil.mpr rfl
theorem Reps.cons' {K : anS} {H : Hp} {d : PyData} {ds : List PyData} {x : V} {r : List V} (h : Rep K H d x) (t : Reps K H ds r) : Reps K H (d :: ds) (x :: r) := reps_cons.mpr ⟨x, r, rfl, h, t⟩
theorem Reps.length {K : anS} {H : Hp} : ∀ {ds : List PyData} {xs : List V}, Reps K H ds xs -> xs.length = ds.length
 | [], xs, h => by rw [reps_nil.mp h]; rfl
 | d :: ds, xs, h => by
  obtain ⟨x, r, rfl, _, h3⟩ := reps_cons.mp h
  rw [aoe, aoe, Reps.length h3]
theorem Reps.get {K : anS} {H : Hp} : ∀ {ds : List PyData} {xs : List V} {i : Nat} {d : PyData}, Reps K H ds xs -> ds[i]? = some d -> ∃ x, xs[i]? = some x /\ Rep K H d x
 | [], _, _, _, _, e => by simp at e
 | d :: ds, xs, 0, d', h, e => by
  obtain ⟨x, r, rfl, h2, _⟩ := reps_cons.mp h
  simp at e; subst e
  exact ⟨x, rfl, h2⟩
 | d :: ds, xs, i + 1, d', h, e => by
  obtain ⟨x, r, rfl, _, h3⟩ := reps_cons.mp h
  obtain ⟨y, h1, h2⟩ := Reps.get (i := i) h3 (by simpa using e)
  exact ⟨y, by simpa using h1, h2⟩
theorem Reps.snoc {K : anS} {H : Hp} {d : PyData} {x : V} (h : Rep K H d x) : ∀ {ds : List PyData} {xs : List V}, Reps K H ds xs -> Reps K H (ds ++ [d]) (xs ++ [x])
 | [], xs, t => by rw [reps_nil.mp t]; exact .cons' h .nil'
 | d' :: ds, xs, t => by
  obtain ⟨y, r, rfl, h2, h3⟩ := reps_cons.mp t
  exact .cons' h2 (Reps.snoc h h3)
theorem Reps.append {K : anS} {H : Hp} : ∀ {ds es : List PyData} {xs ys : List V}, Reps K H ds xs -> Reps K H es ys -> Reps K H (ds ++ es) (xs ++ ys)
 | [], es, xs, ys, t, u => by rw [reps_nil.mp t]; exact u
 | d' :: ds, es, xs, ys, t, u => by
  obtain ⟨y, r, rfl, h2, h3⟩ := reps_cons.mp t
  exact .cons' h2 (Reps.append h3 u)
theorem Reps.ints {K : anS} {H : Hp} : ∀ {ns : List Int} {xs : List V}, Reps K H (ns.map .int) xs -> xs = ns.map V.int
 | [], xs, h => reps_nil.mp h
 | n :: ns, xs, h => by
  obtain ⟨x, r, rfl, h2, h3⟩ := reps_cons.mp h
  rw [rep_int.mp h2, Reps.ints h3]; rfl
theorem Reps.ints' {K : anS} {H : Hp} : ∀ (ns : List Int), Reps K H (ns.map .int) (ns.map V.int)
 | [] => .nil'
 | n :: ns => .cons' (rep_int.mpr rfl) (Reps.ints' ns)
section
variable {X : Cx} {pins : List (Addr × Obj)} {σ : St} {H : Hp} {s : Shared}
mutual
theorem yT (I : Inv X pins σ H s) : ∀ (d : PyData) (v : V) (u : Value), Rep X.K H d v -> RelV v u -> ∃ as, Reads s.heap u d as
 | .none, v, u, h, r => by rw [rep_none.mp h] at r; cases r; exact ⟨_, .none⟩
 | .bool b, v, u, h, r => by rw [rep_bool.mp h] at r; cases r; exact ⟨_, .bool b⟩
 | .int i, v, u, h, r => by rw [rep_int.mp h] at r; obtain ⟨t, rfl⟩ := r; exact ⟨_, .int i t⟩
 | .str x, v, u, h, r => by rw [rep_str.mp h] at r; obtain ⟨t, rfl⟩ := r; exact ⟨_, .str x t⟩
 | .list ds, v, u, h, r => by
  obtain ⟨a, xs, rfl, h2, h3⟩ := rep_list.mp h
  cases r
  obtain ⟨its, rv, p, _⟩ := I.list h2
  obtain ⟨o, ho, hc, n, hd⟩ := p.isList
  obtain ⟨as, ra⟩ := ji I ds xs its h3 rv
  exact ⟨_, .list ho hc hd (by simpa using ra)⟩
 | .tuple ds, v, u, h, r => by
  obtain ⟨a, xs, rfl, h2, h3⟩ := rep_tuple.mp h
  cases r
  obtain ⟨its, rv, p, _⟩ := I.tuple h2
  obtain ⟨o, ho, hc, n, hd⟩ := p
  obtain ⟨as, ra⟩ := ji I ds xs its h3 rv
  exact ⟨_, .tuple ho hc hd (by simpa using ra)⟩
 | .dict _, _, _, h, _ => by rw [Rep] at h; exact h.elim
theorem ji (I : Inv X pins σ H s) : ∀ (ds : List PyData) (xs : List V) (us : List Value), Reps X.K H ds xs -> Vals xs us -> ∃ as, ReadsAll s.heap us ds as
 | [], xs, us, h, r => by rw [reps_nil.mp h] at r; cases r; exact ⟨_, .nil⟩
 | d :: ds, xs, us, h, r => by
  obtain ⟨x, q, rfl, h2, h3⟩ := reps_cons.mp h
  cases r with
  | cons r1 r2 =>
   obtain ⟨as, ra⟩ := yT I d x _ h2 r1
   obtain ⟨bs, rb⟩ := ji I ds q _ h3 r2
   exact ⟨_, .cons ra rb⟩
end
def ag6 (K : anS) (neg : Bool) : R2 := fun x y H Q => ∃ d d', Rep K H d x /\ Rep K H d' y /\ d.canLay0 = true /\ d'.canLay0 = true /\ min d.depth d'.depth <= 60 /\ Q (.bl (if neg then !aoo d d' else aoo d d')) H
theorem ami (hu : X.A.units + 64 < cLine) : OpR X (compareOp .Eq) (ag6 X.K false) := by
 intro pins s σ H x y v u Q I rx ry h
 obtain ⟨d, d', h1, h2, c1, c2, hm, q⟩ := h
 obtain ⟨as, ra⟩ := yT I d x v h1 rx
 obtain ⟨bs, rb⟩ := yT I d' y u h2 ry
 exact SeqAt.compareEq_reads ra rb c1 c2 (by omega) ⟨.bl (aoo d d'), H, I, rfl, q⟩
theorem amj (hu : X.A.units + 64 < cLine) : OpR X (compareOp .NotEq) (ag6 X.K true) := by
 intro pins s σ H x y v u Q I rx ry h
 obtain ⟨d, d', h1, h2, c1, c2, hm, q⟩ := h
 obtain ⟨as, ra⟩ := yT I d x v h1 rx
 obtain ⟨bs, rb⟩ := yT I d' y u h2 ry
 exact SeqAt.compareNe_reads ra rb c1 c2 (by omega) ⟨.bl (!aoo d d'), H, I, rfl, q⟩
theorem ag7 (hc : X.calm = true) : z6 X (.builtin "min") (fun xs H Q => ∃ a ns, xs = [.ref a] /\ SqL X.K H a (ns.map V.int) /\ ns ≠ [] /\ ∀ M, M ∈ ns -> (∀ b ∈ ns, M <= b) -> Q (.int M) H) := by
 intro pins s σ H xs us Q I r h
 obtain ⟨a, ns, rfl, hq, hne, q⟩ := h
 obtain ⟨u, rfl, r1⟩ := vals1 r
 cases r1
 obtain ⟨its, rv, p, _⟩ := I.list hq
 obtain ⟨m, F⟩ := I.fr
 have hi := intsAre_of rv
 obtain ⟨ys, e⟩ := hi.allInts.items
 have hns : ns = ys.toList.map (·.1) := by rw [<- hi.numsOf, <- nums_intItems, <- e]
 have hsz : 0 < ys.size := by
  have h3 : 0 < ns.length := apt.mpr hne
  rw [hns, anQ, aok] at h3; exact h3
 have hl := p.isList
 rw [e] at hl
 refine min_intList (I.ok.hd hc) hl hsz fun v h' tk hv hk => ?_
 obtain ⟨t, rfl⟩ := intItems_at hv
 obtain ⟨_, h2⟩ := argBest_lt (numAt ys) (ys.size - 1)
 refine ⟨.int _, H, I.kept (t' := tk) hk, ⟨t, rfl⟩, q _ ?_ fun b hb => ?_⟩
 ·rw [hns, numAt_eq]; exact getD_mem (by rw [anQ, aok]; omega)
 ·rw [hns] at hb
  obtain ⟨j, hj, rfl⟩ := mem_getD hb
  rw [anQ, aok] at hj
  rw [<- numAt_eq]; exact h2 j (by omega)
theorem ag8 (hc : X.calm = true) : z6 X (.builtin "max") (fun xs H Q => ∃ a ns, xs = [.ref a] /\ SqL X.K H a (ns.map V.int) /\ ns ≠ [] /\ ∀ M, M ∈ ns -> (∀ b ∈ ns, b <= M) -> Q (.int M) H) := by
 intro pins s σ H xs us Q I r h
 obtain ⟨a, ns, rfl, hq, hne, q⟩ := h
 obtain ⟨u, rfl, r1⟩ := vals1 r
 cases r1
 obtain ⟨its, rv, p, _⟩ := I.list hq
 have hi := intsAre_of rv
 obtain ⟨ys, e⟩ := hi.allInts.items
 have hns : ns = ys.toList.map (·.1) := by rw [<- hi.numsOf, <- nums_intItems, <- e]
 have hsz : 0 < ys.size := by
  have h3 : 0 < ns.length := apt.mpr hne
  rw [hns, anQ, aok] at h3; exact h3
 have hl := p.isList
 rw [e] at hl
 refine max_intList (I.ok.hd hc) hl hsz fun v h' tk hv hk => ?_
 obtain ⟨t, rfl⟩ := intItems_at hv
 obtain ⟨_, h2⟩ := argBest_gt (numAt ys) (ys.size - 1)
 refine ⟨.int _, H, I.kept (t' := tk) hk, ⟨t, rfl⟩, q _ ?_ fun b hb => ?_⟩
 ·rw [hns, numAt_eq]; exact getD_mem (by rw [anQ, aok]; omega)
 ·rw [hns] at hb
  obtain ⟨j, hj, rfl⟩ := mem_getD hb
  rw [anQ, aok] at hj
  rw [<- numAt_eq]; exact h2 j (by omega)
end
inductive DV where
 | dat (d : PyData)
 | feed
 | own (k : Nat)
 | exc (C : Value)
 | mon (φ : Hp -> V -> Prop)
abbrev zy := List (Option DV)
structure Fx where
 f : Option Addr
 M : List Addr
def hide (H : Hp) (f : Fx) : Hp := fun b => if f.f = some b \/ b ∈ f.M then none else H b
structure FOk (f : Fx) (H : Hp) : Prop where
 fd : ∀ p, f.f = some p -> ∃ a b : Int, H p = some (.lst [.int a, .int b]) /\ 0 <= a /\ 0 <= b /\ b < 2147483647
 mm : ∀ b ∈ f.M, ∃ o, H b = some o
 nm : ∀ p, f.f = some p -> p ∉ f.M
def RepV (K : anS) (f : Fx) (H : Hp) : DV -> V -> Prop
 | .dat d, v => Rep K (hide H f) d v
 | .feed, v => ∃ p, f.f = some p /\ v = .ref p
 | .own k, v => ∃ p, f.M.reverse[k]? = some p /\ v = .ref p
 | .exc C, v => ∃ a, v = .ref a /\ hide H f a = some (.ext fun h => ∃ o, h.get? a = some o /\ o.cls = C)
 | .mon φ, v => ∀ H', Same (hide H f) H' -> φ H' v
structure Goes (f : Fx) (H H' : Hp) : Prop where
 sm : Same (hide H f) (hide H' f)
 ok : FOk f H'
 kp : ∀ b ∈ f.M, H' b = H b
structure EnvOk (K : anS) (f : Fx) (ρ : zy) (σ : St) (H : Hp) : Prop where
 len : ρ.length = σ.length
 get : ∀ (i : Nat) x, ρ[i]? = some (some x) -> ∃ v, σ[i]? = some (some v) /\ RepV K f H x v
 fd : FOk f H
theorem yQ (H : Hp) : hide H ⟨none, []⟩ = H := by funext b; unfold hide; rw [if_neg (by rintro (h | h) <;> cases h)]
theorem zo (H : Hp) (f : Fx) : Same (hide H f) H := fun b o h => by
 unfold hide at h
 split at h
 ·cases h
 ·exact h
theorem zO {H : Hp} {f : Fx} {b : Addr} {o : HO} (h : hide H f b = some o) : ¬ (f.f = some b \/ b ∈ f.M) /\ H b = some o := by
 unfold hide at h
 split at h
 ·cases h
 ·rename_i n; exact ⟨n, h⟩
theorem zD {H : Hp} {f : Fx} {b : Addr} {o : HO} (n : ¬ (f.f = some b \/ b ∈ f.M)) (h : H b = some o) : hide H f b = some o := by unfold hide; rw [if_neg n]; exact h
theorem Goes.refl {f : Fx} {H : Hp} (h : FOk f H) : Goes f H H := ⟨Same.refl _, h, fun _ _ => rfl⟩
theorem Goes.trans {f : Fx} {H H1 H2 : Hp} (a : Goes f H H1) (b : Goes f H1 H2) : Goes f H H2 := ⟨a.1.trans b.1, b.2, fun x hx => (b.kp x hx).trans (a.kp x hx)⟩
theorem Goes.of_same {f : Fx} {H H' : Hp} (s : Same H H') (h : FOk f H) : Goes f H H' :=
 ⟨fun b o e => zD (zO e).1 (s b o (zO e).2), ⟨fun p e => let ⟨a, b, h1, h2⟩ := h.fd p e; ⟨a, b, s _ _ h1, h2⟩, fun b hb => let ⟨o, e⟩ := h.mm b hb; ⟨o, s _ _ e⟩, h.nm⟩, fun b hb => let ⟨o, e⟩ := h.mm b hb; (s _ _ e).trans e.symm⟩
theorem zZ {H : Hp} {p : Addr} (h : H p = none) (o : HO) : Same H (upd H p o) := fun b u q => by rw [zI (zY q h)]; exact q
theorem RepV.mono {K : anS} {f : Fx} {H H' : Hp} (g : Goes f H H') : ∀ {x : DV} {v : V}, RepV K f H x v -> RepV K f H' x v
 | .dat d, v, h => Rep.mono g.1 d v h
 | .feed, v, h => h
 | .own _, v, h => h
 | .exc _, v, h => let ⟨a, e, q⟩ := h; ⟨a, e, g.1 _ _ q⟩
 | .mon _, v, h => fun H' s => h H' (g.1.trans s)
theorem EnvOk.mono {K : anS} {f : Fx} {ρ : zy} {σ : St} {H H' : Hp} (e : EnvOk K f ρ σ H) (g : Goes f H H') : EnvOk K f ρ σ H' :=
 ⟨e.len, fun i x h => let ⟨v, h1, h2⟩ := e.get i x h; ⟨v, h1, h2.mono g⟩, g.2⟩
theorem EnvOk.set {K : anS} {f : Fx} {ρ : zy} {σ : St} {H : Hp} {x : DV} {v : V} (e : EnvOk K f ρ σ H) (i : Nat) (r : RepV K f H x v) : EnvOk K f (ρ.set i (some x)) (σ.set i (some v)) H := by
 refine ⟨by rw [apf, apf]; exact e.len, fun j y h => ?_, e.fd⟩
 by_cases hj : i = j
 ·subst hj
  by_cases hi : i < ρ.length
  ·rw [apk hi] at h
   cases h
   exact ⟨v, by rw [apk (by rw [<- e.len]; exact hi)], r⟩
  ·rw [aov (by rw [apf]; omega)] at h; cases h
 ·rw [apY hj] at h ⊢
  exact e.get j y h
theorem fresh_ne {f : Fx} {H : Hp} {p : Addr} (h : FOk f H) (n : H p = none) : ¬ (f.f = some p \/ p ∈ f.M) := fun e => by
 rcases e with e | e
 ·obtain ⟨a, b, h1, _⟩ := h.fd p e
  rw [n] at h1; cases h1
 ·obtain ⟨o, h1⟩ := h.mm p e
  rw [n] at h1; cases h1
inductive RepVs (K : anS) (f : Fx) (H : Hp) : List DV -> List V -> Prop where
 | nil : RepVs K f H [] []
 | cons {x v xs vs} : RepV K f H x v -> RepVs K f H xs vs -> RepVs K f H (x :: xs) (v :: vs)
theorem RepVs.mono {K : anS} {f : Fx} {H H' : Hp} (g : Goes f H H') : ∀ {xs : List DV} {vs : List V}, RepVs K f H xs vs -> RepVs K f H' xs vs
 | _, _, .nil => .nil
 | _, _, .cons r t => .cons (r.mono g) (t.mono g)
theorem RepVs.length {K : anS} {f : Fx} {H : Hp} : ∀ {xs : List DV} {vs : List V}, RepVs K f H xs vs -> vs.length = xs.length
 | _, _, .nil => rfl
 | _, _, .cons _ t => by rw [aoe, aoe, t.length]
section
variable (K : anS) (f : Fx)
def PEd (te : TE) (ρ : zy) (P : PyData -> Prop) : Prop := ∀ (σ : St) (H : Hp) (Q : VK), EnvOk K f ρ σ H -> (∀ d v H', Goes f H H' -> Rep K (hide H' f) d v -> P d -> Q v H') -> te σ H Q
def PTd (tt : TT) (ρ : zy) (P : Bool -> Prop) : Prop := ∀ (σ : St) (H : Hp) (Q : Bool -> Hp -> Prop), EnvOk K f ρ σ H -> (∀ b H', Goes f H H' -> P b -> Q b H') -> tt σ H Q
def PAd (ta : TA) (ρ : zy) (P : List DV -> Prop) : Prop := ∀ (σ : St) (H : Hp) (Q : List V -> Hp -> Prop), EnvOk K f ρ σ H -> (∀ xs vs H', Goes f H H' -> RepVs K f H' xs vs -> P xs -> Q vs H') -> ta σ H Q
structure DEnds where
 nx : zy -> Prop
 rt : PyData -> Prop
 bk : zy -> Prop := fun _ => False
 ct : zy -> Prop := fun _ => False
def PSd (ts : TS) (ρ : zy) (D : DEnds) : Prop := ∀ (σ : St) (H : Hp) (E : Ends), EnvOk K f ρ σ H -> (∀ ρ' σ' H', Goes f H H' -> EnvOk K f ρ' σ' H' -> D.nx ρ' -> E.nx σ' H') -> (∀ d v H', Goes f H H' -> Rep K (hide H' f) d v -> D.rt d -> E.rt v H') ->
 (∀ ρ' σ' H', Goes f H H' -> EnvOk K f ρ' σ' H' -> D.bk ρ' -> E.bk σ' H') -> (∀ ρ' σ' H', Goes f H H' -> EnvOk K f ρ' σ' H' -> D.ct ρ' -> E.ct σ' H') -> ts E σ H
def spD {γ : Type} (n : Nat) (pre : γ -> List DV -> Prop) (post : γ -> PyData -> Prop) : Sp := fun vs H Q _ => ∃ f xs c, RepVs K f H xs vs /\ xs.length = n /\ FOk f H /\ pre c xs /\ ∀ r v H', Goes f H H' -> Rep K (hide H' f) r v -> post c r -> Q v H'
end
section
variable {K : anS} {f : Fx} {ρ : zy} {P : PyData -> Prop} {te ta tb tc : TE}
theorem zw {i : Nat} {d : PyData} (h : ρ[i]? = some (some (.dat d))) (p : P d) : PEd K f (yb i) ρ P := fun σ H Q e q => by
 obtain ⟨v, h1, h2⟩ := e.get i _ h
 exact ⟨v, h1, q d v H (.refl e.fd) h2 p⟩
theorem jB {i : Int} (p : P (.int i)) : PEd K f (tC (.int i)) ρ P := fun σ H Q e q => q (.int i) _ H (.refl e.fd) (rep_int.mpr rfl) p
theorem adJ {i : Bool} (p : P (.bool i)) : PEd K f (tC (.bl i)) ρ P := fun σ H Q e q => q (.bool i) _ H (.refl e.fd) (rep_bool.mpr rfl) p
theorem afV {i : Str} (p : P (.str i)) : PEd K f (tC (.str i)) ρ P := fun σ H Q e q => q (.str i) _ H (.refl e.fd) (rep_str.mpr rfl) p
theorem afW (p : P .none) : PEd K f (tC .non) ρ P := fun σ H Q e q => q .none _ H (.refl e.fd) (rep_none.mpr rfl) p
theorem PEd.imp {P' : PyData -> Prop} (h : PEd K f te ρ P) (i : ∀ d, P d -> P' d) : PEd K f te ρ P' := fun σ H Q e q => h σ H Q e fun d v H' g r p => q d v H' g r (i d p)
theorem ag9 {r : R2} (h : PEd K f ta ρ fun x => PEd K f tb ρ fun y => ∀ (v w : V) (H : Hp) (Q : VK), FOk f H -> Rep K (hide H f) x v -> Rep K (hide H f) y w -> (∀ d u H', Goes f H H' -> Rep K (hide H' f) d u -> P d -> Q u H') -> r v w H Q) : PEd K f (tOp r ta tb) ρ P := fun σ H Q e q =>
 h σ H _ e fun x v H1 g1 r1 p1 => p1 σ H1 _ (e.mono g1) fun y w H2 g2 r2 p2 => p2 v w H2 Q g2.2 (Rep.mono g2.1 x v r1) r2 fun d u H' g' r' p' => q d u H' (g1.trans (g2.trans g')) r' p'
theorem anL {r : V -> Hp -> VK -> Prop} (h : PEd K f ta ρ fun x => ∀ (v : V) (H : Hp) (Q : VK), FOk f H -> Rep K (hide H f) x v -> (∀ d u H', Goes f H H' -> Rep K (hide H' f) d u -> P d -> Q u H') -> r v H Q) : PEd K f (tUn r ta) ρ P := fun σ H Q e q =>
 h σ H _ e fun x v H1 g1 r1 p1 => p1 v H1 Q g1.2 r1 fun d u H' g' r' p' => q d u H' (g1.trans g') r' p'
theorem adK {g : Int -> Int -> Int} (h : PEd K f ta ρ fun x => ∃ i, x = .int i /\ PEd K f tb ρ fun y => ∃ j, y = .int j /\ P (.int (g i j))) : PEd K f (tOp (rI0 fun i j => .int (g i j)) ta tb) ρ P :=
 ag9 (h.imp fun x ⟨i, ex, h2⟩ => h2.imp fun y ⟨j, ey, p⟩ v w H Q fo rx ry q => by
  subst ex ey
  exact ⟨i, j, rep_int.mp rx, rep_int.mp ry, q _ _ H (.refl fo) (rep_int.mpr rfl) p⟩)
theorem aiq {C : Int -> Int -> Prop} {g : Int -> Int -> Int} (h : PEd K f ta ρ fun x => ∃ i, x = .int i /\ PEd K f tb ρ fun y => ∃ j, y = .int j /\ C i j /\ P (.int (g i j))) : PEd K f (tOp (rI C fun i j => .int (g i j)) ta tb) ρ P :=
 ag9 (h.imp fun x ⟨i, ex, h2⟩ => h2.imp fun y ⟨j, ey, c, p⟩ v w H Q fo rx ry q => by
  subst ex ey
  exact ⟨i, j, rep_int.mp rx, rep_int.mp ry, c, q _ _ H (.refl fo) (rep_int.mpr rfl) p⟩)
theorem adL {g : Int -> Int -> Bool} (h : PEd K f ta ρ fun x => ∃ i, x = .int i /\ PEd K f tb ρ fun y => ∃ j, y = .int j /\ P (.bool (g i j))) : PEd K f (tOp (rI0 fun i j => .bl (g i j)) ta tb) ρ P :=
 ag9 (h.imp fun x ⟨i, ex, h2⟩ => h2.imp fun y ⟨j, ey, p⟩ v w H Q fo rx ry q => by
  subst ex ey
  exact ⟨i, j, rep_int.mp rx, rep_int.mp ry, q _ _ H (.refl fo) (rep_bool.mpr rfl) p⟩)
theorem yV {neg : Bool} (h : PEd K f ta ρ fun x => PEd K f tb ρ fun y => x.canLay0 = true /\ y.canLay0 = true /\ min x.depth y.depth <= 60 /\ P (.bool (if neg then !aoo x y else aoo x y))) : PEd K f (tOp (ag6 K neg) ta tb) ρ P :=
 ag9 (h.imp fun x h2 => h2.imp fun y ⟨c1, c2, c3, p⟩ v w H Q fo rx ry q =>
  ⟨x, y, Rep.mono (zo _ _) x v rx, Rep.mono (zo _ _) y w ry, c1, c2, c3, q _ _ H (.refl fo) (rep_bool.mpr rfl) p⟩)
theorem acM {n : Nat} {k : Int} {j : Nat} (h : (j : Int) = k) (hj : j < n) : ixN n k = some j := by
 unfold ixN
 rw [if_pos (by omega), if_pos (by omega)]
 congr 1
 omega
theorem aa8 (h : PEd K f ta ρ fun x => ∃ ds, x = .list ds /\ PEd K f tb ρ fun y => ∃ k, y = .int k /\ ∃ d, atI ds k = some d /\ P d) : PEd K f (tOp (aeQ K) ta tb) ρ P :=
 ag9 (h.imp fun x ⟨ds, ex, h2⟩ => h2.imp fun y ⟨k, ey, d, a, p⟩ v w H Q fo rx ry q => by
  subst ex ey
  obtain ⟨l, xs, rfl, hs, hr⟩ := rep_list.mp rx
  unfold atI at a
  cases hi : ixN ds.length k with
  | none => rw [hi] at a; cases a
  | some j =>
   rw [hi] at a
   obtain ⟨u, hu, ru⟩ := hr.get a
   exact ⟨l, xs, k, u, rfl, rep_int.mp ry, (zo H f).seq hs, by unfold atI; rw [hr.length, hi]; exact hu, q d u H (.refl fo) ru p⟩)
theorem qt (h : PEd K f ta ρ fun x => ∃ ds, x = .tuple ds /\ PEd K f tb ρ fun y => ∃ k, y = .int k /\ ∃ d, atI ds k = some d /\ P d) : PEd K f (tOp (amc K) ta tb) ρ P :=
 ag9 (h.imp fun x ⟨ds, ex, h2⟩ => h2.imp fun y ⟨k, ey, d, a, p⟩ v w H Q fo rx ry q => by
  subst ex ey
  obtain ⟨l, xs, rfl, hs, hr⟩ := rep_tuple.mp rx
  unfold atI at a
  cases hi : ixN ds.length k with
  | none => rw [hi] at a; cases a
  | some j =>
   rw [hi] at a
   obtain ⟨u, hu, ru⟩ := hr.get a
   exact ⟨l, xs, k, u, rfl, rep_int.mp ry, (zo H f).seqT hs, by unfold atI; rw [hr.length, hi]; exact hu, q d u H (.refl fo) ru p⟩)
theorem alx {i : Nat} (hi : ρ[i]? = some (some .feed)) (h : PEd K f tb ρ fun y => (y = .int 0 /\ ∀ a : Int, 0 <= a -> P (.int a)) \/ (y = .int 1 /\ ∀ b : Int, 0 <= b -> b < 2147483647 -> P (.int b))) : PEd K f (tOp (aeQ K) (yb i) tb) ρ P := fun σ H Q e q => by
 obtain ⟨v, h1, p, ef, ev⟩ := e.get i _ hi
 refine ⟨v, h1, h σ H _ e fun y w H' g r c => ?_⟩
 obtain ⟨a, b, hf, c1, c2, c3⟩ := g.2.fd p ef
 rcases c with ⟨rfl, c⟩ | ⟨rfl, c⟩
 ·exact ⟨p, _, 0, .int a, ev, rep_int.mp r, SqL.of hf, rfl, q (.int a) _ H' g (rep_int.mpr rfl) (c a c1)⟩
 ·exact ⟨p, _, 1, .int b, ev, rep_int.mp r, SqL.of hf, rfl, q (.int b) _ H' g (rep_int.mpr rfl) (c b c2 c3)⟩
theorem yB {R : List DV -> Prop} (p : R []) : PAd K f yP ρ R := fun σ H Q e q => q [] [] H (.refl e.fd) .nil p
theorem zS {R : List DV -> Prop} {u : TA} (h : PEd K f te ρ fun x => PAd K f u ρ fun xs => R (.dat x :: xs)) : PAd K f (zW te u) ρ R := fun σ H Q e q =>
 h σ H _ e fun x v H1 g1 r1 p1 => p1 σ H1 _ (e.mono g1) fun xs vs H2 g2 r2 p2 => q (.dat x :: xs) (v :: vs) H2 (g1.trans g2) (.cons (RepV.mono (x := .dat x) g2 r1) r2) p2
theorem qB {R : List DV -> Prop} {u : TA} {i : Nat} (hi : ρ[i]? = some (some .feed)) (h : PAd K f u ρ fun xs => R (.feed :: xs)) : PAd K f (zW (yb i) u) ρ R := fun σ H Q e q => by
 obtain ⟨v, h1, h2⟩ := e.get i _ hi
 exact ⟨v, h1, h σ H _ e fun xs vs H2 g2 r2 p2 => q (.feed :: xs) (v :: vs) H2 g2 (.cons (RepV.mono (x := .feed) g2 h2) r2) p2⟩
def jV : List DV -> Option (List PyData)
 | [] => some []
 | .dat d :: r => (jV r).map (d :: ·)
 | .feed :: _ => none
 | .own _ :: _ => none
 | .exc _ :: _ => none
 | .mon _ :: _ => none
theorem qh {H : Hp} : ∀ {xs : List DV} {vs : List V} {ds : List PyData}, RepVs K f H xs vs -> jV xs = some ds -> Reps K (hide H f) ds vs
 | _, _, ds, .nil, e => by cases e; exact .nil'
 | .dat d :: xs, v :: vs, ds, .cons r t, e => by
  unfold jV at e
  cases q : jV xs with
  | none => rw [q] at e; cases e
  | some es => rw [q] at e; cases e; exact .cons' r (qh t q)
 | .feed :: xs, _, ds, .cons r t, e => by cases e
 | .own _ :: xs, _, ds, .cons r t, e => by cases e
 | .exc _ :: xs, _, ds, .cons r t, e => by cases e
 | .mon _ :: xs, _, ds, .cons r t, e => by cases e
theorem aap {t : TA} (h : PAd K f t ρ fun xs => ∃ ds, jV xs = some ds /\ ds.length <= 1000 /\ P (.list ds)) : PEd K f (aij t) ρ P := fun σ H Q e q =>
 h σ H _ e fun xs vs H1 g1 r1 ⟨ds, ea, hl, p⟩ => by
  have rs := qh r1 ea
  refine ⟨by rw [rs.length]; exact apj (yg hl), fun l hn => ?_⟩
  have sm := zZ hn (.lst vs)
  have g2 : Goes f H1 (upd H1 l (.lst vs)) := .of_same sm g1.2
  exact q (.list ds) _ _ (g1.trans g2) (rep_list.mpr ⟨l, vs, rfl, .of (zD (fresh_ne g1.2 hn) zA), Reps.mono g2.1 ds vs rs⟩) p
theorem aaq {t : TA} (h : PAd K f t ρ fun xs => ∃ ds, jV xs = some ds /\ ds.length <= 1000 /\ P (.tuple ds)) : PEd K f (al7 t) ρ P := fun σ H Q e q =>
 h σ H _ e fun xs vs H1 g1 r1 ⟨ds, ea, hl, p⟩ => by
  have rs := qh r1 ea
  refine ⟨by rw [rs.length]; exact apj (yg hl), fun l hn => ?_⟩
  have sm := zZ hn (.tup vs)
  have g2 : Goes f H1 (upd H1 l (.tup vs)) := .of_same sm g1.2
  exact q (.tuple ds) _ _ (g1.trans g2) (rep_tuple.mpr ⟨l, vs, rfl, .of (zD (fresh_ne g1.2 hn) zA), Reps.mono g2.1 ds vs rs⟩) p
theorem zx {γ : Type} {n : Nat} {pre : γ -> List DV -> Prop} {post : γ -> PyData -> Prop} {E : XK} {t : TA} (c : γ) (h : PAd K f t ρ fun xs => xs.length = n /\ pre c xs /\ ∀ r, post c r -> P r) : PEd K f (aa2 (spD K n pre post) [] E t) ρ P := fun σ H Q e q =>
 h σ H _ e fun xs vs H1 g1 r1 ⟨hl, hp, k⟩ => by
  refine ⟨f, xs, c, by rw [aoN]; exact r1, hl, g1.2, hp, fun r v H' g' r' p' => q r v H' (g1.trans g') r' (k r p')⟩
theorem aha {r : List V -> Hp -> VK -> Prop} {t : TA} (h : PAd K f t ρ fun xs => ∃ ds, jV xs = some ds /\ ∀ (vs : List V) (H : Hp) (Q : VK), FOk f H -> Reps K (hide H f) ds vs -> (∀ d u H', Goes f H H' -> Rep K (hide H' f) d u -> P d -> Q u H') -> r vs H Q) : PEd K f (tCB r t) ρ P := fun σ H Q e q =>
 h σ H _ e fun xs vs H1 g1 r1 ⟨ds, ea, k⟩ => k vs H1 Q g1.2 (qh r1 ea) fun d u H' g' r' p' => q d u H' (g1.trans g') r' p'
end
section
variable {K : anS} {f : Fx} {ρ : zy} {P : PyData -> Prop} {B : Bool -> Prop} {te ta tb tc : TE} {tt tu : TT}
theorem PTd.imp {B' : Bool -> Prop} (h : PTd K f tt ρ B) (i : ∀ d, B d -> B' d) : PTd K f tt ρ B' := fun σ H Q e q => h σ H Q e fun d H' g p => q d H' g (i d p)
theorem yw (h : PEd K f te ρ fun d => ∃ k, d = .bool k /\ B k) : PTd K f (afL te) ρ B := fun σ H Q e q => h σ H _ e fun d v H' g r ⟨k, ed, p⟩ => by
 subst ed
 exact ⟨k, rep_bool.mp r, q k H' g p⟩
theorem t_b (h : PEd K f te ρ fun d => ∃ k, d = .bool k /\ B k) : PTd K f (tB te) ρ B := fun σ H Q e q => h σ H _ e fun d v H' g r ⟨k, ed, p⟩ => by
 subst ed
 exact ⟨k, rep_bool.mp r, q k H' g p⟩
theorem air (h : PTd K f tt ρ fun c => if c = true then PTd K f tu ρ B else B false) : PTd K f (anb tt tu) ρ B := fun σ H Q e q => h σ H _ e fun c H1 g p => by
 cases c with
 | true =>
  rw [if_pos rfl] at p ⊢
  exact p σ H1 Q (e.mono g) fun b H2 g2 p2 => q b H2 (g.trans g2) p2
 | false =>
  rw [if_neg anR] at p ⊢
  exact q false H1 g p
theorem aeV (h : PTd K f tt ρ fun c => if c = true then B true else PTd K f tu ρ B) : PTd K f (tOr tt tu) ρ B := fun σ H Q e q => h σ H _ e fun c H1 g p => by
 cases c with
 | true =>
  rw [if_pos rfl] at p ⊢
  exact q true H1 g p
 | false =>
  rw [if_neg anR] at p ⊢
  exact p σ H1 Q (e.mono g) fun b H2 g2 p2 => q b H2 (g.trans g2) p2
theorem vB (h : PTd K f tt ρ fun c => B (!c)) : PTd K f (anc tt) ρ B := fun σ H Q e q => h σ H _ e fun c H1 g p => q (!c) H1 g p
def anM : PyData -> Option Bool
 | .none => some false
 | .bool b => some b
 | .int i => some (i != 0)
 | .list ds => some (!ds.isEmpty)
 | .tuple ds => some (!ds.isEmpty)
 | _ => none
def akf (K : anS) (ta : TE) : TT := fun σ H Q => ta σ H fun x H' => ∃ k, al5 K x H' k /\ Q k H'
theorem amk {X : Cx} {a : Expr} (ha : PE X a ta) (he : ∀ whole, isTrue a X.env whole = (do let v <- whole; standAt a.pos; holding [v] (truthy v))) : PT X a (akf X.K ta) := aih ha he
theorem yW (h : PEd K f ta ρ fun d => ∃ k, anM d = some k /\ B k) : PTd K f (akf K ta) ρ B := fun σ H Q e q => h σ H _ e fun d v H' g r ⟨k, ed, p⟩ => by
 refine ⟨k, ?_, q k H' g p⟩
 cases d with
 | none => rw [rep_none.mp r]; cases ed; rfl
 | bool b => rw [rep_bool.mp r]; cases ed; rfl
 | int i => rw [rep_int.mp r]; cases ed; rfl
 | str x => cases ed
 | list ds =>
  obtain ⟨a, xs, rfl, h1, h2⟩ := rep_list.mp r
  cases ed
  refine .inl ⟨xs, (zo _ _).seq h1, ?_⟩
  cases ds with
  | nil => rw [reps_nil.mp h2]; rfl
  | cons d ds => obtain ⟨x, r, rfl, _⟩ := reps_cons.mp h2; rfl
 | tuple ds =>
  obtain ⟨a, xs, rfl, h1, h2⟩ := rep_tuple.mp r
  cases ed
  refine .inr (.inl ⟨xs, (zo _ _).seqT h1, ?_⟩)
  cases ds with
  | nil => rw [reps_nil.mp h2]; rfl
  | cons d ds => obtain ⟨x, r, rfl, _⟩ := reps_cons.mp h2; rfl
 | dict _ => cases ed
theorem ais (h : PTd K f tt ρ fun c => if c = true then PEd K f ta ρ P else PEd K f tb ρ P) : PEd K f (tIf tt ta tb) ρ P := fun σ H Q e q => h σ H _ e fun c H1 g p => by
 cases c with
 | true => rw [if_pos rfl] at p ⊢; exact p σ H1 Q (e.mono g) fun d v H2 g2 r2 p2 => q d v H2 (g.trans g2) r2 p2
 | false => rw [if_neg anR] at p ⊢; exact p σ H1 Q (e.mono g) fun d v H2 g2 r2 p2 => q d v H2 (g.trans g2) r2 p2
theorem v3 (h : PEd K f ta ρ fun x => ∃ c, x = .bool c /\ if c = true then PEd K f tb ρ P else P (.bool false)) : PEd K f (alq ta tb) ρ P := fun σ H Q e q => h σ H _ e fun x v H1 g r ⟨c, ex, p⟩ => by
 subst ex
 refine ⟨c, rep_bool.mp r, ?_⟩
 cases c with
 | true => rw [if_pos rfl] at p ⊢; exact p σ H1 Q (e.mono g) fun d v H2 g2 r2 p2 => q d v H2 (g.trans g2) r2 p2
 | false => rw [if_neg anR] at p ⊢; exact q _ _ H1 g (rep_bool.mpr rfl) p
theorem ait (h : PEd K f ta ρ fun x => ∃ c, x = .bool c /\ P (.bool !c)) : PEd K f (alr ta) ρ P := fun σ H Q e q => h σ H _ e fun x v H1 g r ⟨c, ex, p⟩ => by
 subst ex
 exact ⟨c, rep_bool.mp r, q _ _ H1 g (rep_bool.mpr rfl) p⟩
theorem afX {g g' : Int -> Int -> Bool} (h : PEd K f ta ρ fun x => ∃ i, x = .int i /\ PEd K f tb ρ fun y => ∃ j, y = .int j /\ if g i j = true then PEd K f tc ρ fun z => ∃ k, z = .int k /\ P (.bool (g' j k)) else P (.bool false)) :
  PEd K f (aif (rI0 fun i j => .bl (g i j)) (rI0 fun i j => .bl (g' i j)) ta tb tc) ρ P := fun σ H Q e q => h σ H _ e fun x v H1 g1 r1 ⟨i, ex, p1⟩ => p1 σ H1 _ (e.mono g1) fun y w H2 g2 r2 ⟨j, ey, p2⟩ => by
 subst ex ey
 refine ⟨i, j, rep_int.mp r1, rep_int.mp r2, g i j, rfl, ?_⟩
 by_cases hg : g i j = true
 ·rw [if_pos hg] at p2 ⊢
  exact p2 σ H2 _ ((e.mono g1).mono g2) fun z u H3 g3 r3 ⟨k, ez, p3⟩ => by
   subst ez
   exact ⟨j, k, rep_int.mp r2, rep_int.mp r3, q _ _ H3 (g1.trans (g2.trans g3)) (rep_bool.mpr rfl) p3⟩
 ·rw [if_neg hg] at p2 ⊢
  exact q _ _ H2 (g1.trans g2) (rep_bool.mpr rfl) p2
theorem qC {t : TA} (h : PAd K f t ρ fun xs => (∃ ds, xs = [.dat (.list ds)] /\ P (.int ds.length)) \/ (∃ ds, xs = [.dat (.tuple ds)] /\ P (.int ds.length))) :
  PEd K f (tCB (fun xs H Q => ∃ p ys, xs = [.ref p] /\ (SqL K H p ys \/ SqT K H p ys) /\ Q (.int ys.length) H) t) ρ P :=
 aha fun σ H Q e q => h σ H Q e fun xs vs H' g r p => by
  rcases p with ⟨ds, rfl, p⟩ | ⟨ds, rfl, p⟩
  ·refine q _ vs H' g r ⟨_, rfl, fun vs H Q fo rs k => ?_⟩
   obtain ⟨x, r, rfl, h2, h3⟩ := reps_cons.mp rs
   rw [reps_nil.mp h3]
   obtain ⟨a, ys, rfl, s1, s2⟩ := rep_list.mp h2
   exact ⟨a, ys, rfl, .inl ((zo _ _).seq s1), k (.int ds.length) _ H (.refl fo) (rep_int.mpr (by rw [s2.length])) p⟩
  ·refine q _ vs H' g r ⟨_, rfl, fun vs H Q fo rs k => ?_⟩
   obtain ⟨x, r, rfl, h2, h3⟩ := reps_cons.mp rs
   rw [reps_nil.mp h3]
   obtain ⟨a, ys, rfl, s1, s2⟩ := rep_tuple.mp h2
   exact ⟨a, ys, rfl, .inr ((zo _ _).seqT s1), k (.int ds.length) _ H (.refl fo) (rep_int.mpr (by rw [s2.length])) p⟩
theorem aiu {t : TA} (h : PAd K f t ρ fun xs => ∃ ns : List Int, xs = [.dat (.list (ns.map .int))] /\ ns ≠ [] /\ ∀ M, M ∈ ns -> (∀ b ∈ ns, M <= b) -> P (.int M)) :
  PEd K f (tCB (fun xs H Q => ∃ a ns, xs = [.ref a] /\ SqL K H a (ns.map V.int) /\ ns ≠ [] /\ ∀ M, M ∈ ns -> (∀ b ∈ ns, M <= b) -> Q (.int M) H) t) ρ P :=
 aha fun σ H Q e q => h σ H Q e fun xs vs H' g r ⟨ns, ex, hne, p⟩ => by
  subst ex
  refine q _ vs H' g r ⟨_, rfl, fun vs H Q fo rs k => ?_⟩
  obtain ⟨x, r, rfl, h2, h3⟩ := reps_cons.mp rs
  rw [reps_nil.mp h3]
  obtain ⟨a, ys, rfl, s1, s2⟩ := rep_list.mp h2
  rw [s2.ints] at s1
  exact ⟨a, ns, rfl, (zo _ _).seq s1, hne, fun M h1 h2 => k (.int M) _ H (.refl fo) (rep_int.mpr rfl) (p M h1 h2)⟩
theorem aiv {t : TA} (h : PAd K f t ρ fun xs => ∃ ns : List Int, xs = [.dat (.list (ns.map .int))] /\ ns ≠ [] /\ ∀ M, M ∈ ns -> (∀ b ∈ ns, b <= M) -> P (.int M)) :
  PEd K f (tCB (fun xs H Q => ∃ a ns, xs = [.ref a] /\ SqL K H a (ns.map V.int) /\ ns ≠ [] /\ ∀ M, M ∈ ns -> (∀ b ∈ ns, b <= M) -> Q (.int M) H) t) ρ P :=
 aha fun σ H Q e q => h σ H Q e fun xs vs H' g r ⟨ns, ex, hne, p⟩ => by
  subst ex
  refine q _ vs H' g r ⟨_, rfl, fun vs H Q fo rs k => ?_⟩
  obtain ⟨x, r, rfl, h2, h3⟩ := reps_cons.mp rs
  rw [reps_nil.mp h3]
  obtain ⟨a, ys, rfl, s1, s2⟩ := rep_list.mp h2
  rw [s2.ints] at s1
  exact ⟨a, ns, rfl, (zo _ _).seq s1, hne, fun M h1 h2 => k (.int M) _ H (.refl fo) (rep_int.mpr rfl) (p M h1 h2)⟩
theorem aiw {g : Int -> Int -> Int} {t : TA} (h : PAd K f t ρ fun xs => ∃ i j, xs = [.dat (.int i), .dat (.int j)] /\ P (.int (g i j))) : PEd K f (tCB (fun xs H Q => ∃ i j, xs = [.int i, .int j] /\ Q (.int (g i j)) H) t) ρ P :=
 aha fun σ H Q e q => h σ H Q e fun xs vs H' g' r ⟨i, j, ex, p⟩ => by
  subst ex
  refine q _ vs H' g' r ⟨_, rfl, fun vs H Q fo rs k => ?_⟩
  obtain ⟨x, r, rfl, h2, h3⟩ := reps_cons.mp rs
  obtain ⟨y, r', rfl, h4, h5⟩ := reps_cons.mp h3
  rw [reps_nil.mp h5, rep_int.mp h2, rep_int.mp h4]
  exact ⟨i, j, rfl, k _ _ H (.refl fo) (rep_int.mpr rfl) p⟩
theorem aix {g : Int -> Int} {t : TA} (h : PAd K f t ρ fun xs => ∃ i, xs = [.dat (.int i)] /\ P (.int (g i))) : PEd K f (tCB (fun xs H Q => ∃ i, xs = [.int i] /\ Q (.int (g i)) H) t) ρ P :=
 aha fun σ H Q e q => h σ H Q e fun xs vs H' g' r ⟨i, ex, p⟩ => by
  subst ex
  refine q _ vs H' g' r ⟨_, rfl, fun vs H Q fo rs k => ?_⟩
  obtain ⟨x, r, rfl, h2, h3⟩ := reps_cons.mp rs
  rw [reps_nil.mp h3, rep_int.mp h2]
  exact ⟨i, rfl, k _ _ H (.refl fo) (rep_int.mpr rfl) p⟩
end
section
variable {K : anS} {f : Fx} {ρ : zy} {D : DEnds} {te ta tb : TE} {tt : TT} {ts tu : TS}
theorem yX (p : D.nx ρ) : PSd K f afH ρ D := fun σ H E e n _ _ _ => n ρ σ H (.refl e.fd) e p
theorem z9 (h : PSd K f ts ρ { D with nx := fun ρ' => PSd K f tu ρ' D }) : PSd K f (vj ts tu) ρ D := fun σ H E e n r b c =>
 h σ H { E with nx := tu E } e (fun ρ' σ' H' g e' p => p σ' H' E e' (fun ρ'' σ'' H'' g' e'' p' => n ρ'' σ'' H'' (g.trans g') e'' p') (fun d v H'' g' r' p' => r d v H'' (g.trans g') r' p') (fun ρ'' σ'' H'' g' e'' p' => b ρ'' σ'' H'' (g.trans g') e'' p') (fun ρ'' σ'' H'' g' e'' p' => c ρ'' σ'' H'' (g.trans g') e'' p')) r b c
theorem ym (h : PEd K f te ρ D.rt) : PSd K f (aeJ te) ρ D := fun σ H E e n r b c => h σ H _ e r
theorem aa9 (h : PEd K f te ρ fun _ => D.nx ρ) : PSd K f (aaV te) ρ D := fun σ H E e n r b c => h σ H _ e fun d v H' g _ p => n ρ σ H' g (e.mono g) p
theorem aeW (h : PTd K f tt ρ fun b => if b = true then PSd K f ts ρ D else PSd K f tu ρ D) : PSd K f (agW tt ts tu) ρ D := fun σ H E e n r b c => h σ H _ e fun k H1 g p => by
 cases k with
 | true =>
  rw [if_pos rfl] at p ⊢
  exact p σ H1 E (e.mono g) (fun ρ'' σ'' H'' g' e'' p' => n ρ'' σ'' H'' (g.trans g') e'' p') (fun d v H'' g' r' p' => r d v H'' (g.trans g') r' p') (fun ρ'' σ'' H'' g' e'' p' => b ρ'' σ'' H'' (g.trans g') e'' p') (fun ρ'' σ'' H'' g' e'' p' => c ρ'' σ'' H'' (g.trans g') e'' p')
 | false =>
  rw [if_neg anR] at p ⊢
  exact p σ H1 E (e.mono g) (fun ρ'' σ'' H'' g' e'' p' => n ρ'' σ'' H'' (g.trans g') e'' p') (fun d v H'' g' r' p' => r d v H'' (g.trans g') r' p') (fun ρ'' σ'' H'' g' e'' p' => b ρ'' σ'' H'' (g.trans g') e'' p') (fun ρ'' σ'' H'' g' e'' p' => c ρ'' σ'' H'' (g.trans g') e'' p')
def PGd (K : anS) (f : Fx) (g : TG) (d : PyData) (ρ : zy) (R : zy -> Prop) : Prop := ∀ (σ : St) (H : Hp) (v : V) (Q : St -> Hp -> Prop), EnvOk K f ρ σ H -> Rep K (hide H f) d v -> (∀ ρ' σ' H', Goes f H H' -> EnvOk K f ρ' σ' H' -> R ρ' -> Q σ' H') -> g v σ H Q
def aiy (K : anS) (f : Fx) (g : TGs) (ds : List PyData) (ρ : zy) (R : zy -> Prop) : Prop := ∀ (σ : St) (H : Hp) (vs : List V) (Q : St -> Hp -> Prop), EnvOk K f ρ σ H -> Reps K (hide H f) ds vs -> (∀ ρ' σ' H', Goes f H H' -> EnvOk K f ρ' σ' H' -> R ρ' -> Q σ' H') -> g vs σ H Q
theorem zv {i : Nat} {d : PyData} {R : zy -> Prop} (h : R (ρ.set i (some (.dat d)))) : PGd K f (jy i) d ρ R := fun σ H v Q e r q => q _ _ H (.refl e.fd) (e.set i (x := .dat d) r) h
theorem yt {R : zy -> Prop} (h : R ρ) : aiy K f alZ [] ρ R := fun σ H vs Q e r q => ⟨reps_nil.mp r, q ρ σ H (.refl e.fd) e h⟩
theorem zF {g : TG} {gs : TGs} {d : PyData} {ds : List PyData} {R : zy -> Prop} (h : PGd K f g d ρ fun ρ' => aiy K f gs ds ρ' R) : aiy K f (afI g gs) (d :: ds) ρ R := fun σ H vs Q e r q => by
 obtain ⟨x, r', rfl, h2, h3⟩ := reps_cons.mp r
 exact ⟨x, r', rfl, h σ H x _ e h2 fun ρ' σ' H' g' e' p => p σ' H' r' Q e' (Reps.mono g'.1 ds r' h3) fun ρ'' σ'' H'' g'' e'' p' => q ρ'' σ'' H'' (g'.trans g'') e'' p'⟩
theorem yY {n : Nat} {gs : TGs} {ds : List PyData} {R : zy -> Prop} (hn : ds.length = n) (h : aiy K f gs ds ρ R) : PGd K f (aj4 K n gs) (.tuple ds) ρ R := fun σ H v Q e r q => by
 obtain ⟨a, xs, rfl, h1, h2⟩ := rep_tuple.mp r
 exact ⟨a, xs, rfl, (zo _ _).seqT h1, by rw [h2.length]; exact hn, h σ H xs Q e h2 q⟩
theorem ya {g : TG} (h : PEd K f te ρ fun d => PGd K f g d ρ D.nx) : PSd K f (jE te g) ρ D := fun σ H E e n r b c =>
 h σ H _ e fun d v H1 g1 r1 p1 => p1 σ H1 v _ (e.mono g1) r1 fun ρ' σ' H' g' e' p' => n ρ' σ' H' (g1.trans g') e' p'
end
section
variable {K : anS} {f : Fx} {ρ : zy} {D : DEnds} {te ta tb : TE} {tt : TT} {ts tu : TS} {g : TG}
theorem aeX {t : TA} (h : PAd K f t ρ fun xs => ∃ ds, xs = [.dat (.list ds)] /\ ∃ J : Nat -> zy -> Prop, J 0 ρ /\
   (∀ (i : Nat) d ρ', ds[i]? = some d -> J i ρ' -> PGd K f g (.tuple [.int i, d]) ρ' fun ρ2 => PSd K f ts ρ2 { D with nx := J (i + 1), ct := J (i + 1), bk := D.nx }) /\ ∀ ρ', J ds.length ρ' -> D.nx ρ') :
  PSd K f (aj6 (afU K t) g ts) ρ D := fun σ H E e n r b c => h σ H _ e fun xs vs H1 g1 r1 ⟨ds, ex, J, j0, js, jd⟩ => by
 subst ex
 cases r1 with
 | cons rx r' =>
  cases r'
  obtain ⟨a, xs, rfl, h1, h2⟩ := rep_list.mp rx
  have hl := h2.length
  refine ⟨a, rfl, ⟨xs, (zo _ _).seq h1⟩, aip (K := K) (a := a) (xs := xs) (fun i σ' H' => ∃ ρ', EnvOk K f ρ' σ' H' /\ Goes f H H' /\ Goes f H1 H' /\ J i ρ') ⟨ρ, e.mono g1, g1, .refl g1.2, j0⟩ (fun i σ' H' _ ⟨ρ', e', g', g1', p⟩ => (zo _ _).seq (g1'.1.seq h1)) (fun i y σ' H' tp hy ⟨ρ', e', g', g1', p⟩ hn => ?_) fun σ' H' ⟨ρ', e', g', _, p⟩ => n ρ' σ' H' g' e' (jd ρ' (by rw [<- hl]; exact p))⟩
  have hi : i < ds.length := by rw [<- hl]; exact (anT.mp hy).1
  obtain ⟨z, hz, rz⟩ := h2.get (anP hi)
  rw [hy] at hz
  cases hz
  have gn : Goes f H' (upd H' tp (.tup [.int i, y])) := .of_same (zZ hn _) e'.fd
  have rt : Rep K (hide (upd H' tp (.tup [.int i, y])) f) (.tuple [.int i, ds[i]]) (.ref tp) := rep_tuple.mpr ⟨tp, _, rfl, .of (zD (fresh_ne e'.fd hn) zA), .cons' (rep_int.mpr rfl) (.cons' (Rep.mono gn.1 _ _ (Rep.mono g1'.1 _ _ rz)) .nil')⟩
  refine js i _ ρ' (anP hi) p σ' _ _ _ (e'.mono gn) rt fun ρ2 σ2 H2 g2' e2 p2 => ?_
  have g2 := gn.trans g2'
  exact p2 σ2 H2 _ e2 (fun ρ3 σ3 H3 g3 e3 p3 => ⟨ρ3, e3, g'.trans (g2.trans g3), g1'.trans (g2.trans g3), p3⟩) (fun d v H3 g3 r3 p3 => r d v H3 (g'.trans (g2.trans g3)) r3 p3) (fun ρ3 σ3 H3 g3 e3 p3 => n ρ3 σ3 H3 (g'.trans (g2.trans g3)) e3 p3) (fun ρ3 σ3 H3 g3 e3 p3 => ⟨ρ3, e3, g'.trans (g2.trans g3), g1'.trans (g2.trans g3), p3⟩)
end
def frD (fr : List Nat) (ρ : zy) : zy := fr.map fun j => (ρ[j]?).getD none
def v5 (own : Nat) (fr : List Nat) (ρ : zy) : zy := aqr own none ++ frD fr ρ
abbrev Fx.with (f : Fx) (D : Addr) : Fx := ⟨f.f, D :: f.M⟩
section
variable {K : anS} {f : Fx} {ρ : zy} {σ : St} {H H' : Hp} {D : Addr} {o : HO}
theorem ahb {own : Nat} {fr : List Nat} (e : EnvOk K f ρ σ H) : EnvOk K f (v5 own fr ρ) (jm own fr σ) H := by
 refine ⟨by unfold v5 jm frD; simp, fun i x h => ?_, e.fd⟩
 unfold v5 frD at h
 unfold jm
 by_cases hi : i < own
 ·rw [aoj (by simpa using hi), aqc] at h
  split at h <;> cases h
 ·rw [aol (by simpa using hi)] at h ⊢
  simp only [aqU, aob] at h ⊢
  cases hj : fr[i - own]? with
  | none => rw [hj] at h; cases h
  | some j =>
   rw [hj] at h
   have h' : (ρ[j]?).getD none = some x := Option.some.inj h
   have hρ : ρ[j]? = some (some x) := by
    cases q : ρ[j]? with
    | none => rw [q] at h'; cases h'
    | some w => rw [q] at h'; exact congrArg some h'
   obtain ⟨v, h1, h2⟩ := e.get j x hρ
   exact ⟨v, by simp [h1], h2⟩
theorem yL : hide (upd H D o) (f.with D) = hide H (f.with D) := by
 funext b
 unfold hide
 by_cases hb : f.f = some b \/ b ∈ D :: f.M
 ·rw [if_pos hb, if_pos hb]
 ·rw [if_neg hb, if_neg hb]
  have : b ≠ D := fun z => hb (.inr (z ▸ an0))
  exact zI this
theorem qM : Same (hide H (f.with D)) (hide H f) := fun b o h => by
 obtain ⟨h1, h2⟩ := zO h
 exact zD (fun z => h1 (z.elim .inl fun z => .inr (anY _ z))) h2
theorem vC (hn : H D = none) : Same (hide H f) (hide (upd H D o) (f.with D)) := fun b u h => by
 obtain ⟨h1, h2⟩ := zO h
 have hb : b ≠ D := zY h2 hn
 exact zD (fun z => z.elim (fun z => h1 (.inl z)) fun z => (aoa.mp z).elim hb fun z => h1 (.inr z)) (by rw [zI hb]; exact h2)
theorem aml (h : FOk f H) (hn : H D = none) : FOk (f.with D) (upd H D o) :=
 ⟨fun p e => let ⟨a, b, h1, h2⟩ := h.fd p e; ⟨a, b, by rw [zI (zY h1 hn)]; exact h1, h2⟩, fun b hb => by
  rcases aoa.mp hb with rfl | hb
  ·exact ⟨_, zA⟩
  ·obtain ⟨o', h1⟩ := h.mm b hb
   exact ⟨o', by rw [zI (zY h1 hn)]; exact h1⟩, fun p e hp => by
  rcases aoa.mp hp with rfl | hp
  ·exact fresh_ne h hn (.inl e)
  ·exact h.nm p e hp⟩
theorem amm (e : EnvOk K f ρ σ H) (hn : H D = none) : EnvOk K (f.with D) ρ σ (upd H D o) :=
 ⟨e.len, fun i x h => let ⟨v, h1, h2⟩ := e.get i x h; ⟨v, h1, by
  cases x with
  | dat d => exact Rep.mono (vC hn) d v h2
  | feed => exact h2
  | own k =>
   obtain ⟨p, h3, h4⟩ := h2
   refine ⟨p, ?_, h4⟩
   show (D :: f.M).reverse[k]? = some p
   rw [apz, aoj (anT.mp h3).1]
   exact h3
  | exc C =>
   obtain ⟨a, h3, h4⟩ := h2
   exact ⟨a, h3, vC hn _ _ h4⟩
  | mon φ => exact fun H' s => h2 H' ((vC hn).trans s)⟩, aml e.fd hn⟩
theorem akg (hD : f.f ≠ some D) (e : EnvOk K (f.with D) ρ σ H) : EnvOk K (f.with D) ρ σ (upd H D o) :=
 ⟨e.len, fun i x h => let ⟨v, h1, h2⟩ := e.get i x h; ⟨v, h1, by
  cases x with
  | dat d =>
   have h2' : Rep K (hide H (f.with D)) d v := h2
   show Rep K (hide (upd H D o) (f.with D)) d v
   rw [yL]; exact h2'
  | feed => exact h2
  | own k => exact h2
  | exc C =>
   obtain ⟨a, h3, h4⟩ := h2
   refine ⟨a, h3, ?_⟩
   rw [yL]
   exact h4
  | mon φ =>
   intro H' s
   rw [yL] at s
   exact h2 H' s⟩, ⟨fun p ep => let ⟨a, b, h1, h2⟩ := e.fd.fd p ep; ⟨a, b, by rw [zI (fun z => hD (by rw [<- z]; exact ep))]; exact h1, h2⟩, fun b hb => by
   by_cases hb' : b = D
   ·subst hb'; exact ⟨_, zA⟩
   ·rw [zI hb']; exact e.fd.mm b hb, e.fd.nm⟩⟩
end
section
variable {K : anS} {f : Fx} {ρ : zy} {P : PyData -> Prop} {te tl : TE} {tt : TT} {g : TG} {own : Nat} {fr : List Nat}
structure CSt (K : anS) (f : Fx) (D : Addr) (H2 : Hp) (ρ' : zy) (es : List PyData) (σ : St) (H : Hp) : Prop where
 env : EnvOk K (f.with D) ρ' σ H
 sm : Same (hide H2 (f.with D)) (hide H (f.with D))
 kp : ∀ b ∈ f.M, H b = H2 b
 lst : ∃ vs, H D = some (.lst vs) /\ Reps K (hide H (f.with D)) es vs
theorem CSt.go {D : Addr} {H2 H H' : Hp} {ρ' : zy} {es : List PyData} {σ : St} (c : CSt K f D H2 ρ' es σ H) (gg : Goes (f.with D) H H') {ρ2 : zy} {σ2 : St} (e2 : EnvOk K (f.with D) ρ2 σ2 H') : CSt K f D H2 ρ2 es σ2 H' :=
 ⟨e2, c.sm.trans gg.sm, fun b hb => (gg.kp b (anY _ hb)).trans (c.kp b hb), let ⟨vs, h1, h2⟩ := c.lst; ⟨vs, (gg.kp D an0).trans h1, Reps.mono gg.sm es vs h2⟩⟩
theorem CSt.put {D : Addr} {H2 H : Hp} {ρ' : zy} {es : List PyData} {σ : St} {d : PyData} {v : V} {vs : List V} (hD : f.f ≠ some D) (hM : D ∉ f.M) (c : CSt K f D H2 ρ' es σ H) (h1 : H D = some (.lst vs)) (h2 : Reps K (hide H (f.with D)) es vs) (r : Rep K (hide H (f.with D)) d v) :
  CSt K f D H2 ρ' (es ++ [d]) σ (upd H D (.lst (vs ++ [v]))) :=
 ⟨akg hD c.env, by rw [yL]; exact c.sm, fun b hb => (zI (fun (z : b = D) => hM (z ▸ hb))).trans (c.kp b hb), ⟨_, zA, by rw [yL]; exact h2.snoc r⟩⟩
theorem ahc {D : Addr} {H2 H : Hp} {ρ' : zy} {es : List PyData} {σ : St} {d : PyData} {v : V} {W : St -> Hp -> Prop} {R : zy -> List PyData -> Prop} (hD : f.f ≠ some D) (hM : D ∉ f.M) (c : CSt K f D H2 ρ' es σ H) (hl : es.length < 1000) (r : Rep K (hide H (f.with D)) d v)
  (h : PGd K (f.with D) g d ρ' fun ρ2 => PTd K (f.with D) tt ρ2 fun b => if b = true then PEd K (f.with D) te ρ2 fun e => R ρ2 (es ++ [e]) else R ρ2 es)
  (hW : ∀ ρ2 es2 σ2 H', CSt K f D H2 ρ2 es2 σ2 H' -> R ρ2 es2 -> W σ2 H') :
  g v σ H fun σ2 H3 => tt σ2 H3 fun b H4 => if b = true then vA D te σ2 H4 W else W σ2 H4 := by
 refine h σ H v _ c.env r fun ρ2 σ2 H3 g3 e3 p3 => ?_
 have c3 := c.go g3 e3
 refine p3 σ2 H3 _ e3 fun b H4 g4 p4 => ?_
 have c4 := c3.go g4 (e3.mono g4)
 cases b with
 | false =>
  rw [if_neg anR] at p4 ⊢
  exact hW _ _ _ _ c4 p4
 | true =>
  rw [if_pos rfl] at p4 ⊢
  refine p4 σ2 H4 _ (e3.mono g4) fun e u H5 g5 r5 p5 => ?_
  have c5 := c4.go g5 ((e3.mono g4).mono g5)
  obtain ⟨vs, h1, h2⟩ := c5.lst
  exact ⟨vs, h1, yg (by rw [h2.length]; omega), hW _ _ _ _ (c5.put hD hM h1 h2 r5) p5⟩
theorem adM {D : Addr} {H1 H : Hp} {ρ' : zy} {es : List PyData} {σ σ' : St} (hn : H1 D = none) (fo : FOk f H1) (c : CSt K f D (upd H1 D (.lst [])) ρ' es σ H) : Goes f H1 H /\ Rep K (hide H f) (.list es) (.ref D) := by
 obtain ⟨vs, h1, h2⟩ := c.lst
 have nD := fresh_ne fo hn
 refine ⟨⟨((vC hn).trans c.sm).trans qM, ⟨c.env.fd.fd, fun b hb => c.env.fd.mm b (anY _ hb), fun p e hp => c.env.fd.nm p e (anY _ hp)⟩, fun b hb => ?_⟩, rep_list.mpr ⟨D, vs, rfl, .of (zD nD h1), Reps.mono qM es vs h2⟩⟩
 rw [c.kp b hb, zI]
 obtain ⟨o, h3⟩ := fo.mm b hb
 exact zY h3 hn
theorem aba {D : Addr} {H1 : Hp} {σ : St} (hn : H1 D = none) (e : EnvOk K f ρ σ H1) : CSt K f D (upd H1 D (.lst [])) (v5 own fr ρ) [] (jm own fr σ) (upd H1 D (.lst [])) :=
 ⟨amm (ahb e) hn, Same.refl _, fun _ _ => rfl, ⟨[], zA, .nil'⟩⟩
theorem akh {t : TA} (h : PAd K f t ρ fun xs => ∃ j : Int, xs = [.dat (.int j)] /\ j <= 1000 /\ -1000 <= j /\ ∃ R : Nat -> zy -> List PyData -> Prop, R 0 (v5 own fr ρ) [] /\
   (∀ D (i : Nat) ρ' es, (i : Int) < j -> R i ρ' es -> PGd K (f.with D) g (.int i) ρ' fun ρ2 => PTd K (f.with D) tt ρ2 fun b => if b = true then PEd K (f.with D) te ρ2 fun e => R (i + 1) ρ2 (es ++ [e]) else R (i + 1) ρ2 es) /\
   (∀ i ρ' es, R i ρ' es -> es.length <= i) /\ ∀ ρ' es, R j.toNat ρ' es -> P (.list es)) :
  PEd K f (qA (afJ t) own fr g tt fun D => vA D te) ρ P := fun σ H Q e q => h σ H _ e fun xs vs H1 g1 r1 ⟨j, ex, b1, b2, R, r0, rs, rl, re⟩ => by
 subst ex
 cases r1 with
 | @cons _ v0 _ _ rx r' =>
  cases r'
  have rx' : Rep K (hide H1 f) (.int j) v0 := rx
  refine ⟨j, by rw [rep_int.mp rx'], by omega, by omega, fun D hn => ?_⟩
  have nD := fresh_ne g1.2 hn
  have hD : f.f ≠ some D := fun z => nD (.inl z)
  have hM : D ∉ f.M := fun z => nD (.inr z)
  have e1 := e.mono g1
  refine ⟨fun i m σ' H' => ∃ ρ' es, CSt K f D (upd H1 D (.lst [])) ρ' es σ' H' /\ R i ρ' es /\ i <= j.toNat /\ m + i = j.toNat, ⟨j.toNat, _, [], aba hn e1, r0, aoI _, rfl⟩, fun i m σ' H' ⟨ρ', es, c, p, hi, hm⟩ => ?_⟩
  by_cases hlt : i < j.toNat
  ·refine .inr ⟨hlt, fun x H3 hy => ?_⟩
   obtain ⟨rfl, rfl⟩ := hy
   have hz : (0 : Int) + (i : Int) = (i : Int) := Int.zero_add _
   rw [hz]
   refine ahc (R := R (i + 1)) hD hM c (by have := rl i ρ' es p; omega) ((rep_int (K := K)).mpr rfl) (rs D i ρ' es (by omega) p) fun ρ2 es2 σ2 H4 c2 p2 => ?_
   exact ⟨m - 1, by omega, ρ2, es2, c2, p2, by omega, by omega⟩
  ·have ei : i = j.toNat := by omega
   subst ei
   obtain ⟨ge, rep⟩ := adM (σ' := σ') hn g1.2 c
   exact .inl ⟨anW _, q _ _ H' (g1.trans ge) rep (re ρ' es p)⟩
theorem adN {t : TA} (h : PAd K f t ρ fun xs => ∃ j : Int, xs = [.dat (.int j)] /\ j <= 1000 /\ -1000 <= j /\ ∃ R : Nat -> PyData -> Prop,
   (∀ D (i : Nat), (i : Int) < j -> PEd K (f.with D) te (some (.dat (.int i)) :: frD fr ρ) (R i)) /\ ∀ es : List PyData, es.length = j.toNat -> (∀ (i : Nat) e, es[i]? = some e -> R i e) -> P (.list es)) :
  PEd K f (qA (afJ t) 1 fr (jy 0) amh fun D => vA D te) ρ P :=
 akh fun σ H Q e q => h σ H Q e fun xs vs H' g' r' ⟨j, ex, b1, b2, R, rs, re⟩ => by
  refine q xs vs H' g' r' ⟨j, ex, b1, b2, fun i ρ' es => (∃ x, ρ' = x :: frD fr ρ) /\ es.length = i /\ ∀ (k : Nat) e, es[k]? = some e -> R k e, ⟨⟨none, rfl⟩, rfl, fun k e h => by simp at h⟩, fun D i ρ' es hi p => ?_, fun i ρ' es p => aqg p.2.1, fun ρ' es p => re es p.2.1 p.2.2⟩
  obtain ⟨⟨x, rfl⟩, hl, hp⟩ := p
  refine zv ?_
  intro σ H Q e q
  refine q true H (.refl e.fd) ?_
  dsimp only
  rw [if_pos rfl]
  refine (rs D i hi).imp fun d hd => ⟨⟨_, rfl⟩, by rw [aoh, hl]; rfl, fun k e hk => ?_⟩
  by_cases hkl : k < es.length
  ·rw [aoj hkl] at hk; exact hp k e hk
  ·rw [aol (by omega)] at hk
   have hk0 : k - es.length = 0 := by
    have := (anT.mp hk).1
    simp at this; omega
   rw [hk0] at hk
   cases hk
   have : k = i := by omega
   subst this
   exact hd
end
section
variable {K : anS} {f : Fx} {ρ : zy} {D : DEnds} {te : TE} {i : Nat}
theorem adO {σ : St} {H : Hp} {p : Addr} {a b : Int} (e : EnvOk K f ρ σ H) (ef : f.f = some p) (h0 : 0 <= a) (h1 : 0 <= b) (h2 : b < 2147483647) : Goes f H (upd H p (.lst [.int a, .int b])) :=
 have hM := e.fd.nm p ef
 ⟨fun x o h => by
  obtain ⟨n, hx⟩ := zO h
  exact zD n (by rw [zI (fun z => n (.inl (by rw [z]; exact ef)))]; exact hx),
 ⟨fun q eq => by
   rw [ef] at eq; cases eq
   exact ⟨a, b, zA, h0, h1, h2⟩, fun x hx => by
   by_cases hxp : x = p
   ·subst hxp; exact absurd hx hM
   ·rw [zI hxp]; exact e.fd.mm x hx, e.fd.nm⟩,
fun x hx => zI (fun z => hM (z ▸ hx))⟩
theorem afY (hi : ρ[i]? = some (some .feed)) (h : PEd K f te ρ fun d => ∃ a : Int, d = .int a /\ 0 <= a /\ D.nx ρ) : PSd K f (jE te (aaW (yb i) (tC (.int 0)) vd)) ρ D := fun σ H E e n r b c => h σ H _ e fun d v H1 g1 r1 ⟨a, ed, h0, p⟩ => by
 subst ed
 obtain ⟨u, h1, q, ef, eu⟩ := e.get i _ hi
 obtain ⟨a', b', hf, c1, c2, c3⟩ := g1.2.fd q ef
 refine ⟨u, h1, q, _, 0, 0, eu, rfl, hf, rfl, ?_⟩
 rw [rep_int.mp r1]
 have g2 : Goes f H1 (upd H1 q (.lst [.int a, .int b'])) := adO (e.mono g1) ef h0 c2 c3
 exact n ρ σ _ (g1.trans g2) ((e.mono g1).mono g2) p
theorem afZ (hi : ρ[i]? = some (some .feed)) (h : PEd K f te ρ fun d => ∃ a : Int, d = .int a /\ 0 <= a /\ a < 2147483647 /\ D.nx ρ) : PSd K f (jE te (aaW (yb i) (tC (.int 1)) vd)) ρ D := fun σ H E e n r b c => h σ H _ e fun d v H1 g1 r1 ⟨a, ed, h0, h0', p⟩ => by
 subst ed
 obtain ⟨u, h1, q, ef, eu⟩ := e.get i _ hi
 obtain ⟨a', b', hf, c1, c2, c3⟩ := g1.2.fd q ef
 refine ⟨u, h1, q, _, 1, 1, eu, rfl, hf, rfl, ?_⟩
 rw [rep_int.mp r1]
 have g2 : Goes f H1 (upd H1 q (.lst [.int a', .int a])) := adO (e.mono g1) ef c1 h0 h0'
 exact n ρ σ _ (g1.trans g2) ((e.mono g1).mono g2) p
end
theorem vD {X : Cx} {x : Str} {i : Int} {t : Tok} {pos : Pos} (hg : Gl X x) (hm : X.mg x = some (.int i t)) (hd : (x == ("__debug__" : Str)) = false := by decide) : PE X (.Name x pos) (tC (.int i)) := aj0 hg hm ⟨t, rfl⟩ hd
def qD (N : List Str) (xs : List DV) : zy := xs.map some ++ aqr (N.length - xs.length) none
theorem qN {K : anS} {f : Fx} {H : Hp} {N : List Str} {xs : List DV} {vs : List V} (r : RepVs K f H xs vs) (fo : FOk f H) : EnvOk K f (qD N xs) (start N vs) H := by
 have hl := r.length
 refine ⟨by unfold qD start; simp [hl], fun i x h => ?_, fo⟩
 unfold qD at h
 unfold start
 have get : ∀ {xs : List DV} {vs : List V} {i : Nat} {x : DV}, RepVs K f H xs vs -> xs[i]? = some x -> ∃ v, vs[i]? = some v /\ RepV K f H x v := by
  intro xs vs i x r
  induction r generalizing i with
  | nil => intro h; simp at h
  | cons r1 r2 ih =>
   intro h
   cases i with
   | zero => simp at h; subst h; exact ⟨_, rfl, r1⟩
   | succ i => simp at h; obtain ⟨v, h1, h2⟩ := ih h; exact ⟨v, by simpa using h1, h2⟩
 by_cases hi : i < xs.length
 ·rw [aoj (by simpa using hi), aob] at h
  cases q : xs[i]? with
  | none => rw [q] at h; cases h
  | some y =>
   rw [q] at h
   cases h
   obtain ⟨v, h1, h2⟩ := get r q
   exact ⟨v, by rw [aoj (by simp; omega), aob, h1]; rfl, h2⟩
 ·rw [aol (by simpa using hi), aqc] at h
  split at h <;> cases h
structure Def (K : anS) (mg : Str -> Option Value) (x : Str) (st : Stmt) (ps : List Str) : Prop where
 ex : ∃ (f : Addr) (fd : FuncData), Fun K x x st f fd /\ Binds K fd ps [] /\ mg x = some (.ref f)
structure FnIn (P : Program) (w : World) (K : anS) (mg : Str -> Option Value) (base : Heap) (k : Nat) (x : Str) (ps : List Str) (sp : Sp) : Prop where
 ex : ∃ (f : Addr) (fd : FuncData), FnOk P w K mg base CX0 k f fd ps sp /\ mg x = some (.ref f) /\ ao3 K (.ref f) = true /\ Binds K fd ps []
section
variable {P : Program} {w : World} {K : anS} {mg : Str -> Option Value} {base : Heap} {j k n : Nat} {x : Str} {st : Stmt} {ps N : List Str} {γ : Type} {pre : γ -> List DV -> Prop} {post : γ -> PyData -> Prop} {sp : Sp}
theorem FnIn.mono (h : FnIn P w K mg base j x ps sp) (hk : j <= k) : FnIn P w K mg base k x ps sp :=
 let ⟨f, fd, a, b, c, d⟩ := h.ex; ⟨f, fd, a.mono hk, b, c, d⟩
theorem Def.ok (F : Def K mg x st ps) (S : FnScope N ps (zr st)) (hn : ps.length = n)
  (h : ∀ (fa : Addr) (cdv : Value) (A : Around) (outer : List Env) (s : Shared) (H : Hp) (E : XK), Room k (A.deeper (envOfC x (zr st) s.heap.objs.size fa cdv)) ->
   ∃ t, PSs (yf CX0 P w K mg base N x (zr st) fa cdv A outer s H E).nox (yS st) t /\ ∀ (f : Fx) (xs : List DV) (c : γ), xs.length = n -> pre c xs -> PSd K f t (qD N xs) { nx := fun _ => post c .none, rt := post c }) :
  FnIn P w K mg base (k + 1) x ps (spD K n pre post) := by
 obtain ⟨fa, fd, F1, F2, F3⟩ := F.ex
 refine ⟨fa, fd, F1.ok S (fun vs H Q E h => ?_) (fun cdv A outer s H vs Q E hr hs => ?_), F3, F1.kp, F2⟩
 ·obtain ⟨f, xs, c, r, hl, _⟩ := h
  rw [r.length, hl, hn]
 ·obtain ⟨f, xs, c, r, hl, fo, hp, q⟩ := hs
  obtain ⟨t, h1, h2⟩ := h fa cdv A outer s H E hr
  exact ⟨t, h1, h2 f xs c hl hp (start N vs) H _ (qN r fo) (fun _ _ H' g _ p => q .none _ H' g (rep_none.mpr rfl) p) (fun d v H' g r p => q d v H' g r p) (fun _ _ _ _ _ z => z.elim) (fun _ _ _ _ _ z => z.elim)⟩
theorem Def.raw (F : Def K mg x st ps) (S : FnScope N ps (zr st)) (len : ∀ vs H Q E, sp vs H Q E -> vs.length = ps.length)
  (h : ∀ (fa : Addr) (cdv : Value) (A : Around) (outer : List Env) (s : Shared) (H : Hp) (vs : List V) (Q : VK) (E : XK), Room k (A.deeper (envOfC x (zr st) s.heap.objs.size fa cdv)) -> sp vs H Q E ->
   ∃ t, PSs (yf CX0 P w K mg base N x (zr st) fa cdv A outer s H E).nox (yS st) t /\ t { nx := fun _ H' => Q .non H', rt := Q } (start N vs) H) :
  FnIn P w K mg base (k + 1) x ps sp := by
 obtain ⟨fa, fd, F1, F2, F3⟩ := F.ex
 exact ⟨fa, fd, F1.ok S len (fun cdv A outer s H vs Q E hr hs => h fa cdv A outer s H vs Q E hr hs), F3, F1.kp, F2⟩
theorem zm {X : Cx} {e : Expr} {es : List Expr} {t : TA} {p pos : Pos} (G : FnIn X.prog X.w X.K X.mg X.base k x ps sp) (hr : Room k X.A) (hg : Gl X x) (ha : PA X (e :: es) t) (hdb : (x == ("__debug__" : Str)) = false := by decide)
  (he : starEach (e :: es) X.env = (false, eval e X.env) :: starEach es X.env := by rfl) (hpl : (backTo pos (starEach es X.env)).any (·.1) = false := by rfl) : PE X (.Call (.Name x p) (e :: es) [] pos) (aa2 sp [] E0 t) := by
 obtain ⟨f, fd, a, b, c, d⟩ := G.ex
 exact aka a hr hg b c d .nil ang ha hdb he hpl
end
section
variable {K : anS} {f : Fx} {ρ : zy} {σ : St} {H : Hp} {E : Ends} {ts tu : TS} {D : DEnds}
theorem aiz (h : PSd K f ts ρ D) (e : EnvOk K f ρ σ H) (hn : ∀ ρ' σ' H', Goes f H H' -> EnvOk K f ρ' σ' H' -> D.nx ρ' -> tu E σ' H') (hr : ∀ d v H', Goes f H H' -> Rep K (hide H' f) d v -> D.rt d -> E.rt v H') (hb : ∀ ρ, ¬ D.bk ρ) (hc : ∀ ρ, ¬ D.ct ρ) : vj ts tu E σ H :=
 h σ H { E with nx := tu E } e hn hr (fun ρ' _ _ _ _ p => (hb ρ' p).elim) (fun ρ' _ _ _ _ p => (hc ρ' p).elim)
theorem aiA {ta : TA} {Q : VK} {R : List PyData -> Prop} (h : PAd K f ta ρ fun xs => ∃ ds, jV xs = some ds /\ ds.length <= 1000 /\ R ds) (e : EnvOk K f ρ σ H)
  (q : ∀ p ds vs H1, Goes f H H1 -> H1 p = none -> Reps K (hide H1 f) ds vs -> R ds -> Q (.ref p) (upd H1 p (.lst vs))) : aij ta σ H Q :=
 h σ H _ e fun xs vs H1 g1 r1 ⟨ds, ea, hl, p⟩ => by
  have rs := qh r1 ea
  exact ⟨by rw [rs.length]; exact apj (yg hl), fun l hn => q l ds vs H1 g1 hn rs p⟩
end
section
variable {K : anS} {f : Fx} {ρ : zy}
theorem Goes.free {H H' : Hp} {p : Addr} (g : Goes f H H') (fo : FOk f H) (h : H' p = none) : H p = none := by
 cases q : H p with
 | none => rfl
 | some o =>
  by_cases hh : f.f = some p \/ p ∈ f.M
  ·rcases hh with hh | hh
   ·obtain ⟨a, b, h1, _⟩ := g.ok.fd p hh
    rw [h] at h1; cases h1
   ·rw [g.kp p hh, q] at h; cases h
  ·have := zO (g.sm p o (zD hh q))
   rw [h] at this; cases this.2
def PEdL (K : anS) (f : Fx) (te : TE) (ρ : zy) (P : List PyData -> Prop) : Prop := ∀ (σ : St) (H : Hp) (Q : VK), EnvOk K f ρ σ H ->
 (∀ es D vs H', Goes f H H' -> H D = none -> H' D = some (.lst vs) -> Reps K (hide H' f) es vs -> P es -> Q (.ref D) H') -> te σ H Q
theorem PEdL.ped {te : TE} {P : PyData -> Prop} (h : PEdL K f te ρ fun es => P (.list es)) : PEd K f te ρ P := fun σ H Q e q => h σ H Q e fun es D vs H' g n h1 r p =>
 q (.list es) _ H' g (rep_list.mpr ⟨D, vs, rfl, .of (zD (fresh_ne e.fd n) h1), r⟩) p
end
structure TabAt (H : Hp) (a : Addr) (as : List Addr) (rows : List (List Int)) : Prop where
 top : H a = some (.lst (as.map .ref))
 nd : (a :: as).Nodup
 len : as.length = rows.length
 row : ∀ (i : Nat) x r, as[i]? = some x -> rows[i]? = some r -> H x = some (.lst (r.map .int))
def aiB (K : anS) : List V -> Hp -> VK -> Prop := fun xs H Q => ∃ x n b, xs = [x, .ty n] /\ ((∃ a ys, x = .ref a /\ SqL K H a ys /\ apl K (.type "list") (.type n) = some b) \/ (∃ a ys, x = .ref a /\ SqT K H a ys /\ apl K (.type "tuple") (.type n) = some b) \/ ∃ t, TyOf K H x t /\ apl K t (.type n) = some b) /\ Q (.bl b) H
theorem aiC {X : Cx} : z6 X (.builtin "isinstance") (aiB X.K) := by
 intro pins s σ H xs us Q I r h
 obtain ⟨x, n, b, rfl, hx, q⟩ := h
 obtain ⟨u, w', rfl, rx, rn⟩ := vals2 r
 cases rn
 rcases hx with ⟨a, ys, rfl, hq, hk⟩ | ⟨a, ys, rfl, hq, hk⟩ | ⟨t, ty, hk⟩
 ·cases rx
  obtain ⟨its, _, p, _⟩ := I.list hq
  obtain ⟨o, ho, hc, _⟩ := p.isList
  exact aoT arC I.kIn ⟨o, ho, hc⟩ hk (fun z => nomatch z) fun tk => ⟨.bl b, H, I.tok tk, rfl, q⟩
 ·cases rx
  obtain ⟨its, _, p, _⟩ := I.tuple hq
  obtain ⟨o, ho, hc, _⟩ := p
  exact aoT PySem.W.kitx_tuple I.kIn ⟨o, ho, hc⟩ hk (fun z => nomatch z) fun tk => ⟨.bl b, H, I.tok tk, rfl, q⟩
 ·exact ag1 I rx ty hk fun tk => ⟨.bl b, H, I.tok tk, rfl, q⟩
section
variable {X : Cx} {K : anS}
theorem zH (hK : X.K = K) : IxR X (aeQ K) := hK ▸ akb
theorem yx (hK : X.K = K) : IxR X (amc K) := hK ▸ amd
theorem zT (hK : X.K = K) : z6 X (.builtin "len") (fun xs H Q => ∃ p ys, xs = [.ref p] /\ (SqL K H p ys \/ SqT K H p ys) /\ Q (.int ys.length) H) := hK ▸ acH
theorem vm (hK : X.K = K) : z6 X (.type "list") (fun xs H Q => ∃ p ys, xs = [.ref p] /\ (SqL K H p ys \/ SqT K H p ys) /\ ∀ l, H l = none -> Q (.ref l) (upd H l (.lst ys))) := hK ▸ acI
theorem aar (hK : X.K = K) : z6 X (.type "tuple") (fun xs H Q => ∃ p ys, xs = [.ref p] /\ ((SqL K H p ys /\ ∀ l, H l = none -> Q (.ref l) (upd H l (.tup ys))) \/ (SqT K H p ys /\ Q (.ref p) H))) := hK ▸ abJ
theorem ahd (hK : X.K = K) (hc : X.calm = true) : z6 X (.builtin "min") (fun xs H Q => ∃ a ns, xs = [.ref a] /\ SqL K H a (ns.map V.int) /\ ns ≠ [] /\ ∀ M, M ∈ ns -> (∀ b ∈ ns, M <= b) -> Q (.int M) H) := hK ▸ ag7 hc
theorem ahe (hK : X.K = K) (hc : X.calm = true) : z6 X (.builtin "max") (fun xs H Q => ∃ a ns, xs = [.ref a] /\ SqL K H a (ns.map V.int) /\ ns ≠ [] /\ ∀ M, M ∈ ns -> (∀ b ∈ ns, b <= M) -> Q (.int M) H) := hK ▸ ag8 hc
theorem yy (hK : X.K = K) (hu : X.A.units + 64 < cLine) : OpR X (compareOp .Eq) (ag6 K false) := hK ▸ ami hu
theorem qE (hK : X.K = K) (hu : X.A.units + 64 < cLine) : OpR X (compareOp .NotEq) (ag6 K true) := hK ▸ amj hu
theorem ahf (hK : X.K = K) : z6 X (.builtin "isinstance") (aiB K) := hK ▸ aiC
variable {tg l e st : Expr} {tl te ts : TE} {ta : TA} {p pos p2 : Pos}
theorem yM (hK : X.K = K) (hl : PE X l tl) : PI X tg l (ah9 K tl) := hK ▸ aj5 hl
theorem qO (hK : X.K = K) (hl : PE X l tl) : PI X tg l (al1 K tl) := hK ▸ al3 hl
theorem adP {es : List Expr} {k : Nat} {tpos : Pos} (hK : X.K = K) (hg : Gl X "enumerate") (hm : X.mg "enumerate" = none) (ha : PA X [l] ta) (hs : starEach [l] X.env = [(false, eval l X.env)] := by rfl) : PI X (.Tuple es k tpos) (.Call (.Name "enumerate" p) [l] [] pos) (afU K ta) := hK ▸ ake hg hm ha hs
theorem yj (hK : X.K = K) (ha : PE X e te) (he : ∀ whole, isTrue e X.env whole = (do let v <- whole; standAt e.pos; holding [v] (truthy v))) : PT X e (akf K te) := hK ▸ amk ha he
theorem z4 {es : List Expr} {k : Nat} {t : TGs} {n : Nat} (hK : X.K = K) (hc : X.calm = true) (h : PGs X es t) (hn : (assignEach es X.env).length = n := by rfl) (hst : (assignEach es X.env).findIdx? (·.1) = none := by rfl) : PG X (.Tuple es k pos) (aj4 K n t) := hK ▸ al0 hc h hn hst
end
structure ItD (K : anS) (f : Fx) (ds : List PyData) (J : It) (H1 : Hp) : Prop where
 go : ∀ (f' : Fx) (H' : Hp) (i : Nat) d, FOk f' H' -> Same (hide H1 f) (hide H' f') -> ds[i]? = some d -> J.go i H' /\ ∀ x H3, J.yld i H' x H3 -> Goes f' H' H3 /\ Rep K (hide H3 f') d x
 st : ∀ (f' : Fx) (H' : Hp), FOk f' H' -> Same (hide H1 f) (hide H' f') -> J.stop ds.length H'
def PId (K : anS) (f : Fx) (wi : TI) (ρ : zy) (R : List PyData -> Prop) : Prop := ∀ (σ : St) (H : Hp) (C : It -> Hp -> Prop), EnvOk K f ρ σ H ->
 (∀ ds J H1, Goes f H H1 -> ItD K f ds J H1 -> R ds -> C J H1) -> wi σ H C
def qG (n : Nat) : List PyData := (aoq n).map fun (i : Nat) => .int (i : Int)
def aas (ds : List PyData) : List PyData := ds.mapIdx fun i d => .tuple [.int (i : Int), d]
section
variable {K : anS} {f : Fx} {ρ : zy} {R : List PyData -> Prop} {tl : TE} {t : TA}
theorem PId.imp {wi : TI} {R' : List PyData -> Prop} (h : PId K f wi ρ R) (i : ∀ ds, R ds -> R' ds) : PId K f wi ρ R' := fun σ H C e q => h σ H C e fun ds J H1 g it r => q ds J H1 g it (i ds r)
theorem vE (h : PAd K f t ρ fun xs => ∃ j : Int, xs = [.dat (.int j)] /\ -(2 ^ 62) <= j /\ j < 2 ^ 62 /\ R (qG j.toNat)) : PId K f (afJ t) ρ R := fun σ H C e q => h σ H _ e fun xs vs H1 g1 r1 ⟨j, ex, q1, q2, p⟩ => by
 subst ex
 cases r1 with
 | @cons _ v0 _ _ rx r' =>
  cases r'
  have rx' : Rep K (hide H1 f) (.int j) v0 := rx
  refine ⟨j, by rw [rep_int.mp rx'], q1, q2, q _ _ H1 g1 ⟨fun f' H' i d fo _ hd => ?_, fun f' H' _ _ => ?_⟩ p⟩
  ·unfold qG at hd
   rw [aob] at hd
   by_cases hi : i < j.toNat
   ·rw [ap9 hi] at hd
    cases hd
    refine ⟨hi, fun x H3 hy => ?_⟩
    obtain ⟨rfl, rfl⟩ := hy
    exact ⟨.refl fo, rep_int.mpr (by rw [Int.zero_add])⟩
   ·rw [aov (by rw [apn]; omega)] at hd
    cases hd
  ·show j.toNat <= (qG j.toNat).length
   unfold qG
   rw [anQ, apn]
   exact anW _
theorem jW (h : PEd K f tl ρ fun x => ∃ ds, x = .list ds /\ R ds) : PId K f (ah9 K tl) ρ R := fun σ H C e q => h σ H _ e fun x v H1 g1 r1 ⟨ds, ex, p⟩ => by
 subst ex
 obtain ⟨a, xs, rfl, h1, h2⟩ := rep_list.mp r1
 have hl := h2.length
 refine ⟨a, rfl, ⟨xs, (zo _ _).seq h1⟩, q ds _ H1 g1 ⟨fun f' H' i d fo sm hd => ?_, fun f' H' _ sm => ⟨xs, (zo _ _).seq (sm.seq h1), aqg hl⟩⟩ p⟩
 obtain ⟨z, hz, rz⟩ := h2.get hd
 have sq : SqL K H' a xs := (zo _ _).seq (sm.seq h1)
 refine ⟨⟨xs, z, sq, hz⟩, fun x H3 hy => ?_⟩
 obtain ⟨rfl, hy⟩ := hy
 have ez := hy xs sq
 rw [hz] at ez
 cases ez
 exact ⟨.refl fo, Rep.mono sm _ _ rz⟩
theorem ab6 (h : PEd K f tl ρ fun x => ∃ ds, x = .tuple ds /\ R ds) : PId K f (al1 K tl) ρ R := fun σ H C e q => h σ H _ e fun x v H1 g1 r1 ⟨ds, ex, p⟩ => by
 subst ex
 obtain ⟨a, xs, rfl, h1, h2⟩ := rep_tuple.mp r1
 have hl := h2.length
 refine ⟨a, rfl, ⟨xs, (zo _ _).seqT h1⟩, q ds _ H1 g1 ⟨fun f' H' i d fo sm hd => ?_, fun f' H' _ sm => ⟨xs, (zo _ _).seqT (sm.seqT h1), aqg hl⟩⟩ p⟩
 obtain ⟨z, hz, rz⟩ := h2.get hd
 have sq : SqT K H' a xs := (zo _ _).seqT (sm.seqT h1)
 refine ⟨⟨xs, z, sq, hz⟩, fun x H3 hy => ?_⟩
 obtain ⟨rfl, hy⟩ := hy
 have ez := hy xs sq
 rw [hz] at ez
 cases ez
 exact ⟨.refl fo, Rep.mono sm _ _ rz⟩
theorem amn (h : PAd K f t ρ fun xs => ∃ ds, xs = [.dat (.list ds)] /\ R (aas ds)) : PId K f (afU K t) ρ R := fun σ H C e q => h σ H _ e fun xs vs H1 g1 r1 ⟨ds, ex, p⟩ => by
 subst ex
 cases r1 with
 | cons rx r' =>
  cases r'
  obtain ⟨a, xs, rfl, h1, h2⟩ := rep_list.mp rx
  have hl := h2.length
  refine ⟨a, rfl, ⟨xs, (zo _ _).seq h1⟩, q (aas ds) _ H1 g1 ⟨fun f' H' i d fo sm hd => ?_, fun f' H' _ sm => ⟨xs, (zo _ _).seq (sm.seq h1), by unfold aas; rw [List.length_mapIdx]; exact aqg hl⟩⟩ p⟩
  unfold aas at hd
  rw [asb] at hd
  cases eq : ds[i]? with
  | none => rw [eq] at hd; cases hd
  | some d0 =>
   rw [eq] at hd
   cases hd
   obtain ⟨z, hz, rz⟩ := h2.get eq
   have sq : SqL K H' a xs := (zo _ _).seq (sm.seq h1)
   refine ⟨⟨xs, z, sq, hz⟩, fun x H3 hy => ?_⟩
   obtain ⟨tp, y, rfl, hn, rfl, hy⟩ := hy
   have ez := hy xs sq
   rw [hz] at ez
   cases ez
   have gn : Goes f' H' (upd H' tp (.tup [.int i, z])) := .of_same (zZ hn _) fo
   exact ⟨gn, rep_tuple.mpr ⟨tp, _, rfl, .of (zD (fresh_ne fo hn) zA), .cons' (rep_int.mpr rfl) (.cons' (Rep.mono gn.1 _ _ (Rep.mono sm _ _ rz)) .nil')⟩⟩
end
section
variable {K : anS} {f : Fx} {ρ : zy} {D : DEnds} {wi : TI} {g : TG} {ts : TS}
theorem aly (h : PId K f wi ρ fun ds => ∃ J : Nat -> zy -> Prop, J 0 ρ /\
   (∀ (i : Nat) d ρ', ds[i]? = some d -> J i ρ' -> PGd K f g d ρ' fun ρ2 => PSd K f ts ρ2 { D with nx := J (i + 1), ct := J (i + 1), bk := D.nx }) /\ ∀ ρ', J ds.length ρ' -> D.nx ρ') :
  PSd K f (aj6 wi g ts) ρ D := fun σ H E e n r b c => h σ H _ e fun ds J H1 g1 it ⟨Jv, j0, js, jd⟩ => by
 refine ⟨fun i m σ' H' => ∃ ρ', EnvOk K f ρ' σ' H' /\ Goes f H1 H' /\ Jv i ρ' /\ m + i = ds.length, ⟨ds.length, ρ, e.mono g1, .refl g1.2, j0, rfl⟩, fun i m σ' H' ⟨ρ', e', g', p, hm⟩ => ?_⟩
 by_cases hi : i < ds.length
 ·obtain ⟨hgo, hy⟩ := it.go f H' i _ e'.fd g'.sm (anP hi)
  refine .inr ⟨hgo, fun σ2 H2 => ∃ ρ2, EnvOk K f ρ2 σ2 H2 /\ Goes f H1 H2 /\ Jv (i + 1) ρ2, fun σ2 H2 ⟨ρ2, e2, g2, p2⟩ => ⟨m - 1, by omega, ρ2, e2, g2, p2, by omega⟩, fun x H3 hx => ?_⟩
  obtain ⟨g3, r3⟩ := hy x H3 hx
  refine js i _ ρ' (anP hi) p σ' H3 x _ (e'.mono g3) r3 fun ρ2 σ2 H4 g4 e4 p4 => ?_
  have gg := g'.trans (g3.trans g4)
  exact p4 σ2 H4 _ e4 (fun ρ5 σ5 H5 g5 e5 p5 => ⟨ρ5, e5, gg.trans g5, p5⟩) (fun d v H5 g5 r5 p5 => r d v H5 (g1.trans (gg.trans g5)) r5 p5) (fun ρ5 σ5 H5 g5 e5 p5 => n ρ5 σ5 H5 (g1.trans (gg.trans g5)) e5 p5) (fun ρ5 σ5 H5 g5 e5 p5 => ⟨ρ5, e5, gg.trans g5, p5⟩)
 ·have ei : i = ds.length := by omega
  subst ei
  exact .inl ⟨it.st f H' e'.fd g'.sm, n ρ' σ' H' (g1.trans g') e' (jd ρ' p)⟩
end
section
variable {K : anS} {f : Fx} {ρ : zy} {D : Addr} {wi : TI} {g : TG} {tt : TT} {te : TE}
theorem CSt.self {H2 H : Hp} {es : List PyData} {σ : St} (c : CSt K f D H2 ρ es σ H) : CSt K f D H ρ es σ H := ⟨c.env, Same.refl _, fun _ _ => rfl, c.lst⟩
theorem CSt.trans {H2 H H' : Hp} {es es' : List PyData} {ρ' : zy} {σ σ' : St} (c : CSt K f D H2 ρ es σ H) (d : CSt K f D H ρ' es' σ' H') : CSt K f D H2 ρ' es' σ' H' := ⟨d.env, c.sm.trans d.sm, fun b hb => (d.kp b hb).trans (c.kp b hb), d.lst⟩
def PBd (K : anS) (f : Fx) (D : Addr) (tb : TB) (ρ : zy) (es : List PyData) (R : zy -> List PyData -> Prop) : Prop := f.f ≠ some D -> D ∉ f.M -> ∀ (σ : St) (H H2 : Hp) (W : St -> Hp -> Prop), CSt K f D H2 ρ es σ H ->
 (∀ ρ2 es2 σ2 H', CSt K f D H2 ρ2 es2 σ2 H' -> R ρ2 es2 -> W σ2 H') -> tb σ H W
theorem jn {es : List PyData} {R : zy -> List PyData -> Prop} (hl : es.length < 1000) (h : PEd K (f.with D) te ρ fun e => R ρ (es ++ [e])) : PBd K f D (vA D te) ρ es R := fun hD hM σ H H2 W c q =>
 h σ H _ c.env fun e u H5 g5 r5 p5 => by
  have c5 := c.go g5 (c.env.mono g5)
  obtain ⟨vs, h1, h2⟩ := c5.lst
  exact ⟨vs, h1, yg (by rw [h2.length]; omega), q _ _ _ _ (c5.put hD hM h1 h2 r5) p5⟩
theorem aiD {fi : Fx} {Hi H2 H : Hp} {ds es : List PyData} {J : It} {tb : TB} {σ : St} {W : St -> Hp -> Prop} (it : ItD K fi ds J Hi) (hD : f.f ≠ some D) (hM : D ∉ f.M) (c : CSt K f D H2 ρ es σ H) (sm : Same (hide Hi fi) (hide H (f.with D)))
  (Jv : Nat -> zy -> List PyData -> Prop) (j0 : Jv 0 ρ es)
  (js : ∀ (i : Nat) d ρ' es', ds[i]? = some d -> Jv i ρ' es' -> PGd K (f.with D) g d ρ' fun ρ2 => PTd K (f.with D) tt ρ2 fun b => if b = true then PBd K f D tb ρ2 es' (Jv (i + 1)) else Jv (i + 1) ρ2 es')
  (hW : ∀ ρ' es' σ' H', CSt K f D H2 ρ' es' σ' H' -> Jv ds.length ρ' es' -> W σ' H') : adC J g tt tb σ H W := by
 refine ⟨fun i m σ' H' => ∃ ρ' es', CSt K f D H2 ρ' es' σ' H' /\ Same (hide Hi fi) (hide H' (f.with D)) /\ Jv i ρ' es' /\ m + i = ds.length, ⟨ds.length, ρ, es, c, sm, j0, rfl⟩, fun i m σ' H' ⟨ρ', es', c', sm', p, hm⟩ => ?_⟩
 by_cases hi : i < ds.length
 ·obtain ⟨hgo, hy⟩ := it.go (f.with D) H' i _ c'.env.fd sm' (anP hi)
  refine .inr ⟨hgo, fun x H3 hx => ?_⟩
  obtain ⟨g3, r3⟩ := hy x H3 hx
  have c3 := c'.go g3 (c'.env.mono g3)
  refine js i _ ρ' es' (anP hi) p σ' H3 x _ c3.env r3 fun ρ2 σ2 H4 g4 e4 p4 => ?_
  have c4 := c3.go g4 e4
  refine p4 σ2 H4 _ e4 fun b H5 g5 p5 => ?_
  have c5 := c4.go g5 (e4.mono g5)
  have sm5 := ((sm'.trans g3.sm).trans g4.sm).trans g5.sm
  cases b with
  | false =>
   rw [if_neg anR] at p5 ⊢
   exact ⟨m - 1, by omega, ρ2, es', c5, sm5, p5, by omega⟩
  | true =>
   rw [if_pos rfl] at p5 ⊢
   exact p5 hD hM σ2 H5 H5 _ c5.self fun ρ6 es6 σ6 H6 c6 p6 => ⟨m - 1, by omega, ρ6, es6, c5.trans c6, sm5.trans c6.sm, p6, by omega⟩
 ·have ei : i = ds.length := by omega
  subst ei
  exact .inl ⟨it.st (f.with D) H' c'.env.fd sm', hW ρ' es' σ' H' c' p⟩
theorem anh {es : List PyData} {tb : TB} {R : zy -> List PyData -> Prop} (h : PId K (f.with D) wi ρ fun ds => ∃ Jv : Nat -> zy -> List PyData -> Prop, Jv 0 ρ es /\
   (∀ (i : Nat) d ρ' es', ds[i]? = some d -> Jv i ρ' es' -> PGd K (f.with D) g d ρ' fun ρ2 => PTd K (f.with D) tt ρ2 fun b => if b = true then PBd K f D tb ρ2 es' (Jv (i + 1)) else Jv (i + 1) ρ2 es') /\
   ∀ ρ' es', Jv ds.length ρ' es' -> R ρ' es') : PBd K f D (tIn wi g tt tb) ρ es R := fun hD hM σ H H2 W c q =>
 h σ H _ c.env fun ds J H1 g1 it ⟨Jv, j0, js, jd⟩ =>
  aiD it hD hM (c.go g1 (c.env.mono g1)) (Same.refl _) Jv j0 js fun ρ' es' σ' H' c' p => q ρ' es' σ' H' c' (jd ρ' es' p)
def PEdO (K : anS) (f : Fx) (te : TE) (ρ : zy) (P : List PyData -> Prop) : Prop := ∀ (σ : St) (H : Hp) (Q : VK), EnvOk K f ρ σ H ->
 (∀ es D vs H', Goes f H H' -> H D = none -> H' D = some (.lst vs) -> Reps K (hide H' (f.with D)) es vs -> P es -> Q (.ref D) H') -> te σ H Q
theorem PEdO.pedl {P : List PyData -> Prop} (h : PEdO K f te ρ P) : PEdL K f te ρ P := fun σ H Q e q => h σ H Q e fun es D vs H' g n h1 r p => q es D vs H' g n h1 (Reps.mono qM es vs r) p
theorem PEdO.ped {P : PyData -> Prop} (h : PEdO K f te ρ fun es => P (.list es)) : PEd K f te ρ P := h.pedl.ped
theorem alz {P : List PyData -> Prop} (h : P []) : PEdO K f (aij yP) ρ P := fun σ H Q e q => ⟨aoI _, fun p hn => q [] p [] _ (.of_same (zZ hn _) e.fd) hn zA .nil' h⟩
theorem v7 {own : Nat} {fr : List Nat} {tb : Addr -> TB} {P : List PyData -> Prop} (h : PId K f wi ρ fun ds => ∃ Jv : Nat -> zy -> List PyData -> Prop, Jv 0 (v5 own fr ρ) [] /\
   (∀ D (i : Nat) d ρ' es', ds[i]? = some d -> Jv i ρ' es' -> PGd K (f.with D) g d ρ' fun ρ2 => PTd K (f.with D) tt ρ2 fun b => if b = true then PBd K f D (tb D) ρ2 es' (Jv (i + 1)) else Jv (i + 1) ρ2 es') /\
   ∀ ρ' es', Jv ds.length ρ' es' -> P es') : PEdO K f (qA wi own fr g tt tb) ρ P := fun σ H Q e q =>
 h σ H _ e fun ds J H1 g1 it ⟨Jv, j0, js, jd⟩ D hn => by
  have nD := fresh_ne g1.2 hn
  have hD : f.f ≠ some D := fun z => nD (.inl z)
  have hM : D ∉ f.M := fun z => nD (.inr z)
  refine aiD it hD hM (aba hn (e.mono g1)) (vC hn) Jv j0 (js D) fun ρ' es' σ' H' c' p => ?_
  obtain ⟨ge, rep⟩ := adM (σ' := σ') hn g1.2 c'
  obtain ⟨vs, h1, h2⟩ := c'.lst
  exact q es' D vs H' (g1.trans ge) (g1.free e.fd hn) h1 h2 (jd ρ' es' p)
end
section
variable {K : anS} {f : Fx} {ρ : zy} {D : Addr} {wi : TI} {g : TG} {tt : TT} {te : TE}
theorem v8 {F : PyData -> List PyData} {ds : List PyData} {i : Nat} {d : PyData} (h : ds[i]? = some d) : (ds.take (i + 1)).flatMap F = (ds.take i).flatMap F ++ F d := by
 rw [apo, h, ao8]
 simp
theorem aki {F : PyData -> List PyData} {ds : List PyData} {i : Nat} : ((ds.take i).flatMap F).length <= (ds.flatMap F).length := by
 conv => rhs; rw [<- aqV i ds, ao8, aoh]
 omega
def OwnE (own : Nat) (ρ0 : zy) (ρ' : zy) : Prop := ∃ us : zy, us.length = own /\ ρ' = us ++ ρ0
theorem OwnE.one {ρ0 ρ' : zy} (h : OwnE 1 ρ0 ρ') : ∃ u, ρ' = u :: ρ0 := by
 obtain ⟨us, h1, rfl⟩ := h
 match us, h1 with
 | [u], _ => exact ⟨u, rfl⟩
theorem OwnE.two {ρ0 ρ' : zy} (h : OwnE 2 ρ0 ρ') : ∃ u v, ρ' = u :: v :: ρ0 := by
 obtain ⟨us, h1, rfl⟩ := h
 match us, h1 with
 | [u, v], _ => exact ⟨u, v, rfl⟩
theorem OwnE.mk1 {ρ0 : zy} {u : Option DV} : OwnE 1 ρ0 (u :: ρ0) := ⟨[u], rfl, rfl⟩
theorem OwnE.mk2 {ρ0 : zy} {u v : Option DV} : OwnE 2 ρ0 (u :: v :: ρ0) := ⟨[u, v], rfl, rfl⟩
theorem amo {own : Nat} {fr : List Nat} {tb : Addr -> TB} {P : List PyData -> Prop} (h : PId K f wi ρ fun ds => ∃ F : PyData -> List PyData, (ds.flatMap F).length <= 1000 /\
   (∀ D d ρ' es, d ∈ ds -> OwnE own (frD fr ρ) ρ' -> es.length + (F d).length <= 1000 -> PGd K (f.with D) g d ρ' fun ρ2 => PTd K (f.with D) tt ρ2 fun b => if b = true then PBd K f D (tb D) ρ2 es fun ρ3 es3 => OwnE own (frD fr ρ) ρ3 /\ es3 = es ++ F d else OwnE own (frD fr ρ) ρ2 /\ F d = []) /\
   P (ds.flatMap F)) : PEdO K f (qA wi own fr g tt tb) ρ P :=
 v7 (h.imp fun ds ⟨F, hl, hs, hp⟩ => by
  refine ⟨fun i ρ' es => OwnE own (frD fr ρ) ρ' /\ es = (ds.take i).flatMap F, ⟨⟨aqr own none, by simp, rfl⟩, by simp⟩, fun D i d ρ' es hd ⟨ho, he⟩ => ?_, fun ρ' es ⟨_, he⟩ => ?_⟩
  ·have hb : es.length + (F d).length <= 1000 := by
    rw [he, <- aoh, <- v8 hd]
    exact aou aki hl
   have := hs D d ρ' es (aof hd) ho hb
   intro σ H v Q e r q
   refine this σ H v Q e r fun ρ2 σ2 H2 g2 e2 p2 => q ρ2 σ2 H2 g2 e2 (p2.imp fun b hb2 => ?_)
   cases b with
   | false =>
    rw [if_neg anR] at hb2 ⊢
    exact ⟨hb2.1, by rw [v8 hd, hb2.2, aoN]; exact he⟩
   | true =>
    rw [if_pos rfl] at hb2 ⊢
    intro h1 h2 σ3 H3 H4 W c k
    exact hb2 h1 h2 σ3 H3 H4 W c fun ρ5 es5 σ5 H5 c5 ⟨o5, p5⟩ => k ρ5 es5 σ5 H5 c5 ⟨o5, by rw [p5, v8 hd, he]⟩
  ·rw [he, aoG]
   exact hp)
theorem qu {B : Bool -> Prop} (h : B true) : PTd K f amh ρ B := fun σ H Q e q => q true H (.refl e.fd) h
end
structure OEnds where
 nx : zy -> List PyData -> Prop
 rt : PyData -> Prop
 bk : zy -> List PyData -> Prop := fun _ _ => False
 ct : zy -> List PyData -> Prop := fun _ _ => False
section
variable {K : anS} {f : Fx} {ρ : zy} {D : Addr} {wi : TI} {g : TG} {tt : TT} {te : TE} {ts tu : TS} {es : List PyData} {O : OEnds} {i : Nat}
def aaI (n : Nat) : Option DV -> Option DV
 | some (.own k) => if k < n then some (.own k) else none
 | x => x
end
section
variable {K : anS} {f : Fx} {ρ : zy} {P : PyData -> Prop} {te ta tb : TE} {t : TA}
theorem Reps.drop {H : Hp} : ∀ {ds : List PyData} {xs : List V} (n : Nat), Reps K H ds xs -> Reps K H (ds.drop n) (xs.drop n)
 | _, _, 0, r => r
 | [], xs, n + 1, r => by
  rw [reps_nil.mp r]
  exact .nil'
 | d :: ds, xs, n + 1, r => by
  obtain ⟨x, r', rfl, _, h⟩ := reps_cons.mp r
  exact Reps.drop n h
theorem Reps.take {H : Hp} : ∀ {ds : List PyData} {xs : List V} (n : Nat), Reps K H ds xs -> Reps K H (ds.take n) (xs.take n)
 | _, _, 0, r => .nil'
 | [], xs, n + 1, r => by
  rw [reps_nil.mp r]
  exact .nil'
 | d :: ds, xs, n + 1, r => by
  obtain ⟨x, r', rfl, h0, h⟩ := reps_cons.mp r
  exact .cons' h0 (Reps.take n h)
def cutD (ds : List PyData) (lo hi : Option Int) : List PyData := (ds.drop (HT.sIx ds.length 0 lo)).take (HT.sIx ds.length ds.length hi - HT.sIx ds.length 0 lo)
theorem Reps.cut {H : Hp} {ds : List PyData} {xs : List V} {lo hi : Option Int} (r : Reps K H ds xs) : Reps K H (cutD ds lo hi) (abH xs lo hi) := by
 unfold cutD abH
 rw [r.length]
 exact (r.drop _).take _
def POd (K : anS) (f : Fx) (t : TO) (ρ : zy) (R : Option Int -> Prop) : Prop := ∀ (σ : St) (H : Hp) (Q : Option Int -> Hp -> Prop), EnvOk K f ρ σ H -> (∀ o H', Goes f H H' -> R o -> Q o H') -> t σ H Q
theorem ani {R : Option Int -> Prop} (h : R none) : POd K f afO ρ R := fun σ H Q e q => q none H (.refl e.fd) h
theorem anj {R : Option Int -> Prop} (h : PEd K f te ρ fun d => ∃ i : Int, d = .int i /\ R (some i)) : POd K f (alv te) ρ R := fun σ H Q e q => h σ H _ e fun d v H1 g1 r1 ⟨i, ed, p⟩ => by
 subst ed
 exact ⟨i, rep_int.mp r1, q (some i) H1 g1 p⟩
theorem ank {tl th : TO} {P : List PyData -> Prop} (h : PEd K f te ρ fun x => ∃ ds, x = .list ds /\ POd K f tl ρ fun lo => POd K f th ρ fun hi => P (cutD ds lo hi)) : PEdL K f (tSl (akc K) te tl th) ρ P := fun σ H Q e q =>
 h σ H _ e fun x v H1 g1 r1 ⟨ds, ex, p1⟩ => p1 σ H1 _ (e.mono g1) fun lo H2 g2 p2 => p2 σ H2 _ ((e.mono g1).mono g2) fun hi H3 g3 p3 => by
  subst ex
  have gg := g1.trans (g2.trans g3)
  obtain ⟨a, xs, rfl, h1, h2⟩ := rep_list.mp (Rep.mono (g2.trans g3).sm _ _ r1)
  refine ⟨a, xs, rfl, (zo _ _).seq h1, fun p hn => ?_⟩
  have g4 : Goes f H3 (upd H3 p (.lst (abH xs lo hi))) := .of_same (zZ hn _) g3.ok
  exact q _ p _ _ (gg.trans g4) (gg.free e.fd hn) zA (Reps.mono g4.sm _ _ h2.cut) p3
theorem alA {tl th : TO} (h : PEd K f te ρ fun x => ∃ ds, x = .list ds /\ POd K f tl ρ fun lo => POd K f th ρ fun hi => P (.list (cutD ds lo hi))) : PEd K f (tSl (akc K) te tl th) ρ P := (ank h).ped
theorem acN (h : PAd K f t ρ fun xs => (∃ ds, xs = [.dat (.list ds)] /\ P (.tuple ds)) \/ (∃ ds, xs = [.dat (.tuple ds)] /\ P (.tuple ds))) :
  PEd K f (tCB (fun xs H Q => ∃ p ys, xs = [.ref p] /\ ((SqL K H p ys /\ ∀ l, H l = none -> Q (.ref l) (upd H l (.tup ys))) \/ (SqT K H p ys /\ Q (.ref p) H))) t) ρ P :=
 aha fun σ H Q e q => h σ H Q e fun xs vs H' g r p => by
  rcases p with ⟨ds, rfl, p⟩ | ⟨ds, rfl, p⟩
  ·refine q _ vs H' g r ⟨_, rfl, fun vs H Q fo rs k => ?_⟩
   obtain ⟨x, r, rfl, h2, h3⟩ := reps_cons.mp rs
   rw [reps_nil.mp h3]
   obtain ⟨a, ys, rfl, s1, s2⟩ := rep_list.mp h2
   refine ⟨a, ys, rfl, .inl ⟨(zo _ _).seq s1, fun l hn => ?_⟩⟩
   have g2 : Goes f H (upd H l (.tup ys)) := .of_same (zZ hn _) fo
   exact k (.tuple ds) _ _ g2 (rep_tuple.mpr ⟨l, ys, rfl, .of (zD (fresh_ne fo hn) zA), Reps.mono g2.1 ds ys s2⟩) p
  ·refine q _ vs H' g r ⟨_, rfl, fun vs H Q fo rs k => ?_⟩
   obtain ⟨x, r, rfl, h2, h3⟩ := reps_cons.mp rs
   rw [reps_nil.mp h3]
   obtain ⟨a, ys, rfl, s1, s2⟩ := rep_tuple.mp h2
   exact ⟨a, ys, rfl, .inr ⟨(zo _ _).seqT s1, k (.tuple ds) _ H (.refl fo) (rep_tuple.mpr ⟨a, ys, rfl, s1, s2⟩) p⟩⟩
end
abbrev f0 : Fx := ⟨none, []⟩
theorem fok0 (H : Hp) : FOk f0 H := ⟨(fun p e => by cases e), (fun b hb => by cases hb), (fun p e => by cases e)⟩
theorem anl {H H' : Hp} (s : Same H H') : Goes f0 H H' := .of_same s (fok0 H)
theorem same0 {H H' : Hp} (g : Goes f0 H H') : Same H H' := fun b o h => (zO (g.sm b o (by rw [yQ]; exact h))).2
def acO : Option DV -> Option DV
 | some (.dat d) => some (.dat d)
 | _ => none
section
variable {K : anS} {ρ : zy} {te : TE} {tu : TS} {i : Nat}
theorem abb {p : Addr} {σ : St} {H : Hp} (e : EnvOk K ⟨some p, []⟩ ρ σ H) : EnvOk K f0 (ρ.map acO) σ H := by
 refine ⟨by rw [anQ]; exact e.len, fun i x h => ?_, fok0 H⟩
 rw [aob] at h
 cases eq : ρ[i]? with
 | none => rw [eq] at h; cases h
 | some y =>
  rw [eq] at h
  cases y with
  | none => cases h
  | some y =>
   obtain ⟨v, h1, h2⟩ := e.get i y eq
   cases y with
   | dat d =>
    cases h
    refine ⟨v, h1, ?_⟩
    show Rep K (hide H f0) d v
    rw [yQ]
    exact Rep.mono (zo _ _) d v h2
   | feed => cases h
   | own k => cases h
   | exc C => cases h
   | mon φ => cases h
theorem amq {Dn : DEnds} (h : ∀ (σ : St) (H : Hp) (Q : VK), EnvOk K f0 ρ σ H -> (∀ (p : Addr) (x y : Int) (H' : Hp), Same H H' -> H p = none -> H' p = some (.lst [.int x, .int y]) -> 0 <= x -> 0 <= y -> y < 2147483647 -> Q (.ref p) H') -> te σ H Q)
  (hr : ∀ p, PSd K ⟨some p, []⟩ tu (ρ.set i (some .feed)) { nx := fun ρ' => Dn.nx (ρ'.map acO), rt := Dn.rt, bk := fun ρ' => Dn.bk (ρ'.map acO), ct := fun ρ' => Dn.ct (ρ'.map acO) }) :
  PSd K f0 (vj (jE te (jy i)) tu) ρ Dn := fun σ H E e n r b k => h σ H _ e fun p x y H1 sm hn hp x0 y0 y1 => by
 have fo : FOk ⟨some p, []⟩ H1 := ⟨fun p' e => by cases e; exact ⟨x, y, hp, x0, y0, y1⟩, (fun b hb => by cases hb), fun _ _ hb => by cases hb⟩
 have sm0 : Same H (hide H1 ⟨some p, []⟩) := fun b o hb => by
  have nb : b ≠ p := fun e => by rw [e, hn] at hb; cases hb
  refine zD (fun z => ?_) (sm b o hb)
  rcases z with z | z
  ·cases z; exact nb rfl
  ·cases z
 have e1 : EnvOk K ⟨some p, []⟩ ρ σ H1 := by
  refine ⟨e.len, fun j z hz => ?_, fo⟩
  obtain ⟨v, a1, a2⟩ := e.get j z hz
  refine ⟨v, a1, ?_⟩
  cases z with
  | dat d =>
   have a2' : Rep K (hide H f0) d v := a2
   rw [yQ] at a2'
   exact Rep.mono sm0 d v a2'
  | feed => obtain ⟨q, hq, _⟩ := a2; cases hq
  | own k => obtain ⟨q, hq, _⟩ := a2; cases hq
  | exc C =>
   obtain ⟨q, h3, h4⟩ := a2
   refine ⟨q, h3, sm0 _ _ ?_⟩
   rw [yQ] at h4
   exact h4
  | mon φ =>
   intro H' s
   refine a2 H' (Same.trans ?_ s)
   rw [yQ]
   exact sm0
 have gg : ∀ {H' : Hp}, Goes ⟨some p, []⟩ H1 H' -> Goes f0 H H' := fun g => anl fun b o hb => zo _ _ b o (g.sm b o (sm0 b o hb))
 refine hr p _ H1 E (e1.set i (x := .feed) ⟨p, rfl, rfl⟩) (fun ρ' σ' H' g' e' p' => n _ σ' H' (gg g') (abb e') p') (fun d v H' g' r' p' => r d v H' (gg g') ?_ p') (fun ρ' σ' H' g' e' p' => b _ σ' H' (gg g') (abb e') p') (fun ρ' σ' H' g' e' p' => k _ σ' H' (gg g') (abb e') p')
 rw [yQ]
 exact Rep.mono (zo _ _) d v r'
end
section
variable {X : Cx} {K : anS}
def anm (i j : Int) : Prop := 0 < j /\ j < 1152921504606846976
theorem adQ : OpR X (binaryOp .FloorDiv) (rI anm fun i j => .int (i / j)) := opI fun i j _ _ _ _ _ hc q => by
 obtain ⟨h1, h2⟩ := hc
 rw [<- Int.fdiv_eq_ediv_of_nonneg i (Int.le_of_lt h1)] at q
 refine floordiv_int (by omega) q (.inl (PyProof.noPylong_of_log2 ?_))
 have h0 : j.natAbs ≠ 0 := by omega
 have : j.natAbs.log2 < 60 := (Nat.log2_lt h0).mpr (by omega)
 omega
theorem adR (hK : X.K = K) : SlR X (akc K) := hK ▸ akd
theorem akj (hK : X.K = K) : SlR X (ama K) := hK ▸ amb
end
section
variable {K : anS} {f : Fx} {ρ : zy} {wi : TI} {g : TG} {tt : TT} {own : Nat} {fr : List Nat} {tb : Addr -> TB} {P : List PyData -> Prop}
theorem ab7 {α : Type} {A B : α -> PyData} (xs : List α) (h : PId K f wi ρ fun ds => ds = xs.map A /\ xs.length <= 1000 /\
   (∀ D x ρ' es, x ∈ xs -> OwnE own (frD fr ρ) ρ' -> es.length < 1000 -> PGd K (f.with D) g (A x) ρ' fun ρ2 => PTd K (f.with D) tt ρ2 fun b => if b = true then PBd K f D (tb D) ρ2 es fun ρ3 es3 => OwnE own (frD fr ρ) ρ3 /\ es3 = es ++ [B x] else False) /\ P (xs.map B)) :
  PEdO K f (qA wi own fr g tt tb) ρ P :=
 v7 (h.imp fun ds ⟨ed, hl, hs, hp⟩ => by
  subst ed
  refine ⟨fun i ρ' es => OwnE own (frD fr ρ) ρ' /\ es = (xs.take i).map B, ⟨⟨aqr own none, by simp, rfl⟩, by simp⟩, fun D i d ρ' es hd ⟨ho, he⟩ => ?_, fun ρ' es ⟨_, he⟩ => ?_⟩
  ·rw [aob] at hd
   cases eq : xs[i]? with
   | none => rw [eq] at hd; cases hd
   | some x =>
    rw [eq] at hd
    cases hd
    have hi : i < xs.length := (anT.mp eq).1
    have hb : es.length < 1000 := by
     rw [he, anQ, aoA]
     omega
    intro σ H v Q e r q
    refine hs D x ρ' es (aof eq) ho hb σ H v Q e r fun ρ2 σ2 H2 g2 e2 p2 => q ρ2 σ2 H2 g2 e2 (p2.imp fun b hb2 => ?_)
    cases b with
    | false =>
     rw [if_neg anR] at hb2
     exact hb2.elim
    | true =>
     rw [if_pos rfl] at hb2 ⊢
     intro h1 h2 σ3 H3 H4 W c k
     exact hb2 h1 h2 σ3 H3 H4 W c fun ρ5 es5 σ5 H5 c5 ⟨o5, p5⟩ => k ρ5 es5 σ5 H5 c5 ⟨o5, by rw [p5, he, apo, eq, aoE]; rfl⟩
  ·rw [he, anQ, aoG]
   exact hp)
end
structure XLie (P : Program) (w : World) (outer : List Env) (H : Hp) (s : Shared) (e : Addr) (C : Value) (H' : Hp) (s' : Shared) : Prop where
 os : s'.os = s.os
 bare : AllBare s'.gens
 un : Un (frs outer) [] H H' s.heap s'.heap
 hok : HOk P w H' s'.heap
 fly : ∃ B a0, Heap.FlyingW B outer e C a0 s'.heap /\ (∀ b o, s.heap.get? b = some o -> b ∉ frs outer -> ∃ o', B.get? b = some o') /\ ∀ b o, H' b = some o -> ∃ o', B.get? b = some o'
 new : s.heap.get? e = none
 free : H' e = none
def CXe (P : Program) (w : World) : CXT := fun outer H s E e s' => ∃ a C H', e = .ref a /\ XLie P w outer H s a C H' s' /\ E C none H'
end L2
end
section
namespace L2
open PySem PySem.Spec PyProof.Rows
end L2
end
section
namespace L2
open PySem PySem.Spec PySem.W PyProof.Rows PySem.Calls PySem.Builtin Builtin Builtin.ObjectAttr Builtin.Getset_descriptor
section
variable {prog : Program} {w : World} {A : Around} {E : Value -> Shared -> Prop} {s : Shared} {K : anS} {a C : Addr}
structure ExcWays (K : anS) (C : Addr) : Prop where
 ga : findIn K (.ref C) "__getattribute__" = some (some (.builtin "BaseException.__getattribute__"))
 gt : findIn K (.ref C) "__getattr__" = some none
 cl : findIn K (.ref C) "__class__" = some (some (.builtin "object.__class__"))
 gs : specialIn K (.builtin "object.__class__") "__get__" = some (some (.builtin "getset_descriptor.__get__"))
 tk : takesIn K (.builtin "object.__class__") = some true
 ob : mroIn K C (.type "object") = some true
 be : mroIn K C (.type "BaseException") = some true
 iz : (clsIn K C).isSome = true
end
structure FnInX (P : Program) (w : World) (K : anS) (mg : Str -> Option Value) (base : Heap) (k : Nat) (x : Str) (ps : List Str) (sp : Sp) : Prop where
 ex : ∃ (f : Addr) (fd : FuncData), FnOk P w K mg base (CXe P w) k f fd ps sp /\ mg x = some (.ref f) /\ ao3 K (.ref f) = true /\ Binds K fd ps []
end L2
end
section
namespace L2
open PySem PySem.Spec PyProof.Rows
def amr (K : anS) : List V -> Hp -> VK -> Prop := fun xs H Q => ∃ (a : Addr) (bs : List Bool), xs = [.ref a] /\ SqL K H a (bs.map V.bl) /\ Q (.bl (bs.all id)) H
def ams (K : anS) : List V -> Hp -> VK -> Prop := fun xs H Q => ∃ (a : Addr) (bs : List Bool), xs = [.ref a] /\ SqL K H a (bs.map V.bl) /\ Q (.bl (bs.any id)) H
theorem abc : ∀ {bs : List Bool} {us : List Value}, Vals (bs.map V.bl) us -> us = bs.map Value.bool
 | [], us, r => by
  cases r
  rfl
 | b :: bs, us, r => by
  cases r with
  | cons h t =>
   rw [abc t]
   cases (show _ = Value.bool b from h)
   rfl
theorem range_all (bs : List Bool) : (aoq bs.length).all (fun i => bs.getD i false) = bs.all id := by
 rw [apB, aoR, aoR]
 constructor
 ·intro h b hb
  obtain ⟨i, hi, rfl⟩ := asd.mp hb
  have := h i (aoK.mpr hi)
  rwa [anU, anP hi] at this
 ·intro h i hi
  have hi' := aoK.mp hi
  rw [anU, anP hi']
  exact h _ (aot hi')
theorem range_any (bs : List Bool) : (aoq bs.length).any (fun i => bs.getD i false) = bs.any id := by
 rw [apB, aqZ, aqZ]
 constructor
 ·rintro ⟨i, hi, h⟩
  have hi' := aoK.mp hi
  rw [anU, anP hi'] at h
  exact ⟨_, aot hi', h⟩
 ·rintro ⟨b, hb, h⟩
  obtain ⟨i, hi, rfl⟩ := asd.mp hb
  refine ⟨i, aoK.mpr hi, ?_⟩
  rw [anU, anP hi]
  exact h
theorem aat (prog : Program) (w : World) (A : Around) (bs : List Bool) : TruthOf prog w A (fun i v => (bs.map Value.bool).toArray[i]? = some v) (fun i => bs.getD i false) := by
 intro i v s Q E hv hq
 rw [List.getElem?_toArray, aob] at hv
 cases eb : bs[i]? with
 | none => rw [eb] at hv; cases hv
 | some b =>
  rw [eb] at hv
  cases hv
  dsimp only at hq
  rw [anU, eb] at hq
  exact wpAny_pure hq
theorem ahg {X : Cx} (hc : X.calm = true) : z6 X (.builtin "all") (amr X.K) := by
 intro pins s σ H xs us Q I r h
 obtain ⟨a, bs, rfl, hq, q⟩ := h
 obtain ⟨u, rfl, r1⟩ := vals1 r
 cases r1
 obtain ⟨its, rv, p, _⟩ := I.list hq
 have hl := p.isList
 rw [abc rv] at hl
 have ha : a < s.heap.objs.size := by
  obtain ⟨o, ho, _⟩ := hl
  exact aoc ho
 refine call_all_walk (wpAny_pyIter_list hl ?_)
 have hne : a ≠ s.heap.objs.size := aoB ha
 refine ⟨s.heap.objs.size, _, _, _, _, _, _, rfl, Walks.list (show (X.A.in1).handled = none from I.ok.hd hc) _ a hne _, ⟨?_, ?_⟩, aat _ _ _ bs, fun h' tk hk => ?_⟩
 ·exact ⟨_, aoi _ rfl, rfl, rfl⟩
 ·exact hl.at fun o e => anV _ e
 ·have kp : ∀ b o, s.heap.get? b = some o -> h'.get? b = some o := fun b o e => hk b o (by
   intro z
   have := aoc e
   rw [aom.mp z] at this
   exact ao5 _ this) (anV _ e)
  refine ⟨.bl _, H, I.kept (t' := tk) kp, ?_, q⟩
  show Value.bool _ = Value.bool _
  rw [aod, anQ, range_all]
theorem ahh {X : Cx} (hc : X.calm = true) : z6 X (.builtin "any") (ams X.K) := by
 intro pins s σ H xs us Q I r h
 obtain ⟨a, bs, rfl, hq, q⟩ := h
 obtain ⟨u, rfl, r1⟩ := vals1 r
 cases r1
 obtain ⟨its, rv, p, _⟩ := I.list hq
 have hl := p.isList
 rw [abc rv] at hl
 have ha : a < s.heap.objs.size := by
  obtain ⟨o, ho, _⟩ := hl
  exact aoc ho
 refine call_any_walk (wpAny_pyIter_list hl ?_)
 have hne : a ≠ s.heap.objs.size := aoB ha
 refine ⟨s.heap.objs.size, _, _, _, _, _, _, rfl, Walks.list (show (X.A.in1).handled = none from I.ok.hd hc) _ a hne _, ⟨?_, ?_⟩, aat _ _ _ bs, fun h' tk hk => ?_⟩
 ·exact ⟨_, aoi _ rfl, rfl, rfl⟩
 ·exact hl.at fun o e => anV _ e
 ·have kp : ∀ b o, s.heap.get? b = some o -> h'.get? b = some o := fun b o e => hk b o (by
   intro z
   have := aoc e
   rw [aom.mp z] at this
   exact ao5 _ this) (anV _ e)
  refine ⟨.bl _, H, I.kept (t' := tk) kp, ?_, q⟩
  show Value.bool _ = Value.bool _
  rw [aod, anQ, range_any]
theorem v9 {X : Cx} {K : anS} (hK : X.K = K) (hc : X.calm = true) : z6 X (.builtin "all") (amr K) := hK ▸ ahg hc
theorem ahi {X : Cx} {K : anS} (hK : X.K = K) (hc : X.calm = true) : z6 X (.builtin "any") (ams K) := hK ▸ ahh hc
section
variable {K : anS} {f : Fx} {ρ : zy} {P : PyData -> Prop} {te : TE}
theorem vo {H : Hp} : ∀ {bs : List Bool} {xs : List V}, Reps K H (bs.map .bool) xs -> xs = bs.map V.bl
 | [], xs, r => reps_nil.mp r
 | b :: bs, xs, r => by
  obtain ⟨x, r', rfl, h1, h2⟩ := reps_cons.mp r
  rw [vo h2, rep_bool.mp h1]
  rfl
theorem aiE (h : PEd K f te ρ fun x => ∃ bs : List Bool, x = .list (bs.map .bool) /\ P (.bool (bs.all id))) : PEd K f (tCB (amr K) (zW te yP)) ρ P := fun σ H Q e q => h σ H _ e fun x v H1 g1 r1 ⟨bs, ex, p⟩ => by
 subst ex
 obtain ⟨a, xs, rfl, h1, h2⟩ := rep_list.mp r1
 rw [vo h2] at h1
 exact ⟨a, bs, rfl, (zo _ _).seq h1, q _ _ H1 g1 (rep_bool.mpr rfl) p⟩
theorem ano (h : PEd K f te ρ fun x => ∃ bs : List Bool, x = .list (bs.map .bool) /\ P (.bool (bs.any id))) : PEd K f (tCB (ams K) (zW te yP)) ρ P := fun σ H Q e q => h σ H _ e fun x v H1 g1 r1 ⟨bs, ex, p⟩ => by
 subst ex
 obtain ⟨a, xs, rfl, h1, h2⟩ := rep_list.mp r1
 rw [vo h2] at h1
 exact ⟨a, bs, rfl, (zo _ _).seq h1, q _ _ H1 g1 (rep_bool.mpr rfl) p⟩
end
section
variable {prog : Program} {w : World} {A : Around} {E : Value -> Shared -> Prop}
theorem ab8 {I : Addr} {fp wr : List Addr} {n : Nat} {P : Nat -> Value -> Prop} {St : Nat -> Heap -> Prop} (W : Walks prog w A I fp wr n P St) : ∀ (k i : Nat) (s : Shared) (Q : List Value -> Shared -> Prop), i + k <= n -> St i s.heap ->
  (∀ vs h' tk, vs.length = k -> (∀ (j : Nat) v, vs[j]? = some v -> P (i + j) v) -> St (i + k) h' -> (∀ b o, b ∉ wr -> s.heap.get? b = some o -> h'.get? b = some o) -> Q vs { s with heap := h', toks := tk }) -> wpAny (model prog w) A (draw (.ref I) k) Q E s
 | 0, i, s, Q, _, st, hQ => wpAny_pure (hQ [] s.heap s.toks rfl (fun j v e => by simp at e) st fun _ _ _ e => e)
 | k + 1, i, s, Q, hle, st, hQ => by
  show wpAny _ _ (pyNext (.ref I) >>= _) Q E s
  refine wpAny_bind (W.item i s _ E (by omega) st fun v h1 tk1 hv st1 k1 => ?_)
  refine wpAny_bind (wpAny_holding (ab8 W k (i + 1) _ _ (by omega) st1 fun vs h2 tk2 hl hp st2 k2 => wpAny_pure ?_))
  refine hQ (v :: vs) h2 tk2 (by rw [aoe, hl]) (fun j u e => ?_) (by rw [show i + (k + 1) = i + 1 + k by omega]; exact st2) fun b o hb e => k2 b o hb (k1 b o hb e)
  cases j with
  | zero => cases e; exact hv
  | succ j =>
   have := hp j u e
   rwa [show i + (j + 1) = i + 1 + j by omega]
theorem aeY {s : Shared} {a : Addr} {items : Array Value} {targets : List (Bool × (Value -> Sem Unit))} {Q : Unit -> Shared -> Prop} (hh : A.handled = none) (hl : s.heap.IsList a items)
  (hn : targets.length = items.size) (hstar : targets.findIdx? (·.1) = none)
  (h : ∀ h' tk, (∀ b o, s.heap.get? b = some o -> h'.get? b = some o) -> wpAny (model prog w) A (assignInOrder (targets.map (·.2)) items.toList) Q E { s with heap := h', toks := tk }) : wpAny (model prog w) A (unpack (.ref a) targets) Q E s := by
 have ha : a < s.heap.objs.size := by
  obtain ⟨o, ho, _⟩ := hl
  exact aoc ho
 unfold unpack
 rw [hn, hstar]
 refine wpAny_bind (wpAny_holding ?_)
 unfold unpackItems
 refine wpAny_bind ?_
 unfold notIterableAtAll
 refine wpAny_bind (wpAny_specialOf hl.typeIs slot_list_iter.lookup (wpAny_pure ?_))
 simp only [aoF, if_false]
 refine wpAny_bind (wpAny_holding (wpAny_pyIter_list hl ?_))
 have W := Walks.list (prog := prog) (w := w) hh s.heap.objs.size a (aoB ha) items
 have fr : ∀ b o, s.heap.get? b = some o -> b ∉ [s.heap.objs.size] := fun b o e z => by
  have := aoc e
  rw [aom.mp z] at this
  exact ao5 _ this
 refine wpAny_bind (wpAny_holding (ab8 W items.size 0 _ _ (by omega) ⟨⟨_, aoi _ rfl, rfl, rfl⟩, hl.at fun o e => anV _ e⟩ fun vs h1 tk1 hvl hp st1 k1 => ?_))
 have ev : vs = items.toList := by
  refine aqo fun j => ?_
  by_cases hj : j < vs.length
  ·have := hp j _ (anP hj)
   rw [arU] at this
   rw [anP hj, <- this, aqn]
  ·rw [aov (by omega), aov (by rw [aok]; omega)]
 subst ev
 rw [if_neg (by simp)]
 rw [arU] at st1
 refine wpAny_bind (wpAny_holding (W.done _ _ _ st1 fun h2 tk2 k2 => ?_))
 simp only [Option.isSome_none, aoF, if_false]
 exact wpAny_pure (h h2 tk2 fun b o e => k2 b o (fr b o e) (k1 b o (fr b o e) (anV _ e)))
end
def anp (K : anS) (n : Nat) (gs : TGs) : TG := fun v σ H Q => ∃ a xs, v = .ref a /\ SqL K H a xs /\ xs.length = n /\ gs xs σ H Q
theorem af0 {X : Cx} {K : anS} {es : List Expr} {k : Nat} {t : TGs} {n : Nat} {pos : Pos} (hK : X.K = K) (hc : X.calm = true) (h : PGs X es t)
  (hn : (assignEach es X.env).length = n := by rfl) (hst : (assignEach es X.env).findIdx? (·.1) = none := by rfl) : PG X (.Tuple es k pos) (anp K n t) := by
 subst hK
 intro pins s σ H v u Q I r hw
 obtain ⟨a, xs, e1, hq, hl, hw⟩ := hw
 subst e1
 cases r
 obtain ⟨its, rv, p, hz⟩ := I.list hq
 rw [assign_Tuple]
 refine wpAny_bind (wpAny_standAt (aeY (I.ok.hd hc) p.isList (by rw [hn, <- hl, rv.length, aod]) hst fun h' tk kp => ?_))
 exact h pins _ σ H xs _ Q (I.kept (t' := tk) kp) rv hw
section
variable {K : anS} {f : Fx} {ρ : zy}
theorem alB {n : Nat} {gs : TGs} {ds : List PyData} {R : zy -> Prop} (hn : ds.length = n) (h : aiy K f gs ds ρ R) : PGd K f (anp K n gs) (.list ds) ρ R := fun σ H v Q e r q => by
 obtain ⟨a, xs, rfl, h1, h2⟩ := rep_list.mp r
 exact ⟨a, xs, rfl, (zo _ _).seq h1, by rw [h2.length]; exact hn, h σ H xs Q e h2 q⟩
end
def amt (K : anS) (neg : Bool) : R2 := fun x y H Q => ∃ d ds, Rep K H d x /\ Rep K H (.list ds) y /\ d.canLay0 = true /\ (∀ e ∈ ds, e.canLay0 = true) /\ d.depth <= 50 /\ Q (.bl (if neg then !ds.any (fun e => aoo e d) else ds.any (fun e => aoo e d))) H
open Classical in
noncomputable def eqR (h : Heap) (d : PyData) (u : Value) : Bool := if z : ∃ e as, Reads h u e as /\ e.canLay0 = true then aoo z.choose d else false
theorem aiF {h : Heap} {d e : PyData} {u : Value} {as : List Addr} (r : Reads h u e as) (c : e.canLay0 = true) : eqR h d u = aoo e d := by
 have z : ∃ e as, Reads h u e as /\ e.canLay0 = true := ⟨e, as, r, c⟩
 unfold eqR
 rw [dif_pos z]
 obtain ⟨as', r', c'⟩ := z.choose_spec
 rw [SeqAt.Reads.unique _ _ _ _ _ c' r' r]
section
variable {X : Cx} {pins : List (Addr × Obj)} {σ : St} {H : Hp} {s : Shared}
theorem af1 (I : Inv X pins σ H s) {d : PyData} : ∀ {ds : List PyData} {xs : List V} {us : List Value}, Reps X.K H ds xs -> Vals xs us -> (∀ e ∈ ds, e.canLay0 = true) -> us.any (eqR s.heap d) = ds.any (fun e => aoo e d)
 | [], xs, us, r, v, _ => by
  rw [reps_nil.mp r] at v
  cases v
  rfl
 | e :: ds, xs, us, r, v, c => by
  obtain ⟨x, xs', rfl, h1, h2⟩ := reps_cons.mp r
  cases v with
  | cons r1 r2 =>
   obtain ⟨as, ra⟩ := yT I e x _ h1 r1
   rw [arF, arF, aiF ra (c e an0), af1 I h2 r2 fun e he => c e (anY _ he)]
theorem adS (I : Inv X pins σ H s) {A : Around} {d : PyData} {v : Value} {bs : List Addr} (rb : Reads s.heap v d bs) (cd : d.canLay0 = true) (dd : d.depth <= 50) (hu : A.units + 60 < cLine) : ∀ {ds : List PyData} {xs : List V} {us : List Value}, Reps X.K H ds xs -> Vals xs us -> (∀ e ∈ ds, e.canLay0 = true) -> ∀ u ∈ us, SeqAt.EqAt A s u v (eqR s.heap d u)
 | [], xs, us, r, w, _ => by
  rw [reps_nil.mp r] at w
  cases w
  intro u hu
  cases hu
 | e :: ds, xs, us, r, w, c => by
  obtain ⟨x, xs', rfl, h1, h2⟩ := reps_cons.mp r
  cases w with
  | cons r1 r2 =>
   intro u hm
   rcases aoa.mp hm with rfl | hm
   ·obtain ⟨as, ra⟩ := yT I e x _ h1 r1
    rw [aiF ra (c e an0)]
    refine SeqAt.eqAt_reads e d A s _ v as bs ra rb (c e an0) cd ?_
    have := aqu e.depth d.depth
    omega
   ·exact adS I rb cd dd hu h2 r2 (fun e he => c e (anY _ he)) u hm
theorem ahj {K : anS} (hK : X.K = K) : OpR X (compareOp .NotIn) (rIn K true) := hK ▸ acG
end
section
variable {K : anS} {f : Fx} {ρ : zy} {P : PyData -> Prop} {te ta tb : TE} {t : TA} {D : DEnds} {i j : Nat}
theorem aiG (h : PEd K f ta ρ fun d => ∃ n : Int, d = .int n /\ PEd K f tb ρ fun y => ∃ ns : List Int, y = .tuple (ns.map .int) /\ P (.bool (!ns.contains n))) : PEd K f (tOp (rIn K true) ta tb) ρ P := fun σ H Q e q =>
 h σ H _ e fun d v H1 g1 r1 ⟨n, ed, p1⟩ => p1 σ H1 _ (e.mono g1) fun y w H2 g2 r2 ⟨ns, ey, p2⟩ => by
  subst ed ey
  obtain ⟨a, xs, rfl, h1, h2⟩ := rep_tuple.mp r2
  have ex := h2.ints
  subst ex
  rw [rep_int.mp r1]
  have e1 : inV (.int n) (ns.map V.int) = ns.contains n := by
   unfold inV
   rw [asq, List.contains_eq_any_beq]
   congr 1
   funext m
   show (m == n) = (n == m)
   exact BEq.comm
  refine ⟨a, _, rfl, .inr ((zo _ _).seqT h1), rfl, ?_, ?_⟩
  ·rw [List.all_map]
   exact aoR.mpr fun _ _ => rfl
  ·rw [if_pos rfl, e1]
   exact q _ _ H2 (g1.trans g2) (rep_bool.mpr rfl) p2
end
end L2
end
section
namespace L2
open PySem PySem.Spec PyProof.Rows
section
variable {K : anS} {f : Fx} {ρ : zy} {E : XK} {te : TE} {ts tu : TS} {tt : TT} {t : TA} {P : PyData -> Prop} {D : DEnds}
theorem alC (h : PEd K f te ρ fun x => ∃ i, x = .int i /\ P (.int (-i))) : PEd K f (tUn (rU fun i => .int (-i)) te) ρ P :=
 anL (h.imp fun x ⟨i, ex, p⟩ v H Q fo r q => by
  subst ex
  exact ⟨i, rep_int.mp r, q _ _ H (.refl fo) (rep_int.mpr rfl) p⟩)
theorem anq {n : String} {b : Bool} (hk : apl K (.type "int") (.type n) = some b) (h : PEd K f te ρ fun d => ∃ i, d = .int i /\ P (.bool b)) : PEd K f (tCB (aiB K) (zW te (zW (tC (.ty n)) yP))) ρ P := fun σ H Q e q => h σ H _ e fun d v H1 g r ⟨i, ed, p⟩ => by
 subst ed
 rw [rep_int.mp r]
 exact ⟨_, n, b, rfl, .inr (.inr ⟨_, .int i, hk⟩), q _ _ H1 g (rep_bool.mpr rfl) p⟩
end
section
variable {X : Cx}
theorem ahk (hu : X.A.units + 64 < cLine) : OpR X (compareOp .NotIn) (amt X.K true) := by
 intro pins s σ H x y v u Q I rx ry h
 obtain ⟨d, ds, h1, h2, c1, c2, dd, q⟩ := h
 obtain ⟨a, xs, rfl, hq, hr⟩ := rep_list.mp h2
 cases ry
 obtain ⟨bs, rb⟩ := yT I d x v h1 rx
 obtain ⟨its, r, pl, hz⟩ := I.list hq
 refine SeqAt.notIn_listAt (eqR s.heap d) pl.isList (fun w hw => adS I rb c1 dd (show X.A.in1.units + 60 < cLine from by show X.A.units + 1 + 60 < cLine; omega) hr r c2 w (by simpa using hw)) ⟨.bl _, H, I, rfl, ?_⟩
 rw [show its.toArray.any (eqR s.heap d) = its.any (eqR s.heap d) by simp, af1 I hr r c2]
 exact q
theorem aeZ {K : anS} (hK : X.K = K) (hu : X.A.units + 64 < cLine) : OpR X (compareOp .NotIn) (amt K true) := hK ▸ ahk hu
end
section
variable {K : anS} {f : Fx} {ρ : zy} {P : PyData -> Prop} {te ta tb : TE}
theorem aiH (h : PEd K f ta ρ fun d => PEd K f tb ρ fun y => ∃ ds, y = .list ds /\ d.canLay0 = true /\ (∀ e ∈ ds, e.canLay0 = true) /\ d.depth <= 50 /\ P (.bool (!ds.any fun e => aoo e d))) : PEd K f (tOp (amt K true) ta tb) ρ P := fun σ H Q e q =>
 h σ H _ e fun d v H1 g1 r1 p1 => p1 σ H1 _ (e.mono g1) fun y w H2 g2 r2 ⟨ds, ey, c1, c2, dd, p2⟩ => by
  subst ey
  exact ⟨d, ds, Rep.mono (zo _ _) _ _ (Rep.mono g2.sm _ _ r1), Rep.mono (zo _ _) _ _ r2, c1, c2, dd, q _ _ H2 (g1.trans g2) (rep_bool.mpr rfl) p2⟩
end
end L2
end
section
namespace L2
open PySem PySem.Spec PyProof.Rows
section
variable {P : Program} {w : World} {A : Around} {X : Value -> Shared -> Prop} {s : Shared} {it l : Addr} {xs : Array Value}
theorem ae0 {A : Around} {Q : Bool -> Shared -> Prop} (ty : s.TypeIs (.ref it) "list_reverseiterator") (q : Q false s) : wpAny (model P w) A (arl (.ref it)) Q X s := by
 have no : typeLookup (.type "list_reverseiterator") "__len__" = pure none := by rw [typeLookup_type, builtinLookup_eq_fast]; kernel_rfl
 have yes : typeLookup (.type "list_reverseiterator") "__length_hint__" = pure (some (.builtin "list_reverseiterator.__length_hint__")) := by rw [typeLookup_type, builtinLookup_eq_fast]; kernel_rfl
 unfold arl
 apply wpAny_bind; apply wpAny_specialOf ty no
 show wpAny _ A (specialOf _ (apE "__length_hint__") >>= _) _ _ _
 apply wpAny_bind; apply wpAny_specialOf ty yes
 generalize e : ("list_reverseiterator.__length_hint__" : String) = id0
 wp_delta
 have sp : splitId id0 = some ("list_reverseiterator", "__length_hint__") := by rw [<- e]; decide +kernel
 rw [sp]
 subst e
 apply wpAny_bind
 apply wpAny_isInstance (T := "list_reverseiterator") (b := true) ty (by rw [isSubtype_type]; kernel_rfl)
 repeat' (refine wpAny_ite_split (fun z => ?_) (fun z => ?_))
 all_goals first
  | exact wpAny_pure q
  | exact absurd z (by decide)
  | exact absurd z (by decide +kernel)
  | exact absurd (by decide +kernel) z
theorem abM {Q : Value -> Shared -> Prop} (hh : A.handled = none) (ne : l ≠ it) (hit : s.heap.IsRevIter it l ((xs.size : Int) - 1)) (hl : s.heap.IsList l xs) (small : xs.size <= sizeLine)
  (q : ∀ h' tk ys c, (∀ b o, b ≠ it -> s.heap.get? b = some o -> h'.get? b = some o) -> h'.get? s.heap.objs.size = some { cls := .type "list", dict := none, data := .seq ys c, slots := #[] } ->
   ItemsOf (fun i v => xs[xs.size - 1 - i]? = some v) ys xs.size -> Q (.ref s.heap.objs.size) { s with heap := h', toks := tk }) :
  wpAny (model P w) A (call (.type "list") [.ref it]) Q X s := by
 let D := s.heap.objs.size
 have below : ∀ b o, s.heap.get? b = some o -> b ≠ D := fun b o e z => ao5 D (by have := aoc e; rwa [z] at this)
 have nit : it ≠ D := let ⟨o, e, _⟩ := hit; below it o e
 have nl : l ≠ D := let ⟨o, e, _⟩ := hl; below l o e
 let h1 : Heap := s.heap.push { cls := .type "list", data := .seq #[] }
 have at1 : h1.get? D = some { cls := .type "list", data := .seq #[] } := aoi _ rfl
 let h2 : Heap := h1.update D (ap4 fun _ => #[])
 have at2 := apb (ap4 fun _ => (#[] : Array Value)) at1 rfl
 have stay : ∀ b o, s.heap.get? b = some o -> h2.get? b = some o := fun b o e =>
  (aoM _ _ (ape (below b o e))).trans (anV _ e)
 have ty : ({ s with heap := h2 } : Shared).TypeIs (.ref it) "list_reverseiterator" := (hit.at fun o e => stay it o e).typeIs
 have walk := (Walks.listRev (prog := P) (w := w) (A := A.in1.in1) hh it l ne xs).toS
 refine callType_codes (Q₁ := fun v t => v = .ref D /\ t = { s with heap := h1 }) F.called_list (F.typeCall_list_1 _) F.entry_list_init (code_list_new _ ⟨rfl, rfl⟩) ?_
 rintro _ _ ⟨rfl, rfl⟩
 refine ⟨⟨_, at1, rfl⟩, F.args_list_init_2 _ _, ?_⟩
 show wpAny _ A.in1.in1 (arV (.ref D) >>= fun old => arL (.ref D) (fun _ => #[]) >>= fun _ => letGo old.toList.reverse >>= fun _ => aqp (.ref D) (.ref it) .none) _ _ _
 unfold arV
 apply wpAny_bind; apply wpAny_bind
 apply wpAny_seqItems at1 rfl; apply wpAny_pure
 show wpAny _ A.in1.in1 (updateSeq D (fun _ => #[]) >>= fun _ => letGo [] >>= fun _ => aqp (.ref D) (.ref it) .none) _ _ _
 apply wpAny_bind; apply wpAny_updateSeq at1 rfl
 apply wpAny_bind; apply wpAny_letGo
 unfold aqp
 apply wpAny_bind; apply wpAny_typeOf ty
 have other : arG (.ref D) (.ref it) = false := by simp [arG, ape nit]
 rw [other]
 have k2 : (Value.type "list_reverseiterator" == Value.type "list" || Value.type "list_reverseiterator" == Value.type "tuple") = false := by decide
 simp only [k2, Bool.false_or, aoF, if_false]
 have start : (0 : Nat) <= xs.size /\ h2.IsRevIter it l ((xs.size : Int) - 1 - ((0 : Nat) : Int)) /\ h2.IsList l xs := by
  refine ⟨aoI _, ?_, hl.at fun o e => stay l o e⟩
  rw [Int.natCast_zero, Int.sub_zero]
  exact hit.at fun o e => stay it o e
 apply wpAny_bind; apply walk.self 0 _ _ _ start
 apply wpAny_bind; apply wpAny_holding; apply ae0 ty
 refine wpAny_ite_split (fun z => absurd z (by decide +kernel)) fun _ => wpAny_pure ⟨plainId_quiet F.plain_extend_loop _, ?_⟩
 refine codeAny_extend_loopS walk small D (by simp [ape nit, ape nl]) _ _ 0 _ _ _ rfl (aoI _) start at2 (ItemsOf.nil _) fun s' ys c mv at' its => ?_
 have go : ∀ b o, b ≠ it -> s.heap.get? b = some o -> s'.heap.get? b = some o := fun b o nb e =>
  mv.heap b o (by simp [nb]; exact below b o e) (stay b o e)
 rw [Moved.eq_with mv]
 exact ⟨rfl, q s'.heap s'.toks ys c go at' its⟩
end
theorem ahl {its : List Value} {acc : Array Value} (h : ItemsOf (fun i v => its.toArray[its.toArray.size - 1 - i]? = some v) acc its.toArray.size) : acc.toList = its.reverse := by
 obtain ⟨h1, h2⟩ := h
 have h1' : acc.toList.length = its.length := by simpa using h1
 refine aqo fun j => ?_
 by_cases hj : j < its.length
 ·have hj' : j < acc.size := by rw [h1]; simpa using hj
  have := h2 j acc[j] (apP hj')
  rw [List.getElem?_reverse hj, aqn, apP hj', <- this]
  simp
 ·rw [aov (by omega), aov (by rw [apC]; omega)]
def alD (K : anS) (te : TE) : TE := fun σ H Q => zW te yP σ H fun vs H1 => ∃ a ys, vs = [.ref a] /\ SqL K H1 a ys /\ ∀ l, H1 l = none -> Q (.ref l) (upd H1 l (.lst ys.reverse))
section
variable {X : Cx} {x y : Str} {p p2 pos pos2 : Pos} {e : Expr} {te : TE}
theorem ae1 {K : anS} (hK : X.K = K) (hc : X.calm = true) (hg : Gl X x) (hm : X.mg x = none) (hv : bootBuiltins x = some (.type "list")) (hg2 : Gl X y) (hm2 : X.mg y = none) (hv2 : bootBuiltins y = some (.type "reversed")) (ha : PE X e te)
  (hs : starEach [e] X.env = (false, eval e X.env) :: starEach [] X.env := by rfl)
  (hn : x ≠ "__name__" := by decide) (hdb : (x == ("__debug__" : Str)) = false := by decide) (hn2 : y ≠ "__name__" := by decide) (hdb2 : (y == ("__debug__" : Str)) = false := by decide)
  (he : starEach [.Call (.Name y p2) [e] [] pos2] X.env = (false, eval (.Call (.Name y p2) [e] [] pos2) X.env) :: starEach [] X.env := by rfl) :
  PE X (.Call (.Name x p) [.Call (.Name y p2) [e] [] pos2] [] pos) (alD K te) := by
 subst hK
 intro pins s σ H Q I h
 refine wpAny_Call_Name_kw (qc I hg hm hv ?_ hn hdb)
 refine ao0 ?_ he rfl
 rw [he]
 show wpAny _ _ (spliced ((false, eval (.Call (.Name y p2) [e] [] pos2) X.env) :: backTo pos (starEach [] X.env))) _ _ s
 refine Calls.spliced_cons ?_
 refine wpAny_Call_Name_kw (qc I hg2 hm2 hv2 ?_ hn2 hdb2)
 refine ao0 (thn (zc ha zh hs pos2 pins s σ H _ I h) fun us s1 ⟨vs, H1, I1, r1, q1⟩ => ?_) hs rfl
 obtain ⟨a, ys, rfl, hq, q⟩ := q1
 obtain ⟨u, rfl, rx⟩ := vals1 r1
 cases rx
 obtain ⟨its, rv, pl, hz⟩ := I1.list hq
 have hl := pl.isList
 have lt : a < s1.heap.objs.size := by
  obtain ⟨o, ho, _⟩ := hl
  exact aoc ho
 refine call_reversed_list hl ?_
 refine Calls.spliced_nil ?_
 refine abM (show (X.A).handled = none from I1.ok.hd hc) (xs := its.toArray) (aoB lt) ⟨_, aoi _ rfl, rfl, rfl⟩ (hl.at fun o e => anV _ e) (by rw [aod, <- rv.length]; exact hz) fun h' tk acc' c' hk hS' hacc => ?_
 have kp : ∀ b o, s1.heap.get? b = some o -> h'.get? b = some o := fun b o e => hk b o (fun z => by
  have := aoc e
  rw [z] at this
  exact ao5 _ this) (anV _ e)
 have sz : (s1.heap.push (revObj a ((its.toArray.size : Int) - 1))).objs.size = s1.heap.objs.size + 1 := by simp [Heap.push]
 have ea := ahl hacc
 refine ⟨.ref _, _, I1.laid (a := (s1.heap.push (revObj a ((its.toArray.size : Int) - 1))).objs.size) (t' := tk) kp (by rw [sz]; exact aqN _) (o := .lst ys.reverse) ?_, rfl, q _ (I1.hok.fresh (by rw [sz]; exact aqN _))⟩
 refine ⟨by rw [apC]; exact hz, its.reverse, c', rv.reverse, ?_⟩
 rw [<- ea]
 exact hS'
end
section
variable {K : anS} {f : Fx} {ρ : zy} {P : PyData -> Prop} {te : TE}
theorem aiI {H : Hp} {ds : List PyData} {xs : List V} (r : Reps K H ds xs) : Reps K H ds.reverse xs.reverse := by
 induction ds generalizing xs with
 | nil =>
  rw [reps_nil.mp r]
  exact reps_nil.mpr rfl
 | cons d ds ih =>
  obtain ⟨x, r', rfl, h1, h2⟩ := reps_cons.mp r
  rw [apz, apz]
  exact (ih h2).append (reps_cons.mpr ⟨x, [], rfl, h1, reps_nil.mpr rfl⟩)
theorem ahm (h : PEd K f te ρ fun x => ∃ ds, x = .list ds /\ P (.list ds.reverse)) : PEd K f (alD K te) ρ P := fun σ H Q e q => h σ H _ e fun x v H1 g1 r1 ⟨ds, ex, p⟩ => by
 subst ex
 obtain ⟨a, xs, rfl, h1, h2⟩ := rep_list.mp r1
 refine ⟨a, xs, rfl, (zo _ _).seq h1, fun l hn => ?_⟩
 have sm := zZ hn (.lst xs.reverse)
 have g2 : Goes f H1 (upd H1 l (.lst xs.reverse)) := .of_same sm g1.2
 exact q (.list ds.reverse) _ _ (g1.trans g2) (rep_list.mpr ⟨l, xs.reverse, rfl, .of (zD (fresh_ne g1.2 hn) zA), Reps.mono g2.1 _ _ (aiI h2)⟩) p
end
def amu (K : anS) : List V -> Hp -> VK -> Prop := fun xs H Q => ∃ (a : Addr) (ns : List Int), xs = [.ref a] /\ SqL K H a (ns.map V.int) /\ Q (.int ns.sum) H
theorem ahn {X : Cx} (hc : X.calm = true) : z6 X (.builtin "sum") (amu X.K) := by
 intro pins s σ H xs us Q I r h
 obtain ⟨a, ns, rfl, hq, q⟩ := h
 obtain ⟨u, rfl, r1⟩ := vals1 r
 cases r1
 obtain ⟨its, rv, p, _⟩ := I.list hq
 have hl := p.isList
 have hi : IntsAre its ns := intsAre_of rv
 obtain ⟨zs, ez⟩ := hi.allInts.items
 rw [ez] at hl
 refine sum_intListG (show (X.A).handled = none from I.ok.hd hc) hl fun h' tk t' kp => ⟨.int _, H, I.kept (t' := tk) kp, ⟨_, rfl⟩, ?_⟩
 have e : preSum (numAt zs) zs.size = ns.sum := by
  rw [<- hi.numsOf, show its = its.toArray.toList from rfl, ez, nums_intItems, preSum_eq, apF (by simp)]
 rw [e]
 exact q
theorem abd {X : Cx} {K : anS} (hK : X.K = K) (hc : X.calm = true) : z6 X (.builtin "sum") (amu K) := hK ▸ ahn hc
section
variable {K : anS} {f : Fx} {ρ : zy} {P : PyData -> Prop} {te : TE}
theorem alE (h : PEd K f te ρ fun x => ∃ ns : List Int, x = .list (ns.map .int) /\ P (.int ns.sum)) : PEd K f (tCB (amu K) (zW te yP)) ρ P := fun σ H Q e q => h σ H _ e fun x v H1 g1 r1 ⟨ns, ex, p⟩ => by
 subst ex
 obtain ⟨a, xs, rfl, h1, h2⟩ := rep_list.mp r1
 rw [h2.ints] at h1
 exact ⟨a, ns, rfl, (zo _ _).seq h1, q _ _ H1 g1 (rep_int.mpr rfl) p⟩
end
section
variable {prog : Program} {w : World} {A : Around} {E : Value -> Shared -> Prop} {s : Shared}
theorem akk {t b : Addr} {vs ws : List Value} {Q : Value -> Shared -> Prop} (ht : PlainL s.heap t vs.toArray) (hb : PlainL s.heap b ws.toArray)
  (h2 : Q (.ref s.heap.objs.size) { s with heap := s.heap.push { cls := .type "list", data := .seq (vs ++ ws).toArray } })
  (hsz : vs.length + ws.length <= sizeLine) : wpAny (model prog w) A (binaryOp .Add (.ref t) (.ref b)) Q E s := by
 obtain ⟨⟨cls, dd, data, sl⟩, n, ho, hc, _, hd⟩ := ht
 obtain ⟨⟨cls2, dd2, data2, sl2⟩, n2, ho2, hc2, _, hd2⟩ := hb
 simp only at hc hd hc2 hd2
 subst hc hd hc2 hd2
 have e : vs.toArray ++ ws.toArray = (vs ++ ws).toArray := by simp
 refine concat_meets ⟨_, ho, rfl⟩ ⟨_, ho2, rfl⟩ noFill_list_add seq_list_add PySem.F.slot_list_add PySem.F.entry_list_add (PySem.F.args_list_add_2 _ _) (list_addW t b vs.toArray ws.toArray n n2 dd dd2 sl sl2 (by rw [aod, aod]; exact hsz)) ⟨ho, ho2, ?_⟩
 rw [e]
 exact h2
end
def aiJ (K : anS) : R2 := fun x y H Q => ∃ l b xs zs, x = .ref l /\ y = .ref b /\ SqL K H l xs /\ SqL K H b zs /\ xs.length + zs.length <= sizeLine /\ ∀ p, H p = none -> Q (.ref p) (upd H p (.lst (xs ++ zs)))
section
variable {X : Cx}
theorem akl : OpR X (binaryOp .Add) (aiJ X.K) := by
 intro pins s σ H x y v u Q I rx ry h
 obtain ⟨l, b, xs, zs, rfl, rfl, ha, hb, hz, q⟩ := h
 cases rx
 cases ry
 obtain ⟨its, r1, p1, _⟩ := I.list ha
 obtain ⟨its2, r2, p2, _⟩ := I.list hb
 refine akk p1 p2 ?_ (by rw [<- r1.length, <- r2.length]; exact hz)
 exact ⟨.ref _, _, I.lnew (t' := s.toks) (r1.append r2) (by rw [aoh]; omega), rfl, q _ I.fresh⟩
theorem vF {K : anS} (hK : X.K = K) : OpR X (binaryOp .Add) (aiJ K) := hK ▸ akl
end
section
variable {K : anS} {f : Fx} {ρ : zy} {P : PyData -> Prop} {te ta tb : TE} {t : TA}
theorem acP (h : PEd K f ta ρ fun x => ∃ ds, x = .list ds /\ PEd K f tb ρ fun y => ∃ es, y = .list es /\ ds.length + es.length <= 1000 /\ P (.list (ds ++ es))) : PEd K f (tOp (aiJ K) ta tb) ρ P := fun σ H Q e q =>
 h σ H _ e fun x v H1 g1 r1 ⟨ds, ex, p1⟩ => p1 σ H1 _ (e.mono g1) fun y w H2 g2 r2 ⟨es, ey, hl, p2⟩ => by
  subst ex ey
  obtain ⟨a, xs, rfl, h1, h2⟩ := rep_list.mp (Rep.mono g2.sm _ _ r1)
  obtain ⟨b, ys, rfl, h3, h4⟩ := rep_list.mp r2
  have l1 := h2.length
  have l2 := h4.length
  refine ⟨a, b, xs, ys, rfl, rfl, (zo _ _).seq h1, (zo _ _).seq h3, by rw [l1, l2]; exact apj (yg hl), fun p hn => ?_⟩
  have g3 : Goes f H2 (upd H2 p (.lst (xs ++ ys))) := .of_same (zZ hn _) g2.ok
  exact q (.list (ds ++ es)) _ _ (g1.trans (g2.trans g3)) (rep_list.mpr ⟨p, _, rfl, .of (zD (fresh_ne g2.ok hn) zA), Reps.mono g3.sm _ _ (h2.append h4)⟩) p2
theorem adT {R : List PyData -> Prop} (h : PAd K f t ρ fun xs => ∃ ds, jV xs = some ds /\ ds.length <= 1000 /\ R ds) : PEdO K f (aij t) ρ R := fun σ H Q e q =>
 h σ H _ e fun xs vs H1 g1 r1 ⟨ds, ea, hl, p⟩ => by
  have rs := qh r1 ea
  refine ⟨by rw [rs.length]; exact apj (yg hl), fun l hn => ?_⟩
  have g2 : Goes f H1 (upd H1 l (.lst vs)) := .of_same (zZ hn _) g1.2
  have nl := fresh_ne g1.2 hn
  refine q ds l vs _ (g1.trans g2) (g1.free e.fd hn) zA (Reps.mono (fun b o hb => ?_) _ _ rs) p
  have hb' := zO hb
  have hbl : b ≠ l := fun z => by
   have := hb'.2
   rw [z, hn] at this
   cases this
  refine zD (fun z => ?_) (by rw [zI hbl]; exact hb'.2)
  rcases z with z | z
  ·exact hb'.1 (.inl z)
  ·rcases aoa.mp z with z | z
   ·exact hbl z
   ·exact hb'.1 (.inr z)
theorem amv {tl th : TO} (h : PEd K f te ρ fun x => ∃ ds, x = .tuple ds /\ POd K f tl ρ fun lo => POd K f th ρ fun hi => ¬ (HT.sIx ds.length 0 lo = 0 /\ HT.sIx ds.length ds.length hi = ds.length) /\ P (.tuple (L2.cutD ds lo hi))) : PEd K f (tSl (ama K) te tl th) ρ P := fun σ H Q e q =>
 h σ H _ e fun x v H1 g1 r1 ⟨ds, ex, p1⟩ => p1 σ H1 _ (e.mono g1) fun lo H2 g2 p2 => p2 σ H2 _ ((e.mono g1).mono g2) fun hi H3 g3 ⟨nw, p3⟩ => by
  subst ex
  have gg := g1.trans (g2.trans g3)
  obtain ⟨a, xs, rfl, h1, h2⟩ := rep_tuple.mp (Rep.mono (g2.trans g3).sm _ _ r1)
  refine ⟨a, xs, rfl, (zo _ _).seqT h1, by rw [h2.length]; exact nw, fun p hn => ?_⟩
  have g4 : Goes f H3 (upd H3 p (.tup (abH xs lo hi))) := .of_same (zZ hn _) g3.ok
  exact q _ _ _ (gg.trans g4) (rep_tuple.mpr ⟨p, _, rfl, .of (zD (fresh_ne g3.ok hn) zA), Reps.mono g4.sm _ _ h2.cut⟩) p3
end
def spN {γ : Type} (K : anS) (n : Nat) (pre : γ -> List DV -> Prop) (post : γ -> List PyData -> Prop) : Sp := fun vs H Q _ => ∃ f xs c, RepVs K f H xs vs /\ xs.length = n /\ FOk f H /\ pre c xs /\
 ∀ es D vs' H', Goes f H H' -> H D = none -> H' D = some (.lst vs') -> Reps K (hide H' (f.with D)) es vs' -> post c es -> Q (.ref D) H'
def PSn (K : anS) (f : Fx) (ts : TS) (ρ : zy) (R : List PyData -> Prop) : Prop := ∀ (σ : St) (H : Hp) (E : Ends), EnvOk K f ρ σ H ->
 (∀ es D vs H', Goes f H H' -> H D = none -> H' D = some (.lst vs) -> Reps K (hide H' (f.with D)) es vs -> R es -> E.rt (.ref D) H') -> ts E σ H
section
variable {K : anS} {f : Fx} {ρ : zy} {R : List PyData -> Prop} {te : TE} {ts tu : TS} {tt : TT} {t : TA} {i : Nat} {D : Addr} {es : List PyData} {O : OEnds}
theorem adU (h : PEdO K f te ρ R) : PSn K f (aeJ te) ρ R := fun σ H E e q => h σ H E.rt e q
theorem abe (h : PSd K f ts ρ { nx := fun ρ' => PSn K f tu ρ' R, rt := fun _ => False }) : PSn K f (vj ts tu) ρ R := fun σ H E e q =>
 h σ H _ e (fun ρ' σ' H' g' e' p => p σ' H' E e' fun es D vs H2 g2 hn h1 rs r => q es D vs H2 (g'.trans g2) (g'.free e.fd hn) h1 rs r) (fun _ _ _ _ _ z => z.elim) (fun _ _ _ _ _ z => z.elim) (fun _ _ _ _ _ z => z.elim)
theorem alF (h : PTd K f tt ρ fun b => if b = true then PEdO K f te ρ R else PSn K f tu ρ R) : PSn K f (vj (agW tt (aeJ te) afH) tu) ρ R := fun σ H E e q =>
 h σ H _ e fun b H1 g1 p => by
  have q1 : ∀ es D vs H', Goes f H1 H' -> H1 D = none -> H' D = some (.lst vs) -> Reps K (hide H' (f.with D)) es vs -> R es -> E.rt (.ref D) H' := fun es D vs H' g' hn => q es D vs H' (g1.trans g') (g1.free e.fd hn)
  cases b with
  | true => rw [if_pos rfl] at p ⊢; exact p σ H1 E.rt (e.mono g1) q1
  | false => rw [if_neg anR] at p ⊢; exact p σ H1 E (e.mono g1) q1
theorem abf {γ : Type} {n : Nat} {pre : γ -> List DV -> Prop} {post : γ -> List PyData -> Prop} {E : XK} (c : γ) (h : PAd K f t ρ fun xs => xs.length = n /\ pre c xs /\ ∀ es, post c es -> R es) : PEdO K f (aa2 (spN K n pre post) [] E t) ρ R := fun σ H Q e q =>
 h σ H _ e fun xs vs H1 g1 r1 ⟨hl, hp, k⟩ => ⟨f, xs, c, by rw [aoN]; exact r1, hl, g1.2, hp, fun es D vs' H' g' hn h1 rs p => q es D vs' H' (g1.trans g') (g1.free e.fd hn) h1 rs (k es p)⟩
theorem alG {ta tb : TE} (h : PTd K f tt ρ fun b => if b = true then PEdO K f ta ρ R else PEdO K f tb ρ R) : PEdO K f (tIf tt ta tb) ρ R := fun σ H Q e q =>
 h σ H _ e fun b H1 g1 p => by
  have q1 : ∀ es D vs H', Goes f H1 H' -> H1 D = none -> H' D = some (.lst vs) -> Reps K (hide H' (f.with D)) es vs -> R es -> Q (.ref D) H' := fun es D vs H' g' hn => q es D vs H' (g1.trans g') (g1.free e.fd hn)
  cases b with
  | true => rw [if_pos rfl] at p ⊢; exact p σ H1 Q (e.mono g1) q1
  | false => rw [if_neg anR] at p ⊢; exact p σ H1 Q (e.mono g1) q1
end
section
variable {P : Program} {w : World} {K : anS} {mg : Str -> Option Value} {base : Heap} {k : Nat} {x : Str} {st : Stmt} {ps : List Str} {N : List Str} {n : Nat} {γ : Type} {pre : γ -> List DV -> Prop} {post : γ -> List PyData -> Prop}
theorem Def.okN (F : Def K mg x st ps) (S : FnScope N ps (zr st)) (hn : ps.length = n)
  (h : ∀ (fa : Addr) (cdv : Value) (A : Around) (outer : List Env) (s : Shared) (H : Hp) (E : XK), Room k (A.deeper (envOfC x (zr st) s.heap.objs.size fa cdv)) ->
   ∃ t, PSs (yf CX0 P w K mg base N x (zr st) fa cdv A outer s H E).nox (yS st) t /\ ∀ (f : Fx) (xs : List DV) (c : γ), xs.length = n -> pre c xs -> PSn K f t (qD N xs) (post c)) :
  FnIn P w K mg base (k + 1) x ps (spN K n pre post) := by
 obtain ⟨fa, fd, F1, F2, F3⟩ := F.ex
 refine ⟨fa, fd, F1.ok S (fun vs H Q E h => ?_) (fun cdv A outer s H vs Q E hr hs => ?_), F3, F1.kp, F2⟩
 ·obtain ⟨f, xs, c, r, hl, _⟩ := h
  rw [r.length, hl, hn]
 ·obtain ⟨f, xs, c, r, hl, fo, hp, q⟩ := hs
  obtain ⟨t, h1, h2⟩ := h fa cdv A outer s H E hr
  exact ⟨t, h1, h2 f xs c hl hp (start N vs) H _ (qN r fo) (fun es D vs' H' g hn' h1' rs p => q es D vs' H' g hn' h1' rs p)⟩
end
end L2
end
section
namespace L2
open PySem PySem.W PyProof.Rows
structure Tot (n : Nat) (lt : Nat -> Nat -> Bool) : Prop where
 tri : ∀ i j, i < n -> j < n -> i ≠ j -> lt i j = !lt j i
 tra : ∀ i j k, i < n -> j < n -> k < n -> lt i j = true -> lt j k = true -> lt i k = true
def Ans (cmp : Nat -> Nat -> (Bool -> Shared -> Prop) -> Shared -> Prop) (n : Nat) (lt : Nat -> Nat -> Bool) (s : Shared) : Prop := ∀ i j C, i < n -> j < n -> C (lt i j) s -> cmp i j C s
def Pm (n : Nat) (p : Array Nat) : Prop := p.toList.Perm (aoq n)
def Up (lt : Nat -> Nat -> Bool) (p : Array Nat) (m : Nat) : Prop := ∀ i j, i < j -> j < m -> lt (p.getD i 0) (p.getD j 0) = true
def Dn (lt : Nat -> Nat -> Bool) (p : Array Nat) (m : Nat) : Prop := ∀ i j, i < j -> j < m -> lt (p.getD j 0) (p.getD i 0) = true
theorem Pm.size {n : Nat} {p : Array Nat} (h : Pm n p) : p.size = n := by
 have := h.length_eq
 rwa [aok, apn] at this
theorem jH (p : Array Nat) (i : Nat) : p.getD i 0 = p.toList.getD i 0 := by
 by_cases h : i < p.size <;> simp [aqh, h, List.getD]
theorem Pm.lt {n : Nat} {p : Array Nat} (h : Pm n p) {i : Nat} (hi : i < n) : p.getD i 0 < n := by
 have hs := h.size
 have hl : i < p.toList.length := by rw [aok, hs]; exact hi
 rw [jH, anU, anP hl]
 exact aoK.mp (h.mem_iff.mp (aot hl))
theorem Pm.ne {n : Nat} {p : Array Nat} (h : Pm n p) {i j : Nat} (hi : i < n) (hj : j < n) (ne : i ≠ j) : p.getD i 0 ≠ p.getD j 0 := by
 have hs := h.size
 have nd : p.toList.Nodup := h.nodup_iff.mpr arM
 have li : i < p.toList.length := by rw [aok, hs]; exact hi
 have lj : j < p.toList.length := by rw [aok, hs]; exact hj
 rw [jH, jH, anU, anU, anP li, anP lj]
 intro e
 exact ne ((aqY nd).mp e)
theorem Pm.range (n : Nat) : Pm n (ao7 (aoq n)) := List.Perm.refl _
theorem Pm.of {n : Nat} {p q : Array Nat} (h : Pm n p) (e : q.Perm p) : Pm n q := (Array.perm_iff_toList_perm.mp e).trans h
theorem af2 {p q : Array Nat} {i j : Nat} (h : p[i]? = q[j]?) : p.getD i 0 = q.getD j 0 := by
 rw [apG, apG, h]
section
variable {cmp : Nat -> Nat -> (Bool -> Shared -> Prop) -> Shared -> Prop} {n : Nat} {lt : Nat -> Nat -> Bool} {s : Shared} {p : Array Nat}
theorem Up.more (T : Tot n lt) (hp : Pm n p) {m : Nat} (h1 : 1 <= m) (hm : m < n) (u : Up lt p m) (h : lt (p.getD (m - 1) 0) (p.getD m 0) = true) : Up lt p (m + 1) := fun i j hij hj => by
 by_cases e : j = m
 ·subst e
  by_cases e2 : i = j - 1
  ·subst e2; exact h
  ·exact T.tra _ _ _ (hp.lt (by omega)) (hp.lt (by omega)) (hp.lt hm) (u i (j - 1) (by omega) (by omega)) h
 ·exact u i j hij (by omega)
theorem Dn.more (T : Tot n lt) (hp : Pm n p) {m : Nat} (h1 : 1 <= m) (hm : m < n) (u : Dn lt p m) (h : lt (p.getD m 0) (p.getD (m - 1) 0) = true) : Dn lt p (m + 1) := fun i j hij hj => by
 by_cases e : j = m
 ·subst e
  by_cases e2 : i = j - 1
  ·subst e2; exact h
  ·exact T.tra _ _ _ (hp.lt hm) (hp.lt (by omega)) (hp.lt (by omega)) h (u i (j - 1) (by omega) (by omega))
 ·exact u i j hij (by omega)
theorem aaJ (T : Tot n lt) (W : Ans cmp n lt s) (hp : Pm n p) {Q : Nat -> Shared -> Prop} : ∀ f m, 1 <= m -> m + f <= n -> Up lt p m -> (∀ m', m <= m' -> m' <= m + f -> Up lt p m' -> (m' = m + f \/ lt (p.getD m' 0) (p.getD (m' - 1) 0) = true) -> Q m' s) -> (kas_asc p f m).kasWp cmp Q s
 | 0, m, h1, hf, u, q => q m (anW _) (anW _) u (.inl rfl)
 | f + 1, m, h1, hf, u, q => by
  refine W _ _ _ (hp.lt (by omega)) (hp.lt (by omega)) ?_
  cases e : lt (p.getD m 0) (p.getD (m - 1) 0) with
  | true => exact q m (anW _) (by omega) u (.inr e)
  | false =>
   have e2 : lt (p.getD (m - 1) 0) (p.getD m 0) = true := by
    rw [T.tri _ _ (hp.lt (by omega)) (hp.lt (by omega)) (hp.ne (by omega) (by omega) (by omega)), e]
    rfl
   exact aaJ T W hp f (m + 1) (by omega) (by omega) (u.more T hp h1 (by omega) e2) fun m' a b c d => q m' (by omega) (by omega) c (d.imp (fun z => by omega) id)
theorem adV (T : Tot n lt) (W : Ans cmp n lt s) (hp : Pm n p) {Q : Array Nat × Nat × Nat -> Shared -> Prop} : ∀ f m, 1 <= m -> m + f <= n -> Dn lt p m -> (∀ m', m <= m' -> m' <= m + f -> Dn lt p m' -> Q (p, m', 0) s) -> (kas_desc f p m 0).kasWp cmp Q s
 | 0, m, h1, hf, u, q => q m (anW _) (anW _) u
 | f + 1, m, h1, hf, u, q => by
  refine W _ _ _ (hp.lt (by omega)) (hp.lt (by omega)) ?_
  cases e : lt (p.getD m 0) (p.getD (m - 1) 0) with
  | true => exact adV T W hp f (m + 1) (by omega) (by omega) (u.more T hp h1 (by omega) e) fun m' a b c => q m' (by omega) (by omega) c
  | false =>
   have e2 : lt (p.getD (m - 1) 0) (p.getD m 0) = true := by
    rw [T.tri _ _ (hp.lt (by omega)) (hp.lt (by omega)) (hp.ne (by omega) (by omega) (by omega)), e]
    rfl
   refine W _ _ _ (hp.lt (by omega)) (hp.lt (by omega)) ?_
   rw [e2]
   exact q m (anW _) (by omega) u
theorem amw {m : Nat} (hm : m <= p.size) (d : Dn lt p m) : Up lt (kas_rev p 0 m) m := fun i j hij hj => by
 have g : ∀ k, k < m -> (kas_rev p 0 m).getD k 0 = p.getD (m - 1 - k) 0 := fun k hk => af2 (by
  unfold kas_rev
  rw [getElem?_mirror_all hm, if_pos ⟨aoI _, hk⟩, arU])
 rw [g i (by omega), g j hj]
 exact d _ _ (by omega) (by omega)
theorem aho (T : Tot n lt) (W : Ans cmp n lt s) (hp : Pm n p) (hn : 1 <= n) {Q : Nat × Array Nat -> Shared -> Prop} (q : ∀ m p', 1 <= m -> m <= n -> Pm n p' -> Up lt p' m -> Q (m, p') s) : (kas_count n p).kasWp cmp Q s := by
 unfold kas_count
 rw [KasT.kasWp_bind]
 refine aaJ T W hp (n - 1) 1 (anW _) (by omega) (fun i j a b => by omega) fun m h1 h2 u c => ?_
 by_cases e : (m == n) = true
 ·rw [if_pos e]
  exact q m p h1 (by omega) hp u
 ·rw [if_neg e]
  have hm : m < n := by
   have : m ≠ n := fun z => e (by rw [z]; exact beq_self_eq_true _)
   omega
  by_cases e2 : m > 1
  ·rw [if_pos e2]
   refine W _ _ _ (hp.lt (by omega)) (hp.lt (by omega)) ?_
   rw [u 0 (m - 1) (by omega) (by omega)]
   exact q m p h1 (by omega) hp u
  ·rw [if_neg e2]
   obtain rfl : m = 1 := by omega
   have c' : lt (p.getD 1 0) (p.getD (1 - 1) 0) = true := c.resolve_left (by omega)
   unfold kas_descPart
   rw [KasT.kasWp_bind]
   refine adV T W hp (n - (1 + 1)) (1 + 1) (by omega) (by omega) (Dn.more T hp (anW 1) hm (fun i j a b => by omega) c') fun m' a b d => ?_
   rw [if_neg (by show ¬ (0 > 0); omega)]
   unfold kas_tail3
   rw [KasT.kasWp_bind]
   have hp2 : Pm n (kas_rev p 0 m') := hp.of (mirror_perm _ _ _ _)
   exact aaJ T W hp2 (n - m') m' (by omega) (by omega) (amw (by rw [hp.size]; omega) d) fun m2 a2 b2 u2 _ => q m2 _ (by omega) (by omega) hp2 u2
theorem aaa (T : Tot n lt) (W : Ans cmp n lt s) (hp : Pm n p) {k : Nat} (hk : k < n) (u : Up lt p k) {Q : Nat -> Shared -> Prop} : ∀ f l r, r - l <= f -> l <= r -> r <= k -> (∀ i, i < l -> lt (p.getD i 0) (p.getD k 0) = true) -> (∀ i, r <= i -> i < k -> lt (p.getD k 0) (p.getD i 0) = true) ->
  (∀ m, m <= k -> (∀ i, i < m -> lt (p.getD i 0) (p.getD k 0) = true) -> (∀ i, m <= i -> i < k -> lt (p.getD k 0) (p.getD i 0) = true) -> Q m s) -> (kas_place p k f l r).kasWp cmp Q s
 | 0, l, r, hf, hlr, hr, lo, hi, q => by
  obtain rfl : l = r := by omega
  exact q l hr lo hi
 | f + 1, l, r, hf, hlr, hr, lo, hi, q => by
  unfold kas_place
  by_cases e : l >= r
  ·rw [if_pos e]
   obtain rfl : l = r := by omega
   exact q l hr lo hi
  ·rw [if_neg e]
   refine W _ _ _ (hp.lt hk) (hp.lt (by omega)) ?_
   have hm : (l + r) / 2 < k := by omega
   cases e2 : lt (p.getD k 0) (p.getD ((l + r) / 2) 0) with
   | true =>
    refine aaa T W hp hk u f l ((l + r) / 2) (by omega) (by omega) (by omega) lo (fun i h1 h2 => ?_) q
    by_cases e3 : i = (l + r) / 2
    ·rw [e3]; exact e2
    ·exact T.tra _ _ _ (hp.lt hk) (hp.lt (by omega)) (hp.lt (by omega)) e2 (u _ _ (by omega) h2)
   | false =>
    have e4 : lt (p.getD ((l + r) / 2) 0) (p.getD k 0) = true := by
     rw [T.tri _ _ (hp.lt (by omega)) (hp.lt hk) (hp.ne (by omega) hk (by omega)), e2]
     rfl
    refine aaa T W hp hk u f ((l + r) / 2 + 1) r (by omega) (by omega) hr (fun i h1 => ?_) hi q
    by_cases e3 : i = (l + r) / 2
    ·rw [e3]; exact e4
    ·exact T.tra _ _ _ (hp.lt (by omega)) (hp.lt (by omega)) (hp.lt hk) (u _ _ (by omega) hm) e4
theorem amx {k m : Nat} (hk : k < p.size) (hm : m <= k) (u : Up lt p k) (lo : ∀ i, i < m -> lt (p.getD i 0) (p.getD k 0) = true) (hi : ∀ i, m <= i -> i < k -> lt (p.getD k 0) (p.getD i 0) = true) : Up lt (bubble p k (k - m)) (k + 1) := fun i j hij hj => by
 have g : ∀ t, t <= k -> (bubble p k (k - m)).getD t 0 = p.getD (if t = m then k else if t < m then t else t - 1) 0 := fun t ht => af2 (by
  rw [getElem?_bubble hk (k - m) (by omega), show k - (k - m) = m by omega]
  by_cases e1 : t = m
  ·rw [if_pos e1, if_pos e1]
  ·rw [if_neg e1, if_neg e1]
   by_cases e2 : t < m
   ·rw [if_neg (by omega), if_pos e2]
   ·rw [if_pos (by omega), if_neg e2])
 rw [g i (by omega), g j (by omega)]
 by_cases a1 : i = m
 ·rw [if_pos a1, if_neg (by omega), if_neg (by omega)]
  exact hi _ (by omega) (by omega)
 ·rw [if_neg a1]
  by_cases a2 : j = m
  ·rw [if_pos a2, if_pos (by omega)]
   exact lo _ (by omega)
  ·rw [if_neg a2]
   by_cases a3 : i < m
   ·rw [if_pos a3]
    by_cases a4 : j < m
    ·rw [if_pos a4]; exact u _ _ hij (by omega)
    ·rw [if_neg a4]; exact u _ _ (by omega) (by omega)
   ·rw [if_neg a3, if_neg (by omega)]
    exact u _ _ (by omega) (by omega)
theorem af3 (T : Tot n lt) (W : Ans cmp n lt s) {Q : Array Nat -> Shared -> Prop} : ∀ f k (p : Array Nat), Pm n p -> k + f = n -> Up lt p k -> (∀ p', Pm n p' -> Up lt p' n -> Q p' s) -> (kas_bin f p k).kasWp cmp Q s
 | 0, k, p, hp, hf, u, q => by
  obtain rfl : k = n := by omega
  exact q p hp u
 | f + 1, k, p, hp, hf, u, q => by
  unfold kas_bin
  rw [KasT.kasWp_bind]
  refine aaa T W hp (by omega) u k 0 k (by omega) (aoI _) (anW _) (fun i hi => by omega) (fun i a b => by omega) fun m h1 lo hi => ?_
  exact af3 T W f (k + 1) _ (hp.of (bubble_perm _ _ _)) (by omega) (amx (by rw [hp.size]; omega) h1 u lo hi) q
theorem aiK (T : Tot n lt) (W : Ans cmp n lt s) (hn : 1 <= n) {Q : Array Nat -> Shared -> Prop} (q : ∀ p, Pm n p -> Up lt p n -> Q p s) : (kas_sort n).kasWp cmp Q s := by
 unfold kas_sort
 rw [KasT.kasWp_bind]
 refine aho T W (Pm.range n) hn fun m p h1 h2 hp u => ?_
 by_cases e : m < n
 ·show (if m < n then _ else _ : KasT (Array Nat)).kasWp cmp Q s
  rw [if_pos e, show max m 1 = m by omega]
  exact af3 T W (n - m) m p hp (by omega) u q
 ·show (if m < n then _ else _ : KasT (Array Nat)).kasWp cmp Q s
  rw [if_neg e]
  obtain rfl : m = n := by omega
  exact q p hp u
end
end L2
end
section
namespace L2
open PySem PySem.W PySem.Calls PyProof.Rows
theorem ab9 : ∀ f n r, r <= 1 -> minRun' f n r <= n + 1
 | 0, n, r, h => by show n + r <= n + 1; omega
 | f + 1, n, r, h => by
  rw [minRun'_succ]
  by_cases e : n < 64
  ·rw [if_pos e]; omega
  ·rw [if_neg e]
   have := ab9 f (n / 2) (max r (n % 2)) (by omega)
   omega
theorem ae2 {n : Nat} (h : 1 <= n) : minRun' n n 0 <= n := by
 obtain ⟨f, rfl⟩ : ∃ f, n = f + 1 := ⟨n - 1, by omega⟩
 rw [minRun'_succ]
 by_cases e : f + 1 < 64
 ·rw [if_pos e]; omega
 ·rw [if_neg e]
  have := ab9 f ((f + 1) / 2) (max 0 ((f + 1) % 2)) (by omega)
  omega
section
variable {P : Program} {w : World} {A : Around} {X : Value -> Shared -> Prop} {s : Shared} {κ : SortKind} {it : Array Keyed} {n : Nat} {lt : Nat -> Nat -> Bool} {Q : SortSt -> Shared -> Prop}
theorem akm (W : Ans (kas_cmp P w A κ it) n lt s) (T : Tot n lt) (h2 : 2 <= n) (up : ∀ i, i + 1 < n -> lt (i + 1) i = false)
  (q : ∀ st', arrOf st' = (ao7 (aoq n)).map (kas_item it) -> failedOf st' = none -> Q st' s) : kasC (model P w) A X sortRuns' (fun _ st' s' => Q st' s') (kas_st κ it (ao7 (aoq n))) s := by
 obtain ⟨r, rfl⟩ : ∃ r, n = r + 2 := ⟨n - 2, by omega⟩
 have sz : (ao7 (aoq (r + 2))).size = r + 2 := by simp
 have szA : (arrOf (kas_st κ it (ao7 (aoq (r + 2))))).size = r + 2 := by
  show (Array.map _ _).size = _
  rw [ase, sz]
 have mr := ae2 (n := r + 2) (by omega)
 have at_ : ∀ i, i < r + 2 -> (ao7 (aoq (r + 2))).getD i 0 = i := fun i hi => by simp [aqh, hi]
 have cnt : (kas_count (r + 2) (ao7 (aoq (r + 2)))).kasWp (kas_cmp P w A κ it) (fun z s' => z = (r + 2, ao7 (aoq (r + 2))) /\ s' = s) s := by
  unfold kas_count
  rw [KasT.kasWp_bind]
  refine aaJ T W (Pm.range _) (r + 2 - 1) 1 (anW _) (by omega) (fun i j a b => by omega) fun m a b u c => ?_
  have e : m = r + 2 := by
   rcases c with c | c
   ·omega
   ·by_cases hm : m < r + 2
    ·rw [at_ m hm, at_ (m - 1) (by omega)] at c
     have := up (m - 1) (by omega)
     rw [show m - 1 + 1 = m by omega, c] at this
     cases this
    ·omega
  subst e
  rw [if_pos (beq_self_eq_true _)]
  exact ⟨rfl, rfl⟩
 rw [sortRuns'_eq]
 apply kasC_bind; apply kasC_get
 simp only [szA]
 apply kasC_bind; apply kasC_range
 change kasC _ _ _ (forIn (0 :: 1 :: List.range' 2 r) _ _) _ _ _
 apply kasC_cons
 simp only [Nat.sub_zero, arU, show ¬ (0 >= r + 2) by omega, if_false]
 refine kasC_bind (kas_count_ (by omega) (aqg sz.symm) (fun m p' s' _ _ _ z => ?_) cnt)
 obtain ⟨z, rfl⟩ := z
 cases z
 simp only [show ¬ (r + 2 < minRun' (r + 2) (r + 2) 0) by omega, if_false]
 apply kasC_bind; apply kasC_get
 change kasC _ _ _ (modify (fun st => setPending st ((pendingOf st).push (0, r + 2, 0))) >>= _) _ _ _
 apply kasC_bind; apply kasC_modify; apply kasC_pure
 apply kasC_cons
 simp only [show r + 2 >= r + 2 from anW _, if_true]
 apply kasC_pure
 apply kasC_bind; apply kasC_range
 change kasC _ _ _ (forIn (0 :: 1 :: List.range' 2 r) _ _) _ _ _
 apply kasC_cons
 apply kasC_bind; apply kasC_get
 rw [if_pos (show (pendingOf (setPending (kas_st κ it (ao7 (aoq (r + 2)))) ((pendingOf (kas_st κ it (ao7 (aoq (r + 2))))).push (0, r + 2, 0)))).size <= 1 from anW 1)]
 apply kasC_pure
 exact kasC_pure (q _ rfl rfl)
theorem aiL (W : Ans (kas_cmp P w A κ it) n lt s) (T : Tot n lt) (h2 : 2 <= n) (hs : n < 64 \/ ∀ i, i + 1 < n -> lt (i + 1) i = false)
  (q : ∀ st' p, Pm n p -> Up lt p n -> arrOf st' = p.map (kas_item it) -> failedOf st' = none -> Q st' s) : kasC (model P w) A X sortRuns' (fun _ st' s' => Q st' s') (kas_st κ it (ao7 (aoq n))) s := by
 rcases hs with hs | hs
 ·exact kas_runs h2 hs (G := fun p s' => s' = s /\ Pm n p /\ Up lt p n) (fun p st' s' _ e f ⟨z, a, b⟩ => by subst z; exact q st' p a b e f) (aiK T W (by omega) fun p a b => ⟨rfl, a, b⟩)
 ·refine akm W T h2 hs fun st' e f => q st' _ (Pm.range n) (fun i j hij hj => ?_) e f
  have at_ : ∀ i, i < n -> (ao7 (aoq n)).getD i 0 = i := fun i hi => by simp [aqh, hi]
  rw [at_ i (by omega), at_ j hj]
  have key : ∀ d, i + d + 1 < n -> lt i (i + d + 1) = true := fun d => by
   induction d with
   | zero => intro hd; rw [T.tri _ _ (by omega) hd (by omega), hs i hd]; rfl
   | succ d ih =>
    intro hd
    refine T.tra _ (i + d + 1) _ (by omega) (by omega) hd (ih (by omega)) ?_
    rw [T.tri _ _ (by omega) hd (by omega), show i + (d + 1) + 1 = i + d + 1 + 1 by omega, hs (i + d + 1) (by omega)]
    rfl
  have := key (j - i - 1) (by omega)
  rwa [show i + (j - i - 1) + 1 = j by omega] at this
end
section
variable {P : Program} {w : World} {A : Around} {X : Value -> Shared -> Prop} {s : Shared} {κ : SortKind} {vs : List Value} {lt : Nat -> Nat -> Bool}
structure Asks (P : Program) (w : World) (A : Around) (s : Shared) (κ : SortKind) (vs : List Value) (lt : Nat -> Nat -> Bool) : Prop where
 kind : 2 <= vs.length -> ∀ (h' : Heap), (∀ b o, s.heap.get? b = some o -> h'.get? b = some o) -> ∀ R : SortKind -> Shared -> Prop, R κ { s with heap := h' } -> wpAny (model P w) A (keyKind' vs.toArray) R (fun _ _ => False) { s with heap := h' }
 less : ∀ (h' : Heap), (∀ b o, s.heap.get? b = some o -> h'.get? b = some o) -> Ans (kas_ask P w A κ vs) vs.length lt { s with heap := h' }
 ord : Tot vs.length lt
 few : vs.length < 64 \/ ∀ i, i + 1 < vs.length -> lt (i + 1) i = false
theorem akn {a : Addr} {e : Nat} {R : PySem.Fin -> Shared -> Prop} (hz : vs.length <= sizeLine) (ha : s.heap.get? a = some (seqObj "list" vs.toArray e)) {h0 : Heap} (h0s : ∀ b o, h0.get? b = some o -> b ≠ a /\ s.heap.get? b = some o) (K : Asks P w A { s with heap := h0 } κ vs lt)
  (q : ∀ (h' : Heap) p c, Pm vs.length p -> Up lt p vs.length -> (∀ b o, b ≠ a -> s.heap.get? b = some o -> h'.get? b = some o) -> h'.get? a = some (seqObj "list" (p.toList.map fun i => vs.getD i Value.none).toArray c) -> R (.done (.ret .none)) { s with heap := h' }) :
  wpAny (model P w) A (Builtin.«list.sort» ⟨[.ref a], []⟩) R X s := by
 let h1 := s.heap.update a (ap4 fun _ => (#[] : Array Value))
 obtain ⟨e1, a1⟩ : ∃ e1, h1.get? a = some (seqObj "list" #[] e1) := ⟨_, get?_update_seq ha fun _ => #[]⟩
 let h2' := (h1.push (seqObj "tuple" vs.toArray 0)).push (seqObj "list" #[] 0)
 have a2 : h2'.get? a = some (seqObj "list" #[] e1) := anV _ (anV _ a1)
 have k2 : ∀ b o, b ≠ a -> s.heap.get? b = some o -> h2'.get? b = some o := fun b o nb eb => anV _ (anV _ ((aoM _ _ (ape nb)).trans eb))
 have kz : ∀ b o, h0.get? b = some o -> h2'.get? b = some o := fun b o eb => k2 b o (h0s b o eb).1 (h0s b o eb).2
 rw [list_sort_plain]
 apply wpAny_bind; apply listItems_at ha rfl
 apply wpAny_bind; refine listUpdate_at ha rfl ?_ (by simpa using hz) (aoI _)
 apply wpAny_bind; apply seqEpoch_at a1 rfl
 apply wpAny_bind; refine wpAny_newTuple ?_ (by simpa using hz)
 apply wpAny_bind; refine wpAny_newList ?_ (aoI _)
 apply wpAny_holding
 dsimp only
 change wpAny _ A _ _ _ { s with heap := h2' }
 have st0 : SortSt.mk' κ (vs.toArray.zip vs.toArray) #[] 7 none = kas_st κ (pairsOf vs) (ao7 (aoq vs.length)) := by
  have z := kas_range (pairsOf vs)
  rw [pairsOf_size] at z
  unfold kas_st
  rw [z]
  rfl
 have fin : ∀ (st' : SortSt) (p : Array Nat), Pm vs.length p -> Up lt p vs.length -> arrOf st' = p.map (kas_item (pairsOf vs)) -> failedOf st' = none -> wpAny (model P w) A (do
   let sorted := (arrOf st').map (·.2)
   let touched := (<- seqEpoch a) != e1
   arL (.ref a) fun _ => sorted
   if let some e := failedOf st' then rule "list.sort.comparison-raised"; throw e
   if touched then rule "list.sort.modified"; raiseError "ValueError" "list modified during sort"
   ret .none) R X { s with heap := h2' } := fun st' p x1 x2 x3 x4 => by
  have out : (arrOf st').map (·.2) = (p.toList.map fun i => vs.getD i Value.none).toArray := by
   apply Array.toList_inj.mp
   rw [x3, Array.map_map, Array.toList_map]
   refine arh fun i _ => ?_
   show (kas_item (pairsOf vs) i).2 = _
   rw [kas_item_eq]
  dsimp only
  rw [out, x4]
  obtain ⟨c, a3⟩ : ∃ c, (h2'.update a (ap4 fun _ => (p.toList.map fun i => vs.getD i Value.none).toArray)).get? a = some (seqObj "list" (p.toList.map fun i => vs.getD i Value.none).toArray c) := ⟨_, get?_update_seq a2 fun _ => (p.toList.map fun i => vs.getD i Value.none).toArray⟩
  apply wpAny_bind; apply seqEpoch_at a2 rfl
  apply wpAny_bind
  refine listUpdate_at a2 rfl ?_ (aoI _) (by
   rw [aod, anQ, aok, x1.size]; omega)
  simp only [bne_self_eq_false, aoF, if_false]
  exact wpAny_pure (q _ p c x1 x2 (fun b o nb eb => (aoM _ _ (ape nb)).trans (k2 b o nb eb)) a3)
 by_cases h2 : vs.length < 2
 ·have two : vs.toArray.size < 2 := by rw [aod]; exact h2
  rw [if_pos two, if_pos two]
  apply wpAny_bind; apply wpAny_pure
  apply wpAny_bind
  rw [StateT.run_pure]
  apply wpAny_pure
  have z := kas_range (pairsOf vs)
  rw [pairsOf_size] at z
  exact fin _ (ao7 (aoq vs.length)) (Pm.range _) (fun i j x y => by omega) z.symm rfl
 have two : ¬ vs.toArray.size < 2 := by rw [aod]; exact h2
 rw [if_neg two, if_neg two]
 apply wpAny_bind
 refine wpAny_mono (K.kind (by omega) h2' kz (fun κ' s' => κ' = κ /\ s' = { s with heap := h2' }) ⟨rfl, rfl⟩) ?_ fun _ _ z => z.elim
 rintro κ' s' ⟨eκ, es⟩
 rw [eκ, es]
 have W := K.less h2' kz
 rw [kas_ask_eq] at W
 rw [st0]
 apply wpAny_bind
 refine wpAny_mono (aiL (Q := fun st' s' => s' = { s with heap := h2' } /\ ∃ p, Pm vs.length p /\ Up lt p vs.length /\ arrOf st' = p.map (kas_item (pairsOf vs)) /\ failedOf st' = none) W K.ord (by omega) K.few fun st' p x1 x2 x3 x4 => ⟨rfl, p, x1, x2, x3, x4⟩) ?_ fun _ _ z => z
 rintro ⟨⟨⟩, st'⟩ s' ⟨rfl, p, x1, x2, x3, x4⟩
 exact fin st' p x1 x2 x3 x4
theorem adW {l : Addr} {Q : Value -> Shared -> Prop} (hz : vs.length <= sizeLine) (hl : s.heap.IsList l vs.toArray) (K : Asks P w A.in1.in1 s κ vs lt)
  (q : ∀ (h' : Heap) D p c, Pm vs.length p -> Up lt p vs.length -> s.heap.objs.size <= D -> (∀ b o, s.heap.get? b = some o -> h'.get? b = some o) -> h'.get? D = some (seqObj "list" (p.toList.map fun i => vs.getD i Value.none).toArray c) -> Q (.ref D) { s with heap := h' }) :
  wpAny (model P w) A (call (.builtin "sorted") [.ref l]) Q X s := by
 let h1 := (s.heap.push (seqObj "list" #[] 0)).update s.heap.objs.size (ap4 (· ++ vs.toArray))
 have s1 : h1.objs.size = s.heap.objs.size + 1 := by rw [Heap.size_update, size_push']
 let h2' := h1.push (seqObj "list" vs.toArray 0)
 have at2 : h2'.get? (s.heap.objs.size + 1) = some (seqObj "list" vs.toArray 0) := by rw [<- s1]; exact aoi _ rfl
 have keep : ∀ b o, s.heap.get? b = some o -> b ≠ s.heap.objs.size + 1 /\ h2'.get? b = some o := fun b o eb => by
  have lb := aoc eb
  refine ⟨fun z => ?_, anV _ ((aoM _ _ fun z => ?_).trans (anV _ eb))⟩
  ·rw [z] at lb; exact ao5 _ (aqP lb (aqv _))
  ·rw [<- z] at lb; exact ao5 _ lb
 refine Calls.call_function_entry kind_sorted plain_sorted entry_sorted (args_sorted1 _) ?_
 unfold Builtin.«sorted»
 apply wpAny_bind (m := checkCount "sorted" 1 1 _); apply wpAny_pure
 apply wpAny_bind; refine collect_list hl ?_ hz
 apply wpAny_bind; refine wpAny_newList ?_ hz
 change wpAny _ _ _ _ _ { s with heap := h2' }
 rw [show Value.ref ((s.heap.push (seqObj "list" #[] 0)).update s.heap.objs.size (ap4 (· ++ vs.toArray))).objs.size = Value.ref (s.heap.objs.size + 1) from congrArg Value.ref s1]
 apply wpAny_bind; apply wpAny_holding
 refine wpAny_call_entry slot_list_sort ⟨_, at2, rfl⟩ entry_list_sort ?_ (args_list_sort _)
 refine akn (s := { s with heap := h2' }) hz at2 (h0 := s.heap) keep K fun h' p c x1 x2 x3 x4 => ⟨_, rfl, wpAny_pure ⟨_, rfl, ?_⟩⟩
 exact q h' _ p c x1 x2 (aqN _) (fun b o eb => x3 b o (keep b o eb).1 (keep b o eb).2) x4
end
mutual
def zE : PyData -> Bool
 | .int _ => true
 | .str s => (PyData.str s).canLay0
 | .tuple xs => zP xs
 | _ => false
def zP : List PyData -> Bool
 | [] => true
 | x :: xs => zE x && zP xs
end
mutual
def ltD : PyData -> PyData -> Bool
 | .int a, .int b => decide (a < b)
 | .str a, .str b => decide (a.cps.toList < b.cps.toList)
 | .tuple xs, .tuple ys => ltL xs ys
 | .int _, .str _ => true
 | .int _, .tuple _ => true
 | .str _, .tuple _ => true
 | _, _ => false
def ltL : List PyData -> List PyData -> Bool
 | [], [] => false
 | [], _ :: _ => true
 | _ :: _, [] => false
 | x :: xs, y :: ys => if aoo x y = true then ltL xs ys else ltD x y
end
mutual
def qH : PyData -> PyData -> Bool
 | .int _, .int _ => true
 | .str _, .str _ => true
 | .tuple xs, .tuple ys => vp xs ys
 | _, _ => false
def vp : List PyData -> List PyData -> Bool
 | [], _ => true
 | _ :: _, [] => true
 | x :: xs, y :: ys => if aoo x y = true then vp xs ys else qH x y
end
mutual
theorem yG : ∀ d : PyData, zE d = true -> d.canLay0 = true
 | .int _, _ => rfl
 | .str _, h => h
 | .tuple xs, h => by rw [PyData.canLay0]; exact abg xs (by rw [zE] at h; exact h)
 | .none, h => by cases h
 | .bool _, h => by cases h
 | .list _, h => by cases h
 | .dict _, h => by cases h
theorem abg : ∀ xs : List PyData, zP xs = true -> aoL xs = true
 | [], _ => rfl
 | x :: xs, h => by
  rw [zP, anZ] at h
  rw [aoL, yG x h.1, abg xs h.2]
  rfl
end
mutual
theorem aiM : ∀ a b : PyData, zE a = true -> zE b = true -> aoo a b = true -> a = b
 | .int a, .int b, _, _, h => by simpa [aoo] using h
 | .str a, .str b, _, _, h => by simpa [aoo] using h
 | .tuple xs, .tuple ys, h1, h2, h => by rw [af4 xs ys (by rw [zE] at h1; exact h1) (by rw [zE] at h2; exact h2) (by rw [aoo] at h; exact h)]
 | .int _, .str _, _, _, h => by simp [aoo] at h
 | .int _, .tuple _, _, _, h => by simp [aoo] at h
 | .str _, .int _, _, _, h => by simp [aoo] at h
 | .str _, .tuple _, _, _, h => by simp [aoo] at h
 | .tuple _, .int _, _, _, h => by simp [aoo] at h
 | .tuple _, .str _, _, _, h => by simp [aoo] at h
 | .none, _, h, _, _ => by cases h
 | .bool _, _, h, _, _ => by cases h
 | .list _, _, h, _, _ => by cases h
 | .dict _, _, h, _, _ => by cases h
 | .int _, .none, _, h, _ => by cases h
 | .int _, .bool _, _, h, _ => by cases h
 | .int _, .list _, _, h, _ => by cases h
 | .int _, .dict _, _, h, _ => by cases h
 | .str _, .none, _, h, _ => by cases h
 | .str _, .bool _, _, h, _ => by cases h
 | .str _, .list _, _, h, _ => by cases h
 | .str _, .dict _, _, h, _ => by cases h
 | .tuple _, .none, _, h, _ => by cases h
 | .tuple _, .bool _, _, h, _ => by cases h
 | .tuple _, .list _, _, h, _ => by cases h
 | .tuple _, .dict _, _, h, _ => by cases h
theorem af4 : ∀ xs ys : List PyData, zP xs = true -> zP ys = true -> aqm xs ys = true -> xs = ys
 | [], [], _, _, _ => rfl
 | [], _ :: _, _, _, h => by simp [aqm] at h
 | _ :: _, [], _, _, h => by simp [aqm] at h
 | x :: xs, y :: ys, h1, h2, h => by
  rw [zP, anZ] at h1 h2
  rw [aqm, anZ] at h
  rw [aiM x y h1.1 h2.1 h.1, af4 xs ys h1.2 h2.2 h.2]
end
theorem aaK {a b : PyData} (ha : zE a = true) (hb : zE b = true) : aoo a b = true ↔ a = b :=
 ⟨aiM a b ha hb, fun h => by subst h; exact asf a (yG a ha)⟩
theorem jY {x y : PyData} {xs ys : List PyData} (hx : zE x = true) (hy : zE y = true) [Decidable (x = y)] : ltL (x :: xs) (y :: ys) = if x = y then ltL xs ys else ltD x y := by
 rw [ltL]
 by_cases h : x = y
 ·rw [if_pos ((aaK hx hy).mpr h), if_pos h]
 ·rw [if_neg (fun z => h ((aaK hx hy).mp z)), if_neg h]
theorem aiN {a b : List Nat} (h : a ≠ b) : decide (a < b) = !decide (b < a) := by
 by_cases h1 : a < b
 ·rw [decide_eq_true h1, decide_eq_false (fun z => List.lt_irrefl a (List.lt_trans h1 z))]
  rfl
 ·have h2 : b < a := by
   have : b <= a := List.not_lt.mp h1
   rcases List.le_iff_lt_or_eq.mp this with z | z
   ·exact z
   ·exact absurd z.symm h
  rw [decide_eq_false h1, decide_eq_true h2]
  rfl
theorem amy {a b : Str} (h : a ≠ b) : a.cps.toList ≠ b.cps.toList := fun z => h (by
 cases a; cases b
 simp only [Str.mk.injEq] at *
 exact Array.toList_inj.mp z)
mutual
theorem ae3 : ∀ a b : PyData, zE a = true -> zE b = true -> a ≠ b -> ltD a b = !ltD b a
 | .int a, b, ha, hb, ne => by
  cases b with
  | int b =>
   rw [ltD, ltD]
   have : a ≠ b := fun z => ne (by rw [z])
   by_cases h : a < b
   ·rw [decide_eq_true h, decide_eq_false (by omega)]; rfl
   ·rw [decide_eq_false h, decide_eq_true (by omega)]; rfl
  | str b => simp [ltD]
  | tuple ys => simp [ltD]
  | none => cases hb
  | bool _ => cases hb
  | list _ => cases hb
  | dict _ => cases hb
 | .str a, b, ha, hb, ne => by
  cases b with
  | int b => simp [ltD]
  | str b =>
   rw [ltD, ltD]
   exact aiN (amy fun z => ne (by rw [z]))
  | tuple ys => simp [ltD]
  | none => cases hb
  | bool _ => cases hb
  | list _ => cases hb
  | dict _ => cases hb
 | .tuple xs, b, ha, hb, ne => by
  cases b with
  | int b => simp [ltD]
  | str b => simp [ltD]
  | tuple ys =>
   rw [ltD, ltD]
   rw [zE] at ha hb
   exact af5 xs ys ha hb fun z => ne (by rw [z])
  | none => cases hb
  | bool _ => cases hb
  | list _ => cases hb
  | dict _ => cases hb
 | .none, _, h, _, _ => by cases h
 | .bool _, _, h, _, _ => by cases h
 | .list _, _, h, _, _ => by cases h
 | .dict _, _, h, _, _ => by cases h
theorem af5 : ∀ xs ys : List PyData, zP xs = true -> zP ys = true -> xs ≠ ys -> ltL xs ys = !ltL ys xs
 | [], [], _, _, ne => absurd rfl ne
 | [], _ :: _, _, _, _ => by simp [ltL]
 | _ :: _, [], _, _, _ => by simp [ltL]
 | x :: xs, y :: ys, h1, h2, ne => by
  rw [zP, anZ] at h1 h2
  have := aoW (x = y)
  have := aoW (y = x)
  rw [jY h1.1 h2.1, jY h2.1 h1.1]
  by_cases e : x = y
  ·rw [if_pos e, if_pos e.symm]
   exact af5 xs ys h1.2 h2.2 fun z => ne (by rw [e, z])
  ·rw [if_neg e, if_neg (ape e)]
   exact ae3 x y h1.1 h2.1 e
end
mutual
theorem ae4 : ∀ a : PyData, zE a = true -> ltD a a = false
 | .int a, _ => by rw [ltD]; exact decide_eq_false (Int.lt_irrefl a)
 | .str a, _ => by rw [ltD]; exact decide_eq_false (List.lt_irrefl _)
 | .tuple xs, h => by rw [ltD]; rw [zE] at h; exact af6 xs h
 | .none, h => by cases h
 | .bool _, h => by cases h
 | .list _, h => by cases h
 | .dict _, h => by cases h
theorem af6 : ∀ xs : List PyData, zP xs = true -> ltL xs xs = false
 | [], _ => by rw [ltL]
 | x :: xs, h => by
  rw [zP, anZ] at h
  have := aoW (x = x)
  rw [jY h.1 h.1, if_pos rfl]
  exact af6 xs h.2
end
theorem lt_asymm {a b : PyData} (ha : zE a = true) (hb : zE b = true) (h : ltD a b = true) : a ≠ b := fun z => by
 subst z
 rw [ae4 a ha] at h
 cases h
mutual
theorem ae5 : ∀ a b c : PyData, zE a = true -> zE b = true -> zE c = true -> ltD a b = true -> ltD b c = true -> ltD a c = true
 | .int a, b, c, ha, hb, hc, h1, h2 => by
  cases b <;> first | (cases hb; done) | skip
  all_goals cases c <;> first | (cases hc; done) | skip
  all_goals first | (simp [ltD] at h1 h2 ⊢; omega) | (simp [ltD] at h1 h2 ⊢; done) | (simp [ltD] at h1; done) | (simp [ltD] at h2; done)
 | .str a, b, c, ha, hb, hc, h1, h2 => by
  cases b <;> first | (cases hb; done) | skip
  all_goals cases c <;> first | (cases hc; done) | skip
  all_goals first | (simp [ltD] at h1; done) | (simp [ltD] at h2; done) | (rw [ltD] at h1 h2 ⊢; exact decide_eq_true (List.lt_trans (of_decide_eq_true h1) (of_decide_eq_true h2))) | (simp [ltD] at h1 h2 ⊢; done)
 | .tuple xs, b, c, ha, hb, hc, h1, h2 => by
  cases b with
  | tuple ys =>
   cases c with
   | tuple zs =>
    rw [ltD] at h1 h2 ⊢
    rw [zE] at ha hb hc
    exact af7 xs ys zs ha hb hc h1 h2
   | int _ => simp [ltD] at h2
   | str _ => simp [ltD] at h2
   | none => cases hc
   | bool _ => cases hc
   | list _ => cases hc
   | dict _ => cases hc
  | int _ => simp [ltD] at h1
  | str _ => simp [ltD] at h1
  | none => cases hb
  | bool _ => cases hb
  | list _ => cases hb
  | dict _ => cases hb
 | .none, _, _, h, _, _, _, _ => by cases h
 | .bool _, _, _, h, _, _, _, _ => by cases h
 | .list _, _, _, h, _, _, _, _ => by cases h
 | .dict _, _, _, h, _, _, _, _ => by cases h
theorem af7 : ∀ xs ys zs : List PyData, zP xs = true -> zP ys = true -> zP zs = true -> ltL xs ys = true -> ltL ys zs = true -> ltL xs zs = true
 | [], ys, [], _, _, _, h1, h2 => by
  cases ys with
  | nil => exact h1
  | cons y ys => simp [ltL] at h2
 | [], _, _ :: _, _, _, _, _, _ => by rw [ltL]
 | _ :: _, [], _, _, _, _, h1, _ => by simp [ltL] at h1
 | _ :: _, _ :: _, [], _, _, _, _, h2 => by simp [ltL] at h2
 | x :: xs, y :: ys, z :: zs, p1, p2, p3, h1, h2 => by
  rw [zP, anZ] at p1 p2 p3
  have := aoW (x = y)
  have := aoW (y = z)
  have := aoW (x = z)
  rw [jY p1.1 p2.1] at h1
  rw [jY p2.1 p3.1] at h2
  rw [jY p1.1 p3.1]
  by_cases e1 : x = y
  ·rw [if_pos e1] at h1
   by_cases e2 : y = z
   ·rw [if_pos e2] at h2
    rw [if_pos (e1.trans e2)]
    exact af7 xs ys zs p1.2 p2.2 p3.2 h1 h2
   ·rw [if_neg e2] at h2
    rw [if_neg (fun q => e2 (e1.symm.trans q)), e1]
    exact h2
  ·rw [if_neg e1] at h1
   by_cases e2 : y = z
   ·rw [if_neg (fun q => e1 (q.trans e2.symm)), <- e2]
    exact h1
   ·rw [if_neg e2] at h2
    have h3 := ae5 x y z p1.1 p2.1 p3.1 h1 h2
    rw [if_neg (lt_asymm p1.1 p3.1 h3)]
    exact h3
end
end L2
end
section
namespace L2
open PySem PySem.Spec PyProof.Rows PySem.SeqAt
open PySem.AutoSeq1 (wpAny_loadPart')
open PySem.MeetsSeq PySem.MeetsSeq2 PySem.MeetsSeq3
def anr (A : Around) (s : Shared) (y x : Value) (b : Bool) : Prop :=
 ∀ (prog : Program) (w : World) (E : Value -> Shared -> Prop) (Q : Value -> Shared -> Prop), Q (.bool b) s -> wpAny (model prog w) A (richCompare .Lt y x) Q E s
inductive Lex (A : Around) (s : Shared) : List Value -> List Value -> Bool -> Prop where
 | nn : Lex A s [] [] false
 | nc {w ws} : Lex A s [] (w :: ws) true
 | cn {v vs} : Lex A s (v :: vs) [] false
 | eq {v w vs ws b} : EqAt A s v w true -> Lex A s vs ws b -> Lex A s (v :: vs) (w :: ws) b
 | lt {v w vs ws b} : EqAt A s v w false -> anr A s v w b -> Lex A s (v :: vs) (w :: ws) b
theorem acQ (l m : Addr) (xs ys : Array Value) (n n2 : Nat) (dd dd2 : Option Addr) (sl sl2 : Array (Option Value)) (c : Bool) :
  Meets (Builtin.«tuple.__lt__» ⟨[.ref l, .ref m], []⟩)
   (fun A R s => s.heap.get? l = some { cls := .type "tuple", dict := dd, data := .seq xs n, slots := sl } /\ s.heap.get? m = some { cls := .type "tuple", dict := dd2, data := .seq ys n2, slots := sl2 } /\
    Lex A.in1 s xs.toList ys.toList c /\ R (.ok (.ret (.bool c))) s) :=
 .of_wp fun prog w A R s h => by
  obtain ⟨hp, g, d, tk, os⟩ := s; obtain ⟨hl, hb, hx, h⟩ := h
  have f2 := AutoSeq1.sub_tuple_tuple
  wp_walk using wpAny_loadPart' hl, wpAny_loadPart' hb, wpAny_forIn_list _ (fun rest b s' => b.1 = none /\ s' = ⟨hp, g, d, tk, os⟩ /\ ∃ (vs ws : List Value), rest = vs.zip ws /\ Lex A.in1 ⟨hp, g, d, tk, os⟩ vs ws c /\ vs.length + ys.size = ws.length + xs.size) _
  case turn =>
   rintro ⟨y, x⟩ rest b s' ⟨hb', rfl, vs, ws, hz, lx, hn⟩
   cases lx with
   | nn => cases hz
   | nc => cases hz
   | cn => cases hz
   | eq he lx' =>
    rw [aqi] at hz
    cases hz
    refine wpAny_bind (he prog w _ _ ?_)
    wp_walk
    exact ⟨rfl, rfl, _, _, rfl, lx', by simp only [aoe] at hn; omega⟩
   | lt he hlt =>
    rw [aqi] at hz
    cases hz
    refine wpAny_bind (he prog w _ _ ?_)
    have hri := hlt prog w
    wp_walk using hri
    exact ⟨_, rfl, h⟩
  case fin =>
   rintro ⟨b1, b2⟩ s' ⟨hb', rfl, vs, ws, hz, lx, hn⟩
   simp only at hb'
   subst hb'
   have hv : decide (xs.size < ys.size) = c := by
    cases lx with
    | nn => simp only [apW] at hn; exact decide_eq_false (by omega)
    | nc => simp only [apW, aoe] at hn; exact decide_eq_true (by omega)
    | cn => simp only [apW, aoe] at hn; exact decide_eq_false (by omega)
    | eq _ _ => cases hz
    | lt _ _ => cases hz
   wp_walk
   rw [<- hv] at h
   exact ⟨_, rfl, by simpa [Builtin.Tuple.tupleCompareSizes] using h⟩
  case h => exact ⟨rfl, rfl, _, _, rfl, hx, by simp only [aok]; omega⟩
mutual
theorem abh : ∀ (da db : PyData) (A : Around) (s : Shared) (a b : Value) (as bs : List Addr), Reads s.heap a da as -> Reads s.heap b db bs -> zE da = true -> zE db = true -> qH da db = true ->
  A.units + max da.depth db.depth < cLine -> anr A s a b (ltD da db)
 | .int x, db, A, s, _, _, _, _, ra, rb, _, _, hc, hu => by
  cases ra with
  | int _ t =>
   cases db with
   | int y =>
    cases rb with
    | int _ u =>
     intro prog w E Q q
     exact HT.rcLt_int A s x t y u prog w E Q (by rw [ltD] at q; exact q)
   | _ => cases hc
 | .str x, db, A, s, _, _, _, _, ra, rb, _, _, hc, hu => by
  cases ra with
  | str _ t =>
   cases db with
   | str y =>
    cases rb with
    | str _ u =>
     intro prog w E Q q
     exact (PyProof.Rows.lt_str (by rw [ltD] at q; exact q) : wpAny (model prog w) A (compareOp .Lt (.str x t) (.str y u)) Q E s)
   | _ => cases hc
 | .tuple xs, db, A, s, _, _, _, _, ra, rb, pa, pb, hc, hu => by
  cases ra with
  | @tuple l o vs n _ as h1 h2 h3 h4 =>
   cases db with
   | tuple ys =>
    cases rb with
    | @tuple m o2 ws n2 _ bs k1 k2 k3 k4 =>
     intro prog w E Q q
     obtain ⟨cls, dd, data, sl⟩ := o
     obtain ⟨cls2, dd2, data2, sl2⟩ := o2
     simp only at h2 h3 k2 k3
     subst h2 h3 k2 k3
     rw [zE] at pa pb
     rw [qH] at hc
     rw [ltD] at q
     have hd : A.in1.units + max (aog xs) (aog ys) < cLine := by
      have e1 : (PyData.tuple xs).depth = aog xs + 1 := rfl
      have e2 : (PyData.tuple ys).depth = aog ys + 1 := rfl
      have e3 : A.in1.units = A.units + 1 := rfl
      rw [e1, e2] at hu
      omega
     have lx := aca xs ys A.in1 s _ _ _ _ h4 k4 pa pb hc hd
     exact richCompare_meets_room (op := .Lt) ⟨_, h1, rfl⟩ ⟨_, k1, rfl⟩ PySem.F.slot_tuple_lt PySem.F.entry_tuple_lt (PySem.F.args_tuple_lt_2 _ _) (acQ l m vs ws n n2 dd dd2 sl sl2 (ltL xs ys))
      ⟨h1, k1, lx, show Value.bool (ltL xs ys) ≠ Value.notImplemented /\ Q (.bool (ltL xs ys)) s from ⟨(fun x => nomatch x), q⟩⟩ (by omega)
   | _ => cases hc
 | .none, _, _, _, _, _, _, _, _, _, h, _, _, _ => by cases h
 | .bool _, _, _, _, _, _, _, _, _, _, h, _, _, _ => by cases h
 | .list _, _, _, _, _, _, _, _, _, _, h, _, _, _ => by cases h
 | .dict _, _, _, _, _, _, _, _, _, _, h, _, _, _ => by cases h
theorem aca : ∀ (xs ys : List PyData) (A : Around) (s : Shared) (vs ws : List Value) (as bs : List Addr), ReadsAll s.heap vs xs as -> ReadsAll s.heap ws ys bs -> zP xs = true -> zP ys = true -> vp xs ys = true ->
  A.units + max (aog xs) (aog ys) < cLine -> Lex A s vs ws (ltL xs ys)
 | [], [], _, _, _, _, _, _, ra, rb, _, _, _, _ => by cases ra; cases rb; rw [ltL]; exact .nn
 | [], _ :: _, _, _, _, _, _, _, ra, rb, _, _, _, _ => by cases ra; cases rb; rw [ltL]; exact .nc
 | _ :: _, [], _, _, _, _, _, _, ra, rb, _, _, _, _ => by cases ra; cases rb; rw [ltL]; exact .cn
 | x :: xs, y :: ys, A, s, _, _, _, _, ra, rb, pa, pb, hc, hu => by
  cases ra with
  | cons r rs =>
   cases rb with
   | cons r' rs' =>
    rw [zP, anZ] at pa pb
    rw [vp] at hc
    rw [ltL]
    have e1 : aog (x :: xs) = max x.depth (aog xs) := rfl
    have e2 : aog (y :: ys) = max y.depth (aog ys) := rfl
    rw [e1, e2] at hu
    have eq := eqAt_reads x y A s _ _ _ _ r r' (yG x pa.1) (yG y pb.1) (by omega)
    by_cases e : aoo x y = true
    ·rw [if_pos e] at hc ⊢
     rw [e] at eq
     exact .eq eq (aca xs ys A s _ _ _ _ rs rs' pa.2 pb.2 hc (by omega))
    ·rw [if_neg e] at hc ⊢
     rw [arN] at e
     rw [e] at eq
     exact .lt eq (abh x y A s _ _ _ _ r r' pa.1 pb.1 hc (by omega))
end
end L2
end
section
namespace L2
open PySem PySem.Spec PyProof.Rows PySem.SeqAt PySem.W
section
variable {P : Program} {w : World} {A : Around} {s : Shared} {b : Bool} {Q : Bool -> Shared -> Prop}
theorem acR {fin : Bool} {x y : PyData} {p q : Value} {r : List (Value × Value)} {i : Nat} {as bs : List Addr} {c : Bool} (rx : Reads s.heap p x as) (ry : Reads s.heap q y bs) (px : zE x = true) (py : zE y = true) (hu : A.units + max x.depth y.depth < cLine)
  (h1 : aoo x y = true -> KatLex P w A b fin Q r (i + 1) s) (h2 : aoo x y = false -> wpAny (model P w) A (oneLt' (b && i == 0) p q) Q (fun _ _ => False) s) : KatLex P w A b fin Q ((p, q) :: r) i s := by
 refine kat_cons (eqAt_reads x y A s _ _ _ _ rx ry (yG x px) (yG y py) (by omega) P w _ _ ?_)
 exact kat_go (fun e => kat_yes (h1 e)) fun e => kat_no (h2 e)
theorem vG {m n : Nat} : ∀ (xs ys : List PyData) (vs ws : List Value) (as bs : List Addr) (i : Nat), (1 <= i \/ b = false) -> ReadsAll s.heap vs xs as -> ReadsAll s.heap ws ys bs -> zP xs = true -> zP ys = true -> vp xs ys = true ->
  A.units + max (aog xs) (aog ys) < cLine -> xs.length + n = ys.length + m -> Q (ltL xs ys) s -> KatLex P w A b (decide (m < n)) Q (vs.zip ws) i s
 | [], [], _, _, _, _, i, _, ra, rb, _, _, _, _, hl, q => by
  cases ra; cases rb
  rw [ltL] at q
  simp only [apW] at hl
  rw [decide_eq_false (show ¬ m < n by omega)]
  exact kat_nil q
 | [], y :: ys, _, _, _, _, i, _, ra, rb, _, _, _, _, hl, q => by
  cases ra; cases rb
  rw [ltL] at q
  simp only [apW, aoe] at hl
  rw [decide_eq_true (show m < n by omega)]
  exact kat_nil q
 | x :: xs, [], _, _, _, _, i, _, ra, rb, _, _, _, _, hl, q => by
  cases ra; cases rb
  rw [ltL] at q
  simp only [apW, aoe] at hl
  rw [decide_eq_false (show ¬ m < n by omega), List.zip_nil_right]
  exact kat_nil q
 | x :: xs, y :: ys, _, _, _, _, i, hi, ra, rb, pa, pb, hc, hu, hl, q => by
  cases ra with
  | cons r rs =>
   cases rb with
   | cons r' rs' =>
    rw [zP, anZ] at pa pb
    rw [vp] at hc
    rw [ltL] at q
    have e1 : aog (x :: xs) = max x.depth (aog xs) := rfl
    have e2 : aog (y :: ys) = max y.depth (aog ys) := rfl
    rw [e1, e2] at hu
    simp only [aoe] at hl
    rw [aqi]
    refine acR (c := true) r r' pa.1 pb.1 (by omega) (fun e => ?_) fun e => ?_
    ·rw [if_pos e] at hc q
     exact vG xs ys _ _ _ _ (i + 1) (.inl (by omega)) rs rs' pa.2 pb.2 hc (by omega) (by omega) q
    ·rw [if_neg (by rw [e]; exact anR)] at hc q
     have ef : (b && i == 0) = false := by
      rcases hi with hi | hi
      ·rw [show (i == 0) = false from beq_eq_false_iff_ne.mpr (by omega), ash]
      ·rw [hi]; rfl
     rw [ef]
     exact kat_one _ _ (abh x y A s _ _ _ _ r r' pa.1 pb.1 hc (by omega) P w _ _ q)
end
def jZ : PyData -> Option String
 | .tuple (.int _ :: _) => some "int"
 | .tuple (.str _ :: _) => some "str"
 | .tuple (.tuple _ :: _) => some "tuple"
 | _ => none
structure SortOk (T : String) (ds : List PyData) : Prop where
 plain : ∀ d ∈ ds, zE d = true
 head : ∀ d ∈ ds, jZ d = some T
 cmp : ∀ d ∈ ds, ∀ e ∈ ds, qH d e = true
 depth : ∀ d ∈ ds, d.depth <= 50
 nd : ds.Nodup
theorem qI {d : PyData} {T : String} (h : jZ d = some T) : ∃ x xs, d = .tuple (x :: xs) /\ ((T = "int" /\ ∃ n, x = .int n) \/ (T = "str" /\ ∃ n, x = .str n) \/ (T = "tuple" /\ ∃ n, x = .tuple n)) := by
 unfold jZ at h
 split at h
 ·cases h; exact ⟨_, _, rfl, .inl ⟨rfl, _, rfl⟩⟩
 ·cases h; exact ⟨_, _, rfl, .inr (.inl ⟨rfl, _, rfl⟩)⟩
 ·cases h; exact ⟨_, _, rfl, .inr (.inr ⟨rfl, _, rfl⟩)⟩
 ·cases h
section
variable {P : Program} {w : World} {A : Around} {s : Shared} {T : String}
theorem amz {d e : PyData} {v u : Value} {as bs : List Addr} {C : Bool -> Shared -> Prop} (rd : Reads s.heap v d as) (re : Reads s.heap u e bs) (pd : zE d = true) (pe : zE e = true) (hd : jZ d = some T) (he : jZ e = some T) (hc : qH d e = true)
  (hu : A.units + 60 < cLine) (d1 : d.depth <= 50) (d2 : e.depth <= 50) (q : C (ltD d e) s) : wpAny (model P w) A (keyLt' (tuples' (Value.type T != Value.type "tuple")) v u) C (fun _ _ => False) s := by
 obtain ⟨x, xs, rfl, hx⟩ := qI hd
 obtain ⟨y, ys, rfl, hy⟩ := qI he
 cases rd with
 | @tuple l o vs n _ as h1 h2 h3 h4 =>
  cases re with
  | @tuple m o2 ws n2 _ bs k1 k2 k3 k4 =>
   have l1 := apv _ _ _ h4
   have l2 := apv _ _ _ k4
   rw [aok] at l1 l2
   refine kat_lt h1 h3 k1 k3 ?_
   rw [zE] at pd pe
   rw [qH] at hc
   rw [ltD] at q
   have e1 : (PyData.tuple (x :: xs)).depth = aog (x :: xs) + 1 := rfl
   have e2 : (PyData.tuple (y :: ys)).depth = aog (y :: ys) + 1 := rfl
   have e3 : aog (x :: xs) = max x.depth (aog xs) := rfl
   have e4 : aog (y :: ys) = max y.depth (aog ys) := rfl
   rcases hx with ⟨rfl, nx, rfl⟩ | ⟨rfl, nx, rfl⟩ | ⟨rfl, nx, rfl⟩
   ·obtain ⟨ny, rfl⟩ : ∃ ny, y = .int ny := by
     rcases hy with ⟨_, h⟩ | ⟨z, _⟩ | ⟨z, _⟩
     ·exact h
     ·exact absurd z (by decide)
     ·exact absurd z (by decide)
    obtain ⟨vl⟩ := vs
    obtain ⟨wl⟩ := ws
    cases h4 with
    | cons r rs =>
     cases k4 with
     | cons r' rs' =>
      rw [zP, anZ] at pd pe
      rw [vp] at hc
      rw [ltL] at q
      rw [aqi]
      refine acR (c := true) r r' rfl rfl (by omega) (fun e => ?_) fun e => ?_
      ·rw [if_pos e] at hc q
       exact vG xs ys _ _ _ _ 1 (.inl (anW 1)) rs rs' pd.2 pe.2 hc (by omega) (by simp only [aoe] at l1 l2; omega) q
      ·rw [if_neg (by rw [e]; exact anR)] at q
       rw [show ((Value.type "int" != Value.type "tuple") && (0 == 0)) = true by decide]
       cases r
       cases r'
       rw [ltD] at q
       exact oneLt_int q
   ·obtain ⟨ny, rfl⟩ : ∃ ny, y = .str ny := by
     rcases hy with ⟨z, _⟩ | ⟨_, h⟩ | ⟨z, _⟩
     ·exact absurd z (by decide)
     ·exact h
     ·exact absurd z (by decide)
    obtain ⟨vl⟩ := vs
    obtain ⟨wl⟩ := ws
    cases h4 with
    | cons r rs =>
     cases k4 with
     | cons r' rs' =>
      rw [zP, anZ] at pd pe
      rw [vp] at hc
      rw [ltL] at q
      rw [aqi]
      refine acR (c := true) r r' pd.1 pe.1 (by omega) (fun e => ?_) fun e => ?_
      ·rw [if_pos e] at hc q
       exact vG xs ys _ _ _ _ 1 (.inl (anW 1)) rs rs' pd.2 pe.2 hc (by omega) (by simp only [aoe] at l1 l2; omega) q
      ·rw [if_neg (by rw [e]; exact anR)] at q
       rw [show ((Value.type "str" != Value.type "tuple") && (0 == 0)) = true by decide]
       cases r
       cases r'
       rw [ltD] at q
       exact oneLt_str q
   ·exact vG _ _ _ _ _ _ 0 (.inr (by decide)) h4 k4 pd pe hc (by omega) (by rw [l1, l2]; omega) q
theorem ReadsAll.at {h : Heap} : ∀ {vs : List Value} {ds : List PyData} {as : List Addr}, ReadsAll h vs ds as -> ∀ i, i < ds.length -> ∃ bs, Reads h (vs.getD i Value.none) (ds.getD i .none) bs
 | _, _, _, .nil, i, hi => absurd hi (apu _)
 | _, _, _, .cons r rs, 0, _ => ⟨_, r⟩
 | _, _, _, .cons r rs, i + 1, hi => ReadsAll.at rs i (aqQ hi)
theorem ReadsAll.keep {h h' : Heap} (k : ∀ b o, h.get? b = some o -> h'.get? b = some o) : ∀ {vs : List Value} {ds : List PyData} {as : List Addr}, ReadsAll h vs ds as -> ReadsAll h' vs ds as
 | _, _, _, .nil => .nil
 | _, _, _, .cons r rs => .cons (PyProof.Rows.Reads.keeps k r) (ReadsAll.keep k rs)
theorem af8 {h : Heap} : ∀ {vs : List Value} {ds : List PyData} {as : List Addr}, ReadsAll h vs ds as -> (∀ d ∈ ds, jZ d = some T) -> ∃ fs, KatTups h vs fs /\ fs.length = vs.length /\ ∀ v ∈ fs, Looks (model P w) h (typeOf v) (.type T)
 | _, _, _, .nil, _ => ⟨[], .nil, rfl, fun _ h => nomatch h⟩
 | _, d :: ds, _, .cons r rs, hh => by
  obtain ⟨fs, h1, h2, h3⟩ := af8 rs fun d hd => hh d (anY _ hd)
  obtain ⟨x, xs, rfl, hx⟩ := qI (hh d an0)
  cases r with
  | @tuple l o vs n _ as k1 k2 k3 k4 =>
   obtain ⟨vl⟩ := vs
   cases k4 with
   | @cons v0 vs0 _ _ _ _ r0 rs0 =>
    refine ⟨v0 :: fs, .cons k1 k2 k3 rfl h1, by simp [h2], fun v hv => ?_⟩
    rcases aoa.mp hv with rfl | hv
    ·rcases hx with ⟨rfl, nx, rfl⟩ | ⟨rfl, nx, rfl⟩ | ⟨rfl, nx, rfl⟩
     ·cases r0; exact Looks.of_pure rfl
     ·cases r0; exact Looks.of_pure rfl
     ·cases r0 with
      | tuple q1 q2 q3 q4 => rw [<- q2]; exact (Looks.ld q1).andThen .now
    ·exact h3 v hv
theorem amA {ds : List PyData} (ok : SortOk T ds) : Tot ds.length fun i j => ltD (ds.getD i .none) (ds.getD j .none) := by
 have mem : ∀ i, i < ds.length -> ds.getD i .none ∈ ds := fun i hi => by
  rw [anU, anP hi]
  exact aot hi
 refine ⟨fun i j hi hj ne => ae3 _ _ (ok.plain _ (mem i hi)) (ok.plain _ (mem j hj)) fun z => ne ?_, fun i j k hi hj hk => ae5 _ _ _ (ok.plain _ (mem i hi)) (ok.plain _ (mem j hj)) (ok.plain _ (mem k hk))⟩
 rw [anU, anU, anP hi, anP hj] at z
 exact (aqY ok.nd).mp z
theorem ako {vs : List Value} {ds : List PyData} {as : List Addr} (ra : ReadsAll s.heap vs ds as) (ok : SortOk T ds) (hu : A.units + 60 < cLine) (few : ds.length < 64 \/ ds.Pairwise fun d e => ltD d e = true) :
  Asks P w A s (tuples' (Value.type T != Value.type "tuple")) vs fun i j => ltD (ds.getD i .none) (ds.getD j .none) := by
 have len := apv _ _ _ ra
 have mem : ∀ i, i < ds.length -> ds.getD i .none ∈ ds := fun i hi => by
  rw [anU, anP hi]
  exact aot hi
 refine ⟨fun h2 h' k R q => ?_, fun h' k i j C hi hj q => ?_, by rw [len]; exact amA ok, ?_⟩
 ·obtain ⟨fs, f1, f2, f3⟩ := af8 (P := P) (w := w) (ReadsAll.keep k ra) ok.head
  exact kat_kind f1 (by omega) f3 (beq_self_eq_true _) q
 ·rw [len] at hi hj
  obtain ⟨b1, r1⟩ := ReadsAll.at (ReadsAll.keep k ra) i hi
  obtain ⟨b2, r2⟩ := ReadsAll.at (ReadsAll.keep k ra) j hj
  exact amz r1 r2 (ok.plain _ (mem i hi)) (ok.plain _ (mem j hj)) (ok.head _ (mem i hi)) (ok.head _ (mem j hj)) (ok.cmp _ (mem i hi) _ (mem j hj)) hu (ok.depth _ (mem i hi)) (ok.depth _ (mem j hj)) q
 ·rw [len]
  refine few.imp id fun pw i hi => ?_
  have h1 := apQ.mp pw i (i + 1) (by omega) hi (by omega)
  have g : ∀ j (hj : j < ds.length), ds.getD j .none = ds[j] := fun j hj => by rw [anU, anP hj]; rfl
  rw [g _ hi, g i (by omega)]
  have ne := lt_asymm (ok.plain _ (aot _)) (ok.plain _ (aot _)) h1
  have := ae3 _ _ (ok.plain _ (aot _)) (ok.plain _ (aot _)) ne
  rw [h1] at this
  revert this
  cases ltD ds[i + 1] ds[i] <;> simp
end
def pick {α : Type} (d : α) (p : Array Nat) (xs : List α) : List α := p.toList.map fun i => xs.getD i d
theorem acS : ∀ {xs : List V} {us : List Value}, Vals xs us -> ∀ i, RelV (xs.getD i .non) (us.getD i Value.none)
 | _, _, .nil, i => rfl
 | _, _, .cons r t, 0 => r
 | _, _, .cons r t, i + 1 => acS t i
theorem ahp {xs : List V} {us : List Value} (r : Vals xs us) (p : Array Nat) : Vals (pick .non p xs) (pick Value.none p us) := by
 unfold pick
 induction p.toList with
 | nil => exact .nil
 | cons i l ih => exact .cons (acS r i) ih
theorem acT {K : anS} {H : Hp} : ∀ {ds : List PyData} {xs : List V}, Reps K H ds xs -> ∀ i, Rep K H (ds.getD i .none) (xs.getD i .non)
 | [], xs, r, i => by
  rw [reps_nil.mp r]
  exact rep_none.mpr rfl
 | d :: ds, xs, r, i => by
  obtain ⟨x, xs', rfl, r1, r2⟩ := reps_cons.mp r
  cases i with
  | zero => exact r1
  | succ i => exact acT r2 i
theorem ahq {K : anS} {H : Hp} {ds : List PyData} {xs : List V} (r : Reps K H ds xs) (p : Array Nat) : Reps K H (pick .none p ds) (pick .non p xs) := by
 unfold pick
 induction p.toList with
 | nil => exact .nil'
 | cons i l ih => exact .cons' (acT r i) ih
theorem ahr {α : Type} {d : α} {n : Nat} {p : Array Nat} {xs : List α} (h : Pm n p) (hn : n = xs.length) : (pick d p xs).Perm xs := by
 have e : (aoq n).map (fun i => xs.getD i d) = xs := by
  subst hn
  refine aqo fun i => ?_
  rw [aob]
  by_cases hi : i < xs.length
  ·rw [ap9 hi, anP hi]
   simp [hi]
  ·rw [aov (by simp; omega), aov (by omega)]
   rfl
 have := h.map fun i => xs.getD i d
 rw [e] at this
 exact this
theorem akp {n : Nat} {p : Array Nat} {ds : List PyData} (h : Pm n p) (u : Up (fun i j => ltD (ds.getD i .none) (ds.getD j .none)) p n) : (pick .none p ds).Pairwise fun d e => ltD d e = true := by
 unfold pick
 rw [apq]
 refine apQ.mpr fun i j hi hj hij => ?_
 have hs := h.size
 rw [aok] at hi hj
 have := u i j hij (by omega)
 have g : ∀ k (hk : k < p.toList.length), p.getD k 0 = p.toList[k] := fun k hk => by
  rw [jH, anU, anP hk]
  rfl
 rw [g i (by simpa using hi), g j (by simpa using hj)] at this
 exact this
def acU (K : anS) : List V -> Hp -> VK -> Prop := fun xs H Q => ∃ (a : Addr) (vs : List V) (ds : List PyData) (T : String), xs = [.ref a] /\ SqL K H a vs /\ Reps K H ds vs /\ SortOk T ds /\ ds.length <= 1000 /\ (ds.length < 64 \/ ds.Pairwise fun d e => ltD d e = true) /\
 ∀ l p, H l = none -> Pm ds.length p -> Up (fun i j => ltD (ds.getD i .none) (ds.getD j .none)) p ds.length -> Q (.ref l) (upd H l (.lst (pick .non p vs)))
theorem acV {X : Cx} (hu : X.A.units + 64 < cLine) : z6 X (.builtin "sorted") (acU X.K) := by
 intro pins s σ H xs us Q I r h
 obtain ⟨a, vs, ds, T, rfl, ha, rd, ok, hl, few, q⟩ := h
 obtain ⟨u, rfl, rx⟩ := vals1 r
 cases rx
 obtain ⟨its, rv, pl, hz⟩ := I.list ha
 have le := rv.length
 have ld := rd.length
 obtain ⟨as, ra⟩ := ji I ds vs its rd rv
 have e2 : X.A.in1.in1.units = X.A.units + 1 + 1 := rfl
 have lt' : its.length = ds.length := by omega
 refine adW (by omega) pl.isList (ako ra ok (by omega) few) fun h' D p c x1 x2 x3 x4 x5 => ?_
 rw [lt'] at x1 x2
 have hD : H D = none := I.hok.fresh x3
 have lp : p.toList.length = ds.length := by rw [aok]; exact x1.size
 exact ⟨.ref D, upd H D (.lst (pick .non p vs)), I.laid (t' := s.toks) x4 x3 ⟨by unfold pick; rw [anQ]; omega, pick Value.none p its, c, ahp rv p, x5⟩, rfl, q D p hD x1 x2⟩
theorem acW {X : Cx} {K : anS} (hK : X.K = K) (hu : X.A.units + 64 < cLine) : z6 X (.builtin "sorted") (acU K) := hK ▸ acV hu
section
variable {K : anS} {f : Fx} {ρ : zy} {P : List PyData -> Prop} {te : TE}
theorem aiO (T : String) (h : PEd K f te ρ fun x => ∃ ds, x = .list ds /\ SortOk T ds /\ ds.length <= 1000 /\ (ds.length < 64 \/ ds.Pairwise fun d e => ltD d e = true) /\ ∀ es, es.Perm ds -> (es.Pairwise fun d e => ltD d e = true) -> P es) :
  PEdO K f (tCB (acU K) (zW te yP)) ρ P := fun σ H Q e q => h σ H _ e fun x v H1 g1 r1 ⟨ds, ex, ok, hl, few, p⟩ => by
 subst ex
 obtain ⟨a, xs, rfl, h1, h2⟩ := rep_list.mp r1
 refine ⟨a, xs, ds, T, rfl, (zo _ _).seq h1, Reps.mono (zo _ _) _ _ h2, ok, hl, few, fun l pm hn m u => ?_⟩
 have g2 : Goes f H1 (upd H1 l (.lst (pick .non pm xs))) := .of_same (zZ hn _) g1.2
 refine q (pick .none pm ds) l _ _ (g1.trans g2) (g1.free e.fd hn) zA (Reps.mono (fun b o hb => ?_) _ _ (ahq h2 pm)) (p _ (ahr m rfl) (akp m u))
 have hb' := zO hb
 have hbl : b ≠ l := fun z => by
  have := hb'.2
  rw [z, hn] at this
  cases this
 refine zD (fun z => ?_) (by rw [zI hbl]; exact hb'.2)
 rcases z with z | z
 ·exact hb'.1 (.inl z)
 ·rcases aoa.mp z with z | z
  ·exact hbl z
  ·exact hb'.1 (.inr z)
end
end L2
end
section
namespace L2.ST
open PySem PySem.SetTable
def adX (xs : Array Nat) : Prop := ∀ i j, i < j -> j < xs.size -> xs.getD i 0 < xs.getD j 0
theorem aiP {xs : Array Nat} {i d e : Nat} (h : i < xs.size) : xs.getD i d = xs.getD i e := by simp [aqh, h]
theorem abi {xs : Array Nat} {j : Nat} : ∀ f lo hi, hi - lo <= f -> lo <= hi -> hi <= xs.size -> (∀ i, i < lo -> xs.getD i 0 < j) -> (∀ i, hi <= i -> i < xs.size -> j <= xs.getD i 0) -> adX xs ->
  lo <= below.go xs j f lo hi /\ below.go xs j f lo hi <= hi /\ (∀ i, i < below.go xs j f lo hi -> xs.getD i 0 < j) /\ (∀ i, below.go xs j f lo hi <= i -> i < xs.size -> j <= xs.getD i 0)
 | 0, lo, hi, hf, hl, hh, a, b, r => by
  obtain rfl : lo = hi := by omega
  exact ⟨anW _, anW _, a, b⟩
 | f + 1, lo, hi, hf, hl, hh, a, b, r => by
  unfold below.go
  by_cases h : lo < hi
  ·rw [if_pos h]
   have hm : (lo + hi) / 2 < xs.size := by omega
   simp only
   rw [aiP (e := 0) hm]
   by_cases h2 : xs.getD ((lo + hi) / 2) 0 < j
   ·rw [if_pos h2]
    have := abi f ((lo + hi) / 2 + 1) hi (by omega) (by omega) hh (fun i hi' => by
     by_cases e : i = (lo + hi) / 2
     ·rw [e]; exact h2
     ·exact aqP (r i _ (by omega) hm) h2) b r
    exact ⟨by omega, this.2.1, this.2.2⟩
   ·rw [if_neg h2]
    have := abi f lo ((lo + hi) / 2) (by omega) (by omega) (by omega) a (fun i hi' hs => by
     by_cases e : i = (lo + hi) / 2
     ·rw [e]; omega
     ·have := r ((lo + hi) / 2) i (by omega) hs; omega) r
    exact ⟨this.1, by omega, this.2.2⟩
  ·rw [if_neg h]
   obtain rfl : lo = hi := by omega
   exact ⟨anW _, anW _, a, b⟩
theorem adY {xs : Array Nat} (r : adX xs) (j : Nat) : below xs j <= xs.size /\ (∀ i, i < below xs j -> xs.getD i 0 < j) /\ (∀ i, below xs j <= i -> i < xs.size -> j <= xs.getD i 0) := by
 have := abi (xs := xs) (j := j) xs.size 0 xs.size (by omega) (aoI _) (anW _) (fun i hi => absurd hi (apu _)) (fun i a b => by omega) r
 exact this.2
theorem below_at {xs : Array Nat} (r : adX xs) {i : Nat} (hi : i < xs.size) : below xs (xs.getD i 0) = i := by
 obtain ⟨a, b, c⟩ := adY r (xs.getD i 0)
 by_cases h : below xs (xs.getD i 0) < i
 ·have h1 := c _ (anW _) (by omega)
  have h2 := r _ i h hi
  omega
 ·by_cases h2 : i < below xs (xs.getD i 0)
  ·have := b i h2; omega
  ·omega
def Tk (t : SetTable) (j : Nat) : Prop := ∃ i, i < t.place.size /\ t.place.getD i 0 = j
theorem slot_live {t : SetTable} (r : adX t.place) {i : Nat} (hi : i < t.place.size) : t.slot (t.place.getD i 0) = .live i := by
 unfold slot
 simp only
 rw [below_at r hi]
 have : (t.place[i]? == some (t.place.getD i 0)) = true := by simp [aqh, hi]
 rw [if_pos this]
theorem ahs {t : SetTable} (d : t.dummies = #[]) {j : Nat} (h : ¬ Tk t j) : t.slot j = .empty := by
 unfold slot
 simp only
 have h1 : ¬ (t.place[below t.place j]? == some j) = true := fun e => h (by
  have e2 := eq_of_beq e
  obtain ⟨hl, e3⟩ := aru.mp e2
  exact ⟨_, hl, by simp [aqh, hl, e3]⟩)
 rw [if_neg h1]
 have h2 : has t.dummies j = false := by rw [d]; rfl
 rw [h2]
 rfl
def road (mask : Nat) (h : Int) : Nat -> Probe
 | 0 => { j := bits h % (mask + 1), more := runEnd mask (bits h % (mask + 1)) - bits h % (mask + 1), i := bits h % (mask + 1), perturb := bits h, dummy := none }
 | k + 1 => if (road mask h k).more > 0 then { road mask h k with j := (road mask h k).j + 1, more := (road mask h k).more - 1 } else
  { road mask h k with j := (leap mask (road mask h k).i (road mask h k).perturb).1, more := runEnd mask (leap mask (road mask h k).i (road mask h k).perturb).1 - (leap mask (road mask h k).i (road mask h k).perturb).1, i := (leap mask (road mask h k).i (road mask h k).perturb).1, perturb := (leap mask (road mask h k).i (road mask h k).perturb).2 }
theorem road_start (t : SetTable) (h : Int) : t.probeStart h = road t.mask h 0 := rfl
theorem vq (mask : Nat) (h : Int) : ∀ k, (road mask h k).dummy = none
 | 0 => rfl
 | k + 1 => by
  unfold road
  split
  ·exact vq mask h k
  ·exact vq mask h k
abbrev pos (mask : Nat) (h : Int) (k : Nat) : Nat := (road mask h k).j
def lp (mask : Nat) (h : Int) : Nat -> Nat × Nat
 | 0 => (bits h % (mask + 1), bits h)
 | r + 1 => leap mask (lp mask h r).1 (lp mask h r).2
theorem aab (mask i : Nat) (h : i <= mask) : i <= runEnd mask i /\ runEnd mask i <= mask /\ runEnd mask i - i <= 9 := by
 unfold runEnd
 split <;> omega
theorem adZ (mask : Nat) (h : Int) : ∀ r, (lp mask h r).1 <= mask
 | 0 => aq9.mp (Nat.mod_lt _ (ark _))
 | r + 1 => aq9.mp (Nat.mod_lt _ (ark _))
def At (mask : Nat) (h : Int) (k r d : Nat) : Prop := d <= runEnd mask (lp mask h r).1 - (lp mask h r).1 /\ road mask h k = { j := (lp mask h r).1 + d, more := runEnd mask (lp mask h r).1 - (lp mask h r).1 - d, i := (lp mask h r).1, perturb := (lp mask h r).2, dummy := none }
theorem acX (mask : Nat) (h : Int) : At mask h 0 0 0 := ⟨aoI _, rfl⟩
theorem af9 {mask : Nat} {h : Int} {k r d : Nat} (a : At mask h k r d) (hd : d < runEnd mask (lp mask h r).1 - (lp mask h r).1) : At mask h (k + 1) r (d + 1) := by
 obtain ⟨a1, a2⟩ := a
 refine ⟨hd, ?_⟩
 unfold road
 rw [a2]
 simp only
 rw [if_pos (by omega)]
 simp only [Probe.mk.injEq, and_true]
 omega
theorem acY {mask : Nat} {h : Int} {k r d : Nat} (a : At mask h k r d) (hd : d = runEnd mask (lp mask h r).1 - (lp mask h r).1) : At mask h (k + 1) (r + 1) 0 := by
 obtain ⟨a1, a2⟩ := a
 refine ⟨aoI _, ?_⟩
 unfold road
 rw [a2]
 simp only
 rw [if_neg (by omega)]
 rfl
theorem acZ {mask : Nat} {h : Int} {k r : Nat} (a : At mask h k r 0) : ∀ d, d <= runEnd mask (lp mask h r).1 - (lp mask h r).1 -> At mask h (k + d) r d
 | 0, _ => a
 | d + 1, hd => af9 (acZ a d (by omega)) (by omega)
theorem ad0 (mask : Nat) (h : Int) : ∀ r, ∃ k, k <= 10 * r /\ At mask h k r 0
 | 0 => ⟨0, anW _, acX mask h⟩
 | r + 1 => by
  obtain ⟨k, hk, a⟩ := ad0 mask h r
  have := (aab mask _ (adZ mask h r)).2.2
  exact ⟨_, by omega, acY (acZ a _ (anW _)) rfl⟩
theorem aiQ (mask : Nat) (h : Int) : ∀ k, ∃ r d, At mask h k r d
 | 0 => ⟨0, 0, acX mask h⟩
 | k + 1 => by
  obtain ⟨r, d, a⟩ := aiQ mask h k
  by_cases e : d < runEnd mask (lp mask h r).1 - (lp mask h r).1
  ·exact ⟨r, d + 1, af9 a e⟩
  ·exact ⟨r + 1, 0, acY a (Nat.le_antisymm a.1 (by omega))⟩
theorem ac0 (mask : Nat) (h : Int) (k : Nat) : pos mask h k <= mask := by
 obtain ⟨r, d, a1, a2⟩ := aiQ mask h k
 unfold pos
 rw [a2]
 have := aab mask _ (adZ mask h r)
 show (lp mask h r).1 + d <= mask
 omega
def stp (m i : Nat) : Nat := (i * 5 + 1) % m
def itr (m : Nat) : Nat -> Nat -> Nat
 | 0, i => i
 | r + 1, i => stp m (itr m r i)
theorem vH (m : Nat) (a : Nat) : ∀ b i, itr m (a + b) i = itr m b (itr m a i)
 | 0, i => rfl
 | b + 1, i => by show stp m (itr m (a + b) i) = stp m (itr m b (itr m a i)); rw [vH m a b i]
def orb (m : Nat) : Nat -> Nat -> List Nat
 | 0, _ => []
 | f + 1, i => i :: orb m f (stp m i)
theorem aiR (m : Nat) : ∀ f i r, r < f -> (orb m f i)[r]? = some (itr m r i)
 | 0, _, _, h => absurd h (apu _)
 | f + 1, i, 0, _ => rfl
 | f + 1, i, r + 1, h => by
  show (orb m f (stp m i))[r]? = _
  rw [aiR m f (stp m i) r (by omega), show r + 1 = 1 + r by omega, vH m 1 r i]
  rfl
def jC (m : Nat) : Bool := (aoq m).all (fun j => (orb m m 0).contains j) && itr m m 0 == 0
theorem aga : jC 8 = true := by decide +kernel
theorem ad1 : jC 32 = true := by decide +kernel
theorem acb : jC 128 = true := by decide +kernel
theorem acd : jC 512 = true := by decide +kernel
theorem ac1 (m : Nat) : ∀ f i, (orb m f i).length = f
 | 0, _ => rfl
 | f + 1, i => by show (orb m f (stp m i)).length + 1 = f + 1; rw [ac1 m f]
theorem ad2 {m : Nat} (h : jC m = true) {j : Nat} (hj : j < m) : ∃ r, r < m /\ itr m r 0 = j := by
 unfold jC at h
 rw [anZ] at h
 have := aoR.mp h.1 j (aoK.mpr hj)
 have hm : j ∈ orb m m 0 := by simpa using this
 obtain ⟨r, hr, e⟩ := apD hm
 rw [ac1] at hr
 have e2 := aiR m m 0 r hr
 rw [anP (by rw [ac1]; exact hr), e] at e2
 exact ⟨r, hr, (Option.some.inj e2).symm⟩
theorem agb {m : Nat} (h : jC m = true) {i j : Nat} (hi : i < m) (hj : j < m) : ∃ r, r < m /\ itr m r i = j := by
 obtain ⟨a, ha, ea⟩ := ad2 h hi
 obtain ⟨b, hb, eb⟩ := ad2 h hj
 have e0 : itr m m 0 = 0 := by
  unfold jC at h
  rw [anZ] at h
  exact eq_of_beq h.2
 by_cases hab : a <= b
 ·exact ⟨b - a, by omega, by rw [<- ea, <- vH, show a + (b - a) = b by omega]; exact eb⟩
 ·refine ⟨m - a + b, by omega, ?_⟩
  rw [<- ea, <- vH, show a + (m - a + b) = m + b by omega, vH, e0]
  exact eb
theorem agc (mask : Nat) (h : Int) : ∀ r, (lp mask h r).2 = bits h / 32 ^ r
 | 0 => by simp [lp]
 | r + 1 => by
  show (lp mask h r).2 / 32 = _
  rw [agc mask h r, Nat.div_div_eq_div_mul, Nat.pow_succ]
theorem akq (h : Int) : bits h < 2 ^ 64 := by
 unfold bits
 have := apK h (show (0 : Int) < 2 ^ 64 by decide)
 have := ara h (show (2 ^ 64 : Int) ≠ 0 by decide)
 omega
theorem akr (mask : Nat) (h : Int) (r : Nat) (hr : 13 <= r) : (lp mask h r).2 = 0 := by
 rw [agc]
 refine Nat.div_eq_of_lt (aow (akq h) ?_)
 exact aou (show 2 ^ 64 <= 32 ^ 13 by decide) (Nat.pow_le_pow_right (by decide) hr)
theorem ae6 (mask : Nat) (h : Int) : ∀ r, (lp mask h (13 + r)).1 = itr (mask + 1) r (lp mask h 13).1
 | 0 => rfl
 | r + 1 => by
  show (leap mask (lp mask h (13 + r)).1 (lp mask h (13 + r)).2).1 = stp (mask + 1) (itr (mask + 1) r (lp mask h 13).1)
  rw [akr mask h (13 + r) (by omega), ae6 mask h r]
  rfl
theorem aiS {mask : Nat} (g : jC (mask + 1) = true) (h : Int) {j : Nat} (hj : j <= mask) : ∃ k, k < 10 * turns mask /\ pos mask h k = j := by
 obtain ⟨r, hr, e⟩ := agb g (i := (lp mask h 13).1) (j := j) (aqR (adZ mask h 13)) (aqR hj)
 obtain ⟨k, hk, a1, a2⟩ := ad0 mask h (13 + r)
 refine ⟨k, by unfold turns; omega, ?_⟩
 unfold pos
 rw [a2]
 show (lp mask h (13 + r)).1 + 0 = j
 rw [ae6, e]
 rfl
end L2.ST
end
section
namespace L2.ST
open PySem PySem.SetTable
structure TB (t : SetTable) (hs : List Int) : Prop where
 mask : t.mask = 7 \/ t.mask = 31 \/ t.mask = 127 \/ t.mask = 511
 dum : t.dummies = #[]
 rise : adX t.place
 le : ∀ i, i < t.place.size -> t.place.getD i 0 <= t.mask
 size : t.place.size = hs.length
 most : hs.length <= t.mask
 reach : ∀ i, i < hs.length -> ∃ k, pos t.mask (hs.getD i 0) k = t.place.getD i 0 /\ ∀ k', k' < k -> Tk t (pos t.mask (hs.getD i 0) k')
structure TOk (t : SetTable) (hs : List Int) : Prop extends TB t hs where
 room : hs.length * 5 < t.mask * 3
theorem ac2 {t : SetTable} {hs : List Int} (o : TB t hs) : jC (t.mask + 1) = true := by
 rcases o.mask with e | e | e | e <;> rw [e]
 ·exact aga
 ·exact ad1
 ·exact acb
 ·exact acd
theorem aht {t : SetTable} (r : adX t.place) (hs : t.place.size <= t.mask) : ∃ j, j <= t.mask /\ ¬ Tk t j := by
 refine aoO fun no => ?_
 have all : ∀ j, j <= t.mask -> Tk t j := fun j hj => aoO fun z => no ⟨j, hj, z⟩
 have up : ∀ j, j <= t.mask -> j <= below t.place j /\ below t.place j < t.place.size := fun j => by
  induction j with
  | zero =>
   intro hj
   obtain ⟨i, hi, e⟩ := all 0 hj
   have := below_at r hi
   rw [e] at this
   exact ⟨aoI _, by omega⟩
  | succ j ih =>
   intro hj
   obtain ⟨i, hi, e⟩ := all (j + 1) hj
   obtain ⟨i', hi', e'⟩ := all j (by omega)
   have b1 := below_at r hi
   have b2 := below_at r hi'
   rw [e] at b1
   rw [e'] at b2
   have lt : i' < i := by
    by_cases h : i' < i
    ·exact h
    ·by_cases h2 : i' = i
     ·subst h2; omega
     ·have := r i i' (by omega) hi'; omega
   have := ih (by omega)
   omega
 have := up t.mask (anW _)
 omega
structure First (t : SetTable) (h : Int) (E : Nat) : Prop where
 lt : E < 10 * turns t.mask
 free : ¬ Tk t (pos t.mask h E)
 ahead : ∀ k, k < E -> Tk t (pos t.mask h k)
theorem least {p : Nat -> Prop} : ∀ n, p n -> ∃ m, m <= n /\ p m /\ ∀ k, k < m -> ¬ p k := fun n => by
 induction n using Nat.strongRecOn with
 | ind n ih =>
  intro h
  by_cases q : ∃ k, k < n /\ p k
  ·obtain ⟨k, hk, pk⟩ := q
   obtain ⟨m, a, b⟩ := ih k hk pk
   exact ⟨m, by omega, b⟩
  ·exact ⟨n, anW _, h, fun k hk z => q ⟨k, hk, z⟩⟩
theorem ahu {t : SetTable} (g : jC (t.mask + 1) = true) (r : adX t.place) (hs : t.place.size <= t.mask) (h : Int) : ∃ E, First t h E := by
 obtain ⟨j, hj, nj⟩ := aht r hs
 obtain ⟨k, hk, e⟩ := aiS g h hj
 obtain ⟨m, a, b, c⟩ := least (p := fun k => ¬ Tk t (pos t.mask h k)) k (by show ¬ Tk t (pos t.mask h k); rw [e]; exact nj)
 exact ⟨m, by omega, b, fun q hq => aoO (c q hq)⟩
theorem first_of {t : SetTable} {hs : List Int} (o : TB t hs) (h : Int) : ∃ E, First t h E := ahu (ac2 o) o.rise (by have := o.size; have := o.most; omega) h
theorem probe_go {t : SetTable} (d : t.dummies = #[]) (r : adX t.place) {hashAt : Nat -> Int} {h : Int} {E : Nat} (F : First t h E) : ∀ f k, k <= E -> E < k + f ->
  (probe.go t hashAt h f (road t.mask h k) = some (.empty (pos t.mask h E) none) /\ ∀ q i, k <= q -> q < E -> i < t.place.size -> pos t.mask h q = t.place.getD i 0 -> hashAt i ≠ h) \/
  ∃ q i, k <= q /\ q < E /\ i < t.place.size /\ pos t.mask h q = t.place.getD i 0 /\ hashAt i = h /\ probe.go t hashAt h f (road t.mask h k) = some (.candidate (pos t.mask h q) i (road t.mask h (q + 1))) /\ ∀ q' i', k <= q' -> q' < q -> i' < t.place.size -> pos t.mask h q' = t.place.getD i' 0 -> hashAt i' ≠ h
 | 0, k, h1, h2 => by omega
 | f + 1, k, h1, h2 => by
  unfold probe.go
  by_cases e : k = E
  ·subst e
   refine .inl ⟨?_, fun q i a b => by omega⟩
   rw [ahs d F.free]
   show some (Met.empty _ _) = _
   rw [vq]
  ·obtain ⟨i, hi, ei⟩ := F.ahead k (by omega)
   have sl : t.slot (road t.mask h k).j = .live i := by
    have := slot_live r hi
    rw [ei] at this
    exact this
   rw [sl]
   show (if (hashAt i == h) = true then _ else _ : Option Met) = _ /\ _ \/ _
   have uniq : ∀ i', i' < t.place.size -> pos t.mask h k = t.place.getD i' 0 -> i' = i := fun i' hi' e' => by
    have b1 := below_at r hi
    have b2 := below_at r hi'
    rw [ei] at b1
    rw [<- e'] at b2
    omega
   by_cases hh : (hashAt i == h) = true
   ·rw [if_pos hh]
    refine .inr ⟨k, i, anW _, by omega, hi, ei.symm, eq_of_beq hh, ?_, fun q' i' a b => by omega⟩
    show (if (hashAt i == h) = true then _ else _ : Option Met) = _
    rw [if_pos hh]
    rfl
   ·rw [if_neg hh]
    have hne : hashAt i ≠ h := fun z => hh (by rw [z]; exact beq_self_eq_true _)
    rcases probe_go d r (hashAt := hashAt) F f (k + 1) (by omega) (by omega) with ⟨a, b⟩ | ⟨q, i2, a1, a2, a3, a4, a5, a6, a7⟩
    ·refine .inl ⟨a, fun q i' c1 c2 c3 c4 => ?_⟩
     by_cases eq : q = k
     ·subst eq; rw [uniq i' c3 c4]; exact hne
     ·exact b q i' (by omega) c2 c3 c4
    ·refine .inr ⟨q, i2, by omega, a2, a3, a4, a5, ?_, fun q' i' c1 c2 c3 c4 => ?_⟩
     ·show (if (hashAt i == h) = true then _ else _ : Option Met) = _
      rw [if_neg hh]
      exact a6
     ·by_cases eq : q' = k
      ·subst eq; rw [uniq i' c3 c4]; exact hne
      ·exact a7 q' i' (by omega) c2 c3 c4
end L2.ST
end
section
namespace L2.ST
open PySem PySem.SetTable
theorem vI {α : Type} (xs : Array α) (i : Nat) (d : α) : xs.getD i d = xs.toList.getD i d := by
 by_cases h : i < xs.size <;> simp [aqh, h, List.getD]
theorem ad3 {α : Type} (l : List α) (p : Nat) (x d : α) (hp : p <= l.length) (i : Nat) : (l.take p ++ x :: l.drop p).getD i d = if i < p then l.getD i d else if i = p then x else l.getD (i - 1) d := by
 have lt : (l.take p).length = p := by rw [aoA]; omega
 by_cases h1 : i < p
 ·rw [if_pos h1, anU, aoj (by omega), aqG h1, anU]
 ·rw [if_neg h1, anU, aol (by omega), lt]
  by_cases h2 : i = p
  ·rw [if_pos h2, h2, aqj]
   rfl
  ·rw [if_neg h2, show i - p = (i - p - 1) + 1 by omega, List.getElem?_cons_succ, aqL, show p + (i - p - 1) = i - 1 by omega, anU]
section
variable {t : SetTable} {hs : List Int} {h : Int} {E : Nat}
theorem put_tb (o : TB t hs) (F : First t h E) (more : hs.length + 1 <= t.mask) : below t.place (pos t.mask h E) <= hs.length /\ TB (t.put (pos t.mask h E)).1 (hs.take (below t.place (pos t.mask h E)) ++ h :: hs.drop (below t.place (pos t.mask h E))) := by
 obtain ⟨b1, b2, b3⟩ := adY o.rise (pos t.mask h E)
 have sz := o.size
 generalize hp : below t.place (pos t.mask h E) = p at *
 have hpl : p <= t.place.toList.length := by rw [aok]; exact b1
 have pl : ∀ i, (t.put (pos t.mask h E)).1.place.getD i 0 = if i < p then t.place.getD i 0 else if i = p then pos t.mask h E else t.place.getD (i - 1) 0 := fun i => by
  show (insertAt t.place (below t.place (pos t.mask h E)) (pos t.mask h E)).getD i 0 = _
  rw [hp, vI, aqH, ad3 _ _ _ _ hpl, vI, vI]
 have psz : (t.put (pos t.mask h E)).1.place.size = t.place.size + 1 := by
  show (insertAt t.place (below t.place (pos t.mask h E)) (pos t.mask h E)).size = _
  rw [<- aok, aqH, hp, aoh, aoe, aoA, ao6, aok]
  omega
 have ne : ∀ i, i < t.place.size -> t.place.getD i 0 ≠ pos t.mask h E := fun i hi e => F.free ⟨i, hi, e⟩
 have b3' : ∀ i, p <= i -> i < t.place.size -> pos t.mask h E < t.place.getD i 0 := fun i a b => by
  have := b3 i a b
  have := ne i b
  omega
 have hm : (t.put (pos t.mask h E)).1.mask = t.mask := rfl
 have tk : ∀ j, Tk t j -> Tk (t.put (pos t.mask h E)).1 j := fun j ⟨i, hi, e⟩ => by
  by_cases q : i < p
  ·exact ⟨i, by omega, by rw [pl, if_pos q]; exact e⟩
  ·exact ⟨i + 1, by omega, by rw [pl, if_neg (by omega), if_neg (by omega), Nat.add_sub_cancel]; exact e⟩
 have hl : ∀ i, (hs.take p ++ h :: hs.drop p).getD i 0 = if i < p then hs.getD i 0 else if i = p then h else hs.getD (i - 1) 0 := fun i => ad3 hs p h 0 (by omega) i
 have ln : (hs.take p ++ h :: hs.drop p).length = hs.length + 1 := by
  rw [aoh, aoe, aoA, ao6]
  omega
 refine ⟨by omega, ⟨o.mask, ?_, fun i j hij hj => ?_, fun i hi => ?_, by rw [psz, ln, sz], by rw [ln, hm]; exact more, fun i hi => ?_⟩⟩
 ·show (if has t.dummies (pos t.mask h E) = true then _ else t.dummies) = #[]
  rw [o.dum]
  rfl
 ·rw [pl, pl]
  rw [psz] at hj
  by_cases c1 : i < p
  ·rw [if_pos c1]
   by_cases c2 : j < p
   ·rw [if_pos c2]; exact o.rise i j hij (by omega)
   ·rw [if_neg c2]
    by_cases c3 : j = p
    ·rw [if_pos c3]; exact b2 i c1
    ·rw [if_neg c3]; exact o.rise i (j - 1) (by omega) (by omega)
  ·rw [if_neg c1, if_neg (show ¬ j < p by omega)]
   by_cases c3 : i = p
   ·rw [if_pos c3, if_neg (by omega)]; exact b3' (j - 1) (by omega) (by omega)
   ·rw [if_neg c3, if_neg (by omega)]; exact o.rise (i - 1) (j - 1) (by omega) (by omega)
 ·rw [pl, hm]
  rw [psz] at hi
  by_cases c1 : i < p
  ·rw [if_pos c1]; exact o.le i (by omega)
  ·rw [if_neg c1]
   by_cases c3 : i = p
   ·rw [if_pos c3]; exact ac0 _ _ _
   ·rw [if_neg c3]; exact o.le (i - 1) (by omega)
 ·rw [hl, pl, hm]
  rw [ln] at hi
  by_cases c1 : i < p
  ·rw [if_pos c1, if_pos c1]
   obtain ⟨k, e, a⟩ := o.reach i (by omega)
   exact ⟨k, e, fun k' hk => tk _ (a k' hk)⟩
  ·rw [if_neg c1, if_neg c1]
   by_cases c3 : i = p
   ·rw [if_pos c3, if_pos c3]
    exact ⟨E, rfl, fun k' hk => tk _ (F.ahead k' hk)⟩
   ·rw [if_neg c3, if_neg c3]
    obtain ⟨k, e, a⟩ := o.reach (i - 1) (by omega)
    exact ⟨k, e, fun k' hk => tk _ (a k' hk)⟩
end
def Occ (ow : Array (Option Nat)) (j : Nat) : Prop := ow.getD j (some 0) ≠ none
theorem agd {mask : Nat} {ow : Array (Option Nat)} {h : Int} : ∀ f r k, At mask h k r 0 -> (∃ r', r <= r' /\ r' < r + f /\ ¬ Occ ow (lp mask h r').1) ->
  ∃ E, k <= E /\ (∀ q, k <= q -> q < E -> Occ ow (pos mask h q)) /\ ¬ Occ ow (pos mask h E) /\ layClean.free mask ow f (lp mask h r).1 (lp mask h r).2 = some (pos mask h E)
 | 0, r, k, a, ⟨r', h1, h2, _⟩ => by omega
 | f + 1, r, k, a, ⟨r', h1, h2, h3⟩ => by
  have re := aab mask _ (adZ mask h r)
  have at_ : ∀ d, d <= runEnd mask (lp mask h r).1 - (lp mask h r).1 -> pos mask h (k + d) = (lp mask h r).1 + d := fun d hd => by
   have := (acZ a d hd).2
   unfold pos
   rw [this]
  unfold layClean.free
  cases hf : (aoq (runEnd mask (lp mask h r).1 + 1 - (lp mask h r).1)).find? fun k => (ow.getD ((lp mask h r).1 + k) (some 0)).isNone with
  | some d =>
   have hm := List.mem_of_find?_eq_some hf
   have hd := aoK.mp hm
   have hs := List.find?_some hf
   have bef : ∀ d', d' < d -> ¬ (ow.getD ((lp mask h r).1 + d') (some 0)).isNone = true := fun d' hd' => by
    obtain ⟨_, as, bs, e, al⟩ := List.find?_eq_some_iff_append.mp hf
    have : as = aoq d := by
     have l1 : (aoq (runEnd mask (lp mask h r).1 + 1 - (lp mask h r).1))[as.length]? = some d := by
      rw [e, aol (anW _), aqj]
      rfl
     have lt : as.length < runEnd mask (lp mask h r).1 + 1 - (lp mask h r).1 := by
      have := congrArg List.length e
      simp at this
      omega
     rw [ap9 lt] at l1
     have el : as.length = d := Option.some.inj l1
     have : as = (aoq (runEnd mask (lp mask h r).1 + 1 - (lp mask h r).1)).take as.length := by
      rw [e, List.take_append_of_le_length (anW _), aoG]
     rw [this, List.take_range, Nat.min_eq_left (by omega), el]
    have al2 := al d' (by rw [this]; exact aoK.mpr hd')
    intro z
    have z2 : (!(ow.getD ((lp mask h r).1 + d') (some 0)).isNone) = true := al2
    rw [z] at z2
    cases z2
   refine ⟨k + d, by omega, fun q hq1 hq2 => ?_, ?_, ?_⟩
   ·have := bef (q - k) (by omega)
    rw [show q = k + (q - k) by omega, at_ (q - k) (by omega)]
    intro z
    rw [z] at this
    exact this rfl
   ·rw [at_ d (by omega)]
    intro z
    have hs' : (ow.getD ((lp mask h r).1 + d) (some 0)).isNone = true := hs
    exact z (Option.isNone_iff_eq_none.mp hs')
   ·rw [at_ d (by omega)]
  | none =>
   have all : ∀ d, d < runEnd mask (lp mask h r).1 + 1 - (lp mask h r).1 -> Occ ow ((lp mask h r).1 + d) := fun d hd z => by
    have := List.find?_eq_none.mp hf d (aoK.mpr hd)
    simp [z] at this
   have ne : r' ≠ r := fun z => by
    rw [z] at h3
    exact h3 (by have := all 0 (by omega); rwa [Nat.add_zero] at this)
   have a2 := acY (acZ a _ (anW _)) rfl
   obtain ⟨E, e1, e2, e3, e4⟩ := agd f (r + 1) _ a2 ⟨r', by omega, by omega, h3⟩
   refine ⟨E, by omega, fun q hq1 hq2 => ?_, e3, e4⟩
   by_cases hq : q < k + (runEnd mask (lp mask h r).1 - (lp mask h r).1) + 1
   ·rw [show q = k + (q - k) by omega, at_ (q - k) (by omega)]
    exact all _ (by omega)
   ·exact e2 q (by omega) hq2
end L2.ST
end
section
namespace L2.ST
open PySem PySem.SetTable
structure OwnT (mask : Nat) (ow : Array (Option Nat)) (hs : List Int) (sl : List Nat) : Prop where
 size : ow.size = mask + 1
 len : sl.length = hs.length
 nd : sl.Nodup
 le : ∀ j ∈ sl, j <= mask
 own : ∀ j, j <= mask -> ∀ i, ow.getD j none = some i ↔ sl[i]? = some j
 reach : ∀ i, i < hs.length -> ∃ q, pos mask (hs.getD i 0) q = sl.getD i 0 /\ ∀ q', q' < q -> pos mask (hs.getD i 0) q' ∈ sl
theorem OwnT.occ {mask : Nat} {ow : Array (Option Nat)} {hs : List Int} {sl : List Nat} (o : OwnT mask ow hs sl) {j : Nat} (hj : j <= mask) : Occ ow j ↔ j ∈ sl := by
 have hs' : j < ow.size := by rw [o.size]; omega
 have e : ow.getD j (some 0) = ow.getD j none := by simp [aqh, hs']
 unfold Occ
 rw [e]
 constructor
 ·intro h
  obtain ⟨i, hi⟩ := Option.ne_none_iff_exists'.mp h
  exact aof ((o.own j hj i).mp hi)
 ·intro h z
  obtain ⟨i, hi, e2⟩ := apD h
  have := (o.own j hj i).mpr (by rw [anP hi, e2])
  rw [z] at this
  cases this
def age (mask : Nat) : Option (Array (Option Nat) × Nat) -> Int -> Option (Array (Option Nat) × Nat) := fun acc h => do
  let (owner, k) <- acc
  let j <- layClean.free mask owner (turns mask) (bits h % (mask + 1)) (bits h)
  pure (owner.setIfInBounds j (some k), k + 1)
theorem aiT {mask : Nat} (g : jC (mask + 1) = true) {ow : Array (Option Nat)} {hs : List Int} {sl : List Nat} (o : OwnT mask ow hs sl) (hm : hs.length <= mask) (h : Int) :
  ∃ ow' sl', age mask (some (ow, hs.length)) h = some (ow', hs.length + 1) /\ OwnT mask ow' (hs ++ [h]) sl' := by
 obtain ⟨j, hj, nj⟩ : ∃ j, j <= mask /\ j ∉ sl := by
  refine aoO fun no => ?_
  have sub : aoq (mask + 1) ⊆ sl := fun j hj => aoO fun z => no ⟨j, aq9.mp (aoK.mp hj), z⟩
  have := List.Nodup.length_le_of_subset arM sub
  rw [apn, o.len] at this
  omega
 obtain ⟨r, hr, e⟩ := agb g (i := (lp mask h 13).1) (j := j) (aqR (adZ mask h 13)) (aqR hj)
 obtain ⟨E, _, e2, e3, e4⟩ := agd (ow := ow) (turns mask) 0 0 (acX mask h) ⟨13 + r, aoI _, by unfold turns; omega, by rw [ae6, e, o.occ hj]; exact nj⟩
 have e3' : pos mask h E ∉ sl := fun z => e3 ((o.occ (ac0 mask h E)).mpr z)
 have e2' : ∀ q, q < E -> pos mask h q ∈ sl := fun q hq => (o.occ (ac0 mask h q)).mp (e2 q (aoI _) hq)
 have e4' : layClean.free mask ow (turns mask) (bits h % (mask + 1)) (bits h) = some (pos mask h E) := e4
 refine ⟨ow.setIfInBounds (pos mask h E) (some hs.length), sl ++ [pos mask h E], ?_, ?_⟩
 ·show (layClean.free mask ow (turns mask) (bits h % (mask + 1)) (bits h) >>= fun j => pure (ow.setIfInBounds j (some hs.length), hs.length + 1)) = _
  rw [e4']
  rfl
 ·have ls : ∀ i, (sl ++ [pos mask h E])[i]? = if i < sl.length then sl[i]? else if i = sl.length then some (pos mask h E) else none := fun i => by
   by_cases c : i < sl.length
   ·rw [if_pos c, aoj c]
   ·rw [if_neg c, aol (by omega)]
    by_cases c2 : i = sl.length
    ·rw [if_pos c2, c2, aqj]; rfl
    ·rw [if_neg c2]; exact aov (by simp; omega)
  refine ⟨by rw [Array.size_setIfInBounds]; exact o.size, by simp [o.len], ?_, fun j hj => ?_, fun j hj i => ?_, fun i hi => ?_⟩
  ·rw [ao1]
   refine ⟨o.nd, by simp, fun a ha b hb => ?_⟩
   rw [aom.mp hb]
   intro z
   rw [z] at ha
   exact e3' ha
  ·rcases aop.mp hj with hj | hj
   ·exact o.le j hj
   ·rw [aom.mp hj]; exact ac0 _ _ _
  ·have hsz : j < ow.size := by rw [o.size]; omega
   rw [ls]
   by_cases c : j = pos mask h E
   ·subst c
    have : (ow.setIfInBounds (pos mask h E) (some hs.length)).getD (pos mask h E) none = some hs.length := by simp [aqh, hsz]
    rw [this]
    constructor
    ·intro z
     have z' : hs.length = i := Option.some.inj z
     rw [if_neg (by rw [o.len]; omega), if_pos (by rw [o.len]; omega)]
    ·intro z
     by_cases c2 : i < sl.length
     ·rw [if_pos c2] at z
      exact absurd (aof z) e3'
     ·rw [if_neg c2] at z
      by_cases c3 : i = sl.length
      ·rw [c3, o.len]
      ·rw [if_neg c3] at z; cases z
   ·have : (ow.setIfInBounds (pos mask h E) (some hs.length)).getD j none = ow.getD j none := by
     rw [apG, apG, Array.getElem?_setIfInBounds_ne (ape c)]
    rw [this, o.own j hj i]
    by_cases c2 : i < sl.length
    ·rw [if_pos c2]
    ·rw [if_neg c2]
     constructor
     ·intro z
      rw [aov (by omega)] at z
      cases z
     ·intro z
      by_cases c3 : i = sl.length
      ·rw [if_pos c3] at z
       exact absurd (Option.some.inj z).symm c
      ·rw [if_neg c3] at z; cases z
  ·have gl : ∀ i, (hs ++ [h]).getD i 0 = if i < hs.length then hs.getD i 0 else if i = hs.length then h else 0 := fun i => by
    by_cases c : i < hs.length
    ·rw [if_pos c, anU, aoj c, anU]
    ·rw [if_neg c, anU, aol (by omega)]
     by_cases c2 : i = hs.length
     ·rw [if_pos c2, c2, aqj]; rfl
     ·rw [if_neg c2, aov (by simp; omega)]; rfl
   rw [aoh, aoZ] at hi
   have gs : (sl ++ [pos mask h E]).getD i 0 = ((sl ++ [pos mask h E])[i]?).getD 0 := anU ..
   rw [gl, gs, ls]
   by_cases c : i < hs.length
   ·rw [if_pos c, if_pos (by rw [o.len]; exact c)]
    obtain ⟨q, a, b⟩ := o.reach i c
    exact ⟨q, by rw [<- anU]; exact a, fun q' hq => apg _ (b q' hq)⟩
   ·rw [if_neg c, if_pos (by omega), if_neg (by rw [o.len]; omega), if_pos (by rw [o.len]; omega)]
    exact ⟨E, rfl, fun q' hq => apg _ (e2' q' hq)⟩
theorem agf {mask : Nat} (g : jC (mask + 1) = true) : ∀ (l : List Int) (ow : Array (Option Nat)) (hs : List Int) (sl : List Nat), OwnT mask ow hs sl -> hs.length + l.length <= mask + 1 ->
  ∃ ow' sl', l.foldl (age mask) (some (ow, hs.length)) = some (ow', hs.length + l.length) /\ OwnT mask ow' (hs ++ l) sl'
 | [], ow, hs, sl, o, _ => ⟨ow, sl, rfl, by rw [aoN]; exact o⟩
 | h :: l, ow, hs, sl, o, hm => by
  rw [aoe] at hm
  obtain ⟨ow1, sl1, e1, o1⟩ := aiT g o (by omega) h
  obtain ⟨ow2, sl2, e2, o2⟩ := agf g l ow1 (hs ++ [h]) sl1 o1 (by rw [aoh, aoZ]; omega)
  refine ⟨ow2, sl2, ?_, by rw [apr] at o2; exact o2⟩
  rw [List.foldl_cons, e1]
  rw [aoh, aoZ] at e2
  rw [e2, aoe, arH, asr 1]
theorem aks (mask : Nat) : OwnT mask (arb (mask + 1) none) [] [] where
 size := by simp
 len := rfl
 nd := .nil
 le := fun _ h => nomatch h
 own := fun j hj i => by
  have : (arb (mask + 1) (none : Option Nat)).getD j none = none := by simp [aqh]
  rw [this]
  constructor <;> intro z <;> cases z
 reach := fun i hi => absurd hi (apu _)
theorem aiU {mask : Nat} (g : jC (mask + 1) = true) (hs : Array Int) (hm : hs.size <= mask + 1) : ∃ ow sl, layClean mask hs = some ow /\ OwnT mask ow hs.toList sl := by
 obtain ⟨ow, sl, e, o⟩ := agf g hs.toList _ [] [] (aks mask) (by simpa using hm)
 refine ⟨ow, sl, ?_, by simpa using o⟩
 unfold layClean
 rw [<- Array.foldl_toList]
 have : hs.toList.foldl (age mask) (some (arb (mask + 1) none, 0)) = some (ow, 0 + hs.toList.length) := e
 show Option.map _ (hs.toList.foldl (age mask) (some (arb (mask + 1) none, 0))) = _
 rw [this]
 rfl
theorem laid_ok {mask : Nat} (mk : mask = 7 \/ mask = 31 \/ mask = 127 \/ mask = 511) (hs : Array Int) (hm : hs.size <= mask) (finger moves : Nat) (led plain : Bool) :
  ∃ t ord, laid mask finger moves led plain hs = some (t, ord) /\ t.mask = mask /\ t.plain = plain /\ t.led = led /\ ord.toList.Perm (aoq hs.size) /\ TB t (ord.toList.map fun i => hs.toList.getD i 0) := by
 have g : jC (mask + 1) = true := by
  rcases mk with rfl | rfl | rfl | rfl
  ·exact aga
  ·exact ad1
  ·exact acb
  ·exact acd
 obtain ⟨ow, sl, e, o⟩ := aiU g hs (by omega)
 let live := (aoq (mask + 1)).filterMap fun j => (ow.getD j none).map (j, ·)
 have mem : ∀ p : Nat × Nat, p ∈ live ↔ p.1 <= mask /\ sl[p.2]? = some p.1 := fun ⟨j, i⟩ => by
  show (j, i) ∈ List.filterMap _ _ ↔ _
  rw [arp]
  constructor
  ·rintro ⟨j', hj, e⟩
   have hj' := aq9.mp (aoK.mp hj)
   cases e2 : ow.getD j' none with
   | none => rw [e2] at e; cases e
   | some i' =>
    rw [e2] at e
    cases e
    exact ⟨hj', (o.own _ hj' _).mp e2⟩
  ·rintro ⟨h1, h2⟩
   refine ⟨j, aoK.mpr (by omega), ?_⟩
   rw [(o.own j h1 i).mpr h2]
   rfl
 have up : (live.map (·.1)).Pairwise (· < ·) := by
  rw [apq]
  show (List.filterMap _ _).Pairwise _
  rw [List.pairwise_filterMap]
  refine List.pairwise_lt_range.imp fun {a b} hab p hp q hq => ?_
  cases e1 : ow.getD a none with
  | none => rw [e1] at hp; cases hp
  | some i =>
   cases e2 : ow.getD b none with
   | none => rw [e2] at hq; cases hq
   | some i2 =>
    rw [e1] at hp
    rw [e2] at hq
    cases hp
    cases hq
    exact hab
 have nd2 : (live.map (·.2)).Nodup := by
  show List.Pairwise _ _
  rw [apq]
  have u2 := apq.mp up
  refine u2.imp_of_mem fun {p q} hp hq hlt hz => ?_
  have a1 := ((mem p).mp hp).2
  have a2 := ((mem q).mp hq).2
  rw [hz, a2] at a1
  have := Option.some.inj a1
  omega
 have pm : (live.map (·.2)).Perm (aoq hs.size) := by
  refine (List.perm_ext_iff_of_nodup nd2 arM).mpr fun i => ?_
  have ls : sl.length = hs.size := by rw [o.len, aok]
  constructor
  ·intro hi
   obtain ⟨p, hp, rfl⟩ := aos.mp hi
   have := (anT.mp ((mem p).mp hp).2).1
   exact aoK.mpr (by omega)
  ·intro hi
   have hi' := aoK.mp hi
   have hl : i < sl.length := by omega
   exact aos.mpr ⟨(sl[i], i), (mem _).mpr ⟨o.le _ (aot hl), anP hl⟩, rfl⟩
 refine ⟨_, _, by unfold laid; rw [e]; rfl, rfl, rfl, rfl, pm, ?_⟩
 have ln : live.length = hs.size := by have := pm.length_eq; rwa [anQ, apn] at this
 have tk : ∀ j, j ∈ sl -> ∃ i, i < live.length /\ (live.map (·.1)).getD i 0 = j := fun j hj => by
  obtain ⟨i, hi, e2⟩ := apD hj
  have : (j, i) ∈ live := (mem _).mpr ⟨o.le j hj, by rw [anP hi, e2]⟩
  obtain ⟨q, hq, e3⟩ := apD this
  exact ⟨q, hq, by rw [anU, aob, anP hq, e3]; rfl⟩
 have gd : ∀ i, (live.map (·.1)).toArray.getD i 0 = (live.map (·.1)).getD i 0 := fun i => by rw [vI]
 refine ⟨mk, rfl, fun i j hij hj => ?_, fun i hi => ?_, ?_, ?_, fun i hi => ?_⟩
 ·show (live.map (·.1)).toArray.getD i 0 < (live.map (·.1)).toArray.getD j 0
  have hj' : j < (live.map (·.1)).length := by
   have h2 : j < (live.map (·.1)).toArray.size := hj
   rwa [aod] at h2
  rw [gd, gd, anU, anU, anP hj', anP (show i < (live.map (·.1)).length by omega)]
  exact apQ.mp up i j (by omega) hj' hij
 ·show (live.map (·.1)).toArray.getD i 0 <= mask
  have hi' : i < (live.map (·.1)).length := by
   have h2 : i < (live.map (·.1)).toArray.size := hi
   rwa [aod] at h2
  rw [gd, anU, anP hi']
  obtain ⟨p, hp, e2⟩ := aos.mp (aot hi')
  show (live.map (·.1))[i] <= mask
  rw [<- e2]
  exact ((mem p).mp hp).1
 ·show (live.map (·.1)).toArray.size = _
  simp
 ·show (apw _ (live.map (·.2))).length <= mask
  rw [anQ, anQ, ln]
  exact hm
 ·have hi' : i < live.length := by
   have hi2 : i < (apw (fun i => hs.toList.getD i 0) (live.map (·.2))).length := hi
   rwa [anQ, anQ] at hi2
  have pl : (live.map (·.1)).toArray.getD i 0 = live[i].1 := by
   rw [gd, anU, aob, anP hi']
   rfl
  have hh : (apw (fun i => hs.toList.getD i 0) (live.map (·.2))).getD i 0 = hs.toList.getD live[i].2 0 := by
   rw [anU, aob, aob, anP hi']
   rfl
  have m2 := (mem live[i]).mp (aot hi')
  have l2 := (anT.mp m2.2).1
  obtain ⟨q, a, b⟩ := o.reach live[i].2 (by rw [<- o.len]; exact l2)
  refine ⟨q, ?_, fun q' hq => ?_⟩
  ·show pos mask ((apw (fun i => hs.toList.getD i 0) (live.map (·.2))).getD i 0) q = (live.map (·.1)).toArray.getD i 0
   rw [hh, pl, a, anU, m2.2]
   rfl
  ·show Tk _ (pos mask ((apw (fun i => hs.toList.getD i 0) (live.map (·.2))).getD i 0) q')
   rw [hh]
   obtain ⟨z, hz, ez⟩ := tk _ (b q' hq)
   exact ⟨z, by show z < (live.map (·.1)).toArray.size; simpa using hz, by show (live.map (·.1)).toArray.getD z 0 = _; rw [gd]; exact ez⟩
end L2.ST
end
section
namespace L2
open PySem PySem.Spec PyProof.Rows
mutual
def zz (w : World) : PyData -> Int
 | .int i => hashInt i
 | .str x => hashStr w x
 | .tuple xs => reduceHash (apR (qv w xs))
 | _ => 0
def qv (w : World) : List PyData -> List Int
 | [] => []
 | x :: xs => zz w x :: qv w xs
end
mutual
def z7 : PyData -> Nat
 | .int _ => 1
 | .str _ => 1
 | .tuple xs => abj xs + 1
 | _ => 0
def abj : List PyData -> Nat
 | [] => 0
 | x :: xs => z7 x + abj xs
end
mutual
theorem abk {P : Program} {w : World} : ∀ (d : PyData) (A : Around) (s : Shared) (v : Value) (as : List Addr) (E : Value -> Shared -> Prop) (Q : Int -> Shared -> Prop), Reads s.heap v d as -> zE d = true -> A.units + 4 * d.depth < cLine ->
  Q (zz w d) { s with toks := s.toks + z7 d } -> wpAny (model P w) A (pyHash v) Q E s
 | .int i, A, s, _, _, E, Q, r, _, _, q => by
  cases r
  rw [zz, z7] at q
  exact wpAny_pyHash_int q
 | .str x, A, s, _, _, E, Q, r, _, _, q => by
  cases r
  rw [zz, z7] at q
  exact wpAny_pyHash_str q
 | .tuple xs, A, s, _, _, E, Q, r, p, hu, q => by
  cases r with
  | @tuple a o vs n _ as h1 h2 h3 h4 =>
   rw [zE] at p
   rw [zz, z7] at q
   have hT : s.TypeIs (.ref a) "tuple" := ⟨o, h1, h2⟩
   have e1 : (PyData.tuple xs).depth = aog xs + 1 := rfl
   rw [e1] at hu
   show wpAny _ A (pyHashByItsType (.ref a)) Q E s
   unfold pyHashByItsType
   apply wpAny_bind; apply wpAny_cRoomFor_or (.inr (by omega))
   apply wpAny_bind; apply wpAny_specialOf hT apA.lookup
   show wpAny _ _ (if (some (Value.builtin "tuple.__hash__") == some Value.none) = true then _ else _) Q E s
   rw [if_neg (by rw [beq_builtin_none]; exact anR)]
   apply wpAny_bind; apply wpAny_specialOf hT apA.lookup
   show wpAny _ _ (callSpecialIfBoundUnlessNone? (.ref a) "__hash__" _ >>= _) Q E s
   apply wpAny_bind
   refine wpAny_callSpecialIfBoundUnlessNone?_slot hT apA (wpAny_call_entry apA hT PySem.F.entry_tuple_hash ?_ (PySem.F.args_tuple_hash_1 _))
   show wpAny _ _ (art (.ref a) >>= _) _ _ s
   apply wpAny_bind; apply wpAny_tupleItemsOf h1 h3
   apply wpAny_bind
   rw [<- aqM]
   have hu1 : A.in1.units = A.units + 1 := rfl
   refine abl xs A.in1 s vs.toList _ #[] _ _ h4 p (by omega) ?_
   simp only [aoN, List.nil_append]
   show wpAny _ _ (retInt (apR (#[] ++ (qv w xs).toArray).toList)) _ _ _
   rw [show (#[] ++ (qv w xs).toArray : Array Int).toList = qv w xs by simp]
   refine wpAny_ret_mkInt ?_
   show wpAny _ _ (pyHashByItsType.reduced _) Q E _
   unfold reduceHash at q
   unfold pyHashByItsType.reduced
   by_cases hr : (decide (-(2 : Int) ^ 63 <= apR (qv w xs)) && decide (apR (qv w xs) < 2 ^ 63)) = true
   ·rw [if_pos hr] at q ⊢
    exact wpAny_pure (by simpa [arH] using q)
   ·rw [if_neg hr] at q ⊢
    exact wpAny_bind (wpAny_rule (wpAny_pure (by simpa [arH] using q)))
 | .none, _, _, _, _, _, _, _, h, _, _ => by cases h
 | .bool _, _, _, _, _, _, _, _, h, _, _ => by cases h
 | .list _, _, _, _, _, _, _, _, h, _, _ => by cases h
 | .dict _, _, _, _, _, _, _, _, h, _, _ => by cases h
theorem abl {P : Program} {w : World} : ∀ (xs : List PyData) (A : Around) (s : Shared) (vs : List Value) (as : List Addr) (acc : Array Int) (E : Value -> Shared -> Prop) (Q : Array Int -> Shared -> Prop), ReadsAll s.heap vs xs as -> zP xs = true -> A.units + 4 * aog xs < cLine ->
  Q (acc ++ (qv w xs).toArray) { s with toks := s.toks + abj xs } -> wpAny (model P w) A (forIn vs acc fun x r => do
   let h <- pyHash x
   pure (ForInStep.yield (r.push h))) Q E s
 | [], A, s, _, _, acc, E, Q, r, _, _, q => by
  cases r
  rw [aqd]
  rw [qv, abj] at q
  exact wpAny_pure (by simpa using q)
 | x :: xs, A, s, _, _, acc, E, Q, r, p, hu, q => by
  cases r with
  | cons r1 r2 =>
   rw [zP, anZ] at p
   rw [qv, abj] at q
   have e1 : aog (x :: xs) = max x.depth (aog xs) := rfl
   rw [e1] at hu
   rw [apV]
   apply wpAny_bind; apply wpAny_bind
   refine abk x A s _ _ _ _ r1 p.1 (by omega) (wpAny_pure ?_)
   refine abl xs A { s with toks := s.toks + z7 x } _ _ _ _ _ r2 p.2 (by omega) ?_
   have e2 : acc.push (zz w x) ++ (qv w xs).toArray = acc ++ (zz w x :: qv w xs).toArray := by simp
   rw [e2]
   rw [<- arH] at q
   exact q
end
mutual
theorem jI {P : Program} {w : World} : ∀ (d : PyData) (n : Nat) (A : Around) (s : Shared) (v : Value) (as : List Addr) (E : Value -> Shared -> Prop) (Q : Bool -> Shared -> Prop), Reads s.heap v d as -> zE d = true -> d.depth <= n -> Q true s -> wpAny (model P w) A (eqIsQuiet n v) Q E s
 | .int i, n, A, s, _, _, E, Q, r, _, _, q => by
  cases r
  rw [eqIsQuiet_byValue n rfl]
  exact wpAny_pure q
 | .str x, n, A, s, _, _, E, Q, r, _, _, q => by
  cases r
  rw [eqIsQuiet_byValue n rfl]
  exact wpAny_pure q
 | .tuple xs, n, A, s, _, _, E, Q, r, p, hn, q => by
  cases r with
  | @tuple a o vs n' _ as h1 h2 h3 h4 =>
   rw [zE] at p
   have e1 : (PyData.tuple xs).depth = aog xs + 1 := rfl
   rw [e1] at hn
   obtain ⟨m, rfl⟩ : ∃ m, n = m + 1 := ⟨n - 1, by omega⟩
   have hT : s.TypeIs (.ref a) "tuple" := ⟨o, h1, h2⟩
   unfold eqIsQuiet
   apply wpAny_bind; apply wpAny_specialOf hT PySem.F.slot_tuple_eq.lookup
   show wpAny _ _ (isInstance (.ref a) (.type "tuple") >>= _) _ _ s
   apply wpAny_bind; apply wpAny_isInstance hT isSubtype_tuple_tuple
   simp only [aoQ, aoF, if_false]
   apply wpAny_bind; apply wpAny_seqItems h1 h3
   apply wpAny_bind
   show wpAny _ _ (forIn vs _ _) _ _ s
   rw [<- aqM]
   exact aau xs m A s _ _ _ _ h4 p (by omega) (wpAny_pure q)
 | .none, _, _, _, _, _, _, _, _, h, _, _ => by cases h
 | .bool _, _, _, _, _, _, _, _, _, h, _, _ => by cases h
 | .list _, _, _, _, _, _, _, _, _, h, _, _ => by cases h
 | .dict _, _, _, _, _, _, _, _, _, h, _, _ => by cases h
theorem aau {P : Program} {w : World} : ∀ (xs : List PyData) (m : Nat) (A : Around) (s : Shared) (vs : List Value) (as : List Addr) (E : Value -> Shared -> Prop) (Q : Option Bool × Unit -> Shared -> Prop), ReadsAll s.heap vs xs as -> zP xs = true -> aog xs <= m -> Q (none, ()) s ->
  wpAny (model P w) A (forIn vs ((none, ()) : Option Bool × Unit) fun y _ => do
   let b <- eqIsQuiet m y
   if (!b) = true then pure (ForInStep.done (some false, ())) else pure (ForInStep.yield (none, ()))) Q E s
 | [], m, A, s, _, _, E, Q, r, _, _, q => by
  cases r
  rw [aqd]
  exact wpAny_pure q
 | x :: xs, m, A, s, _, _, E, Q, r, p, hn, q => by
  cases r with
  | cons r1 r2 =>
   rw [zP, anZ] at p
   have e1 : aog (x :: xs) = max x.depth (aog xs) := rfl
   rw [e1] at hn
   rw [apV]
   apply wpAny_bind; apply wpAny_bind
   refine jI x m A s _ _ _ _ r1 p.1 (by omega) ?_
   simp only [aoQ, aoF, if_false]
   exact wpAny_pure (aau xs m A s _ _ _ _ r2 p.2 (by omega) q)
end
mutual
theorem aac {P : Program} {w : World} : ∀ (d : PyData) (n : Nat) (A : Around) (s : Shared) (v : Value) (as : List Addr) (E : Value -> Shared -> Prop) (Q : Bool -> Shared -> Prop), Reads s.heap v d as -> zE d = true -> d.depth <= n -> Q false s -> wpAny (model P w) A (ofAClassStatement n v) Q E s
 | .int i, n, A, s, _, _, E, Q, r, _, _, q => by
  cases r
  unfold ofAClassStatement
  exact wpAny_pure q
 | .str x, n, A, s, _, _, E, Q, r, _, _, q => by
  cases r
  unfold ofAClassStatement
  exact wpAny_pure q
 | .tuple xs, n, A, s, _, _, E, Q, r, p, hn, q => by
  cases r with
  | @tuple a o vs n' _ as h1 h2 h3 h4 =>
   rw [zE] at p
   have e1 : (PyData.tuple xs).depth = aog xs + 1 := rfl
   rw [e1] at hn
   obtain ⟨m, rfl⟩ : ∃ m, n = m + 1 := ⟨n - 1, by omega⟩
   have hT : s.TypeIs (.ref a) "tuple" := ⟨o, h1, h2⟩
   unfold ofAClassStatement
   apply wpAny_bind; apply wpAny_typeOf hT
   dsimp only
   rw [if_pos (show ("tuple" == "tuple") = true from rfl)]
   apply wpAny_bind; apply wpAny_pure
   simp only [aoQ, aoF, if_false]
   apply wpAny_bind; apply wpAny_seqItems h1 h3
   dsimp only
   apply wpAny_bind
   rw [<- aqM]
   exact ace xs m A s _ _ _ _ h4 p (by omega) (wpAny_pure q)
 | .none, _, _, _, _, _, _, _, _, h, _, _ => by cases h
 | .bool _, _, _, _, _, _, _, _, _, h, _, _ => by cases h
 | .list _, _, _, _, _, _, _, _, _, h, _, _ => by cases h
 | .dict _, _, _, _, _, _, _, _, _, h, _, _ => by cases h
theorem ace {P : Program} {w : World} : ∀ (xs : List PyData) (m : Nat) (A : Around) (s : Shared) (vs : List Value) (as : List Addr) (E : Value -> Shared -> Prop) (Q : Option Bool × Unit -> Shared -> Prop), ReadsAll s.heap vs xs as -> zP xs = true -> aog xs <= m -> Q (none, ()) s ->
  wpAny (model P w) A (forIn vs ((none, ()) : Option Bool × Unit) fun y _ => do
   let b <- ofAClassStatement m y
   if b = true then pure (ForInStep.done (some true, ())) else pure (ForInStep.yield (none, ()))) Q E s
 | [], m, A, s, _, _, E, Q, r, _, _, q => by
  cases r
  rw [aqd]
  exact wpAny_pure q
 | x :: xs, m, A, s, _, _, E, Q, r, p, hn, q => by
  cases r with
  | cons r1 r2 =>
   rw [zP, anZ] at p
   have e1 : aog (x :: xs) = max x.depth (aog xs) := rfl
   rw [e1] at hn
   rw [apV]
   apply wpAny_bind; apply wpAny_bind
   refine aac x m A s _ _ _ _ r1 p.1 (by omega) ?_
   simp only [aoF, if_false]
   exact wpAny_pure (ace xs m A s _ _ _ _ r2 p.2 (by omega) q)
end
mutual
theorem aav {P : Program} {w : World} : ∀ (d : PyData) (n : Nat) (A : Around) (s : Shared) (v : Value) (as : List Addr) (E : Value -> Shared -> Prop) (Q : Bool -> Shared -> Prop), Reads s.heap v d as -> zE d = true -> (∀ b, Q b s) -> wpAny (model P w) A (hashByValue n v) Q E s
 | .int i, n, A, s, _, _, E, Q, r, _, q => by
  cases r
  unfold hashByValue
  exact wpAny_pure (q _)
 | .str x, n, A, s, _, _, E, Q, r, _, q => by
  cases r
  unfold hashByValue
  exact wpAny_pure (q _)
 | .tuple xs, n, A, s, _, _, E, Q, r, p, q => by
  cases r with
  | @tuple a o vs n' _ as h1 h2 h3 h4 =>
   rw [zE] at p
   have hT : s.TypeIs (.ref a) "tuple" := ⟨o, h1, h2⟩
   cases n with
   | zero =>
    unfold hashByValue
    exact wpAny_pure (q _)
   | succ m =>
    unfold hashByValue
    apply wpAny_bind; apply wpAny_specialOf hT apA.lookup
    show wpAny _ _ (seqItems? (.ref a) >>= _) _ _ s
    apply wpAny_bind; apply wpAny_seqItems h1 h3
    apply wpAny_bind
    show wpAny _ _ (forIn vs _ _) _ _ s
    rw [<- aqM]
    exact aaw xs m A s _ _ _ _ h4 p (wpAny_pure (q _)) fun b => wpAny_pure (q b)
 | .none, _, _, _, _, _, _, _, _, h, _ => by cases h
 | .bool _, _, _, _, _, _, _, _, _, h, _ => by cases h
 | .list _, _, _, _, _, _, _, _, _, h, _ => by cases h
 | .dict _, _, _, _, _, _, _, _, _, h, _ => by cases h
theorem aaw {P : Program} {w : World} : ∀ (xs : List PyData) (m : Nat) (A : Around) (s : Shared) (vs : List Value) (as : List Addr) (E : Value -> Shared -> Prop) (Q : Option Bool × Unit -> Shared -> Prop), ReadsAll s.heap vs xs as -> zP xs = true -> Q (none, ()) s -> (∀ b, Q (some b, ()) s) ->
  wpAny (model P w) A (forIn vs ((none, ()) : Option Bool × Unit) fun y _ => do
   let b <- hashByValue m y
   if (!b) = true then pure (ForInStep.done (some false, ())) else pure (ForInStep.yield (none, ()))) Q E s
 | [], m, A, s, _, _, E, Q, r, _, q, _ => by
  cases r
  rw [aqd]
  exact wpAny_pure q
 | x :: xs, m, A, s, _, _, E, Q, r, p, q, q2 => by
  cases r with
  | cons r1 r2 =>
   rw [zP, anZ] at p
   rw [apV]
   apply wpAny_bind; apply wpAny_bind
   refine aav x m A s _ _ _ _ r1 p.1 fun b => ?_
   cases b with
   | true =>
    simp only [aoQ, aoF, if_false]
    exact wpAny_pure (aaw xs m A s _ _ _ _ r2 p.2 q q2)
   | false =>
    simp only [apL, if_true]
    exact wpAny_pure (wpAny_pure (q2 false))
end
noncomputable instance decPy : DecidableEq PyData := fun a b => aoW _
structure KeyAt (h : Heap) (d : PyData) (a : Addr) : Prop where
 rd : ∃ as, Reads h (.ref a) d as
 pl : zE d = true
 dp : d.depth <= 8
theorem KeyAt.keep {h h' : Heap} {d : PyData} {a : Addr} (x : KeyAt h d a) (k : ∀ b o, h.get? b = some o -> (∀ es ep, o.data ≠ .dict es ep) -> (∀ es ep t, o.data ≠ .set es ep t) -> h'.get? b = some o) : KeyAt h' d a := by
 obtain ⟨⟨as, r⟩, p, q⟩ := x
 refine ⟨?_, p, q⟩
 have go : (∀ (d : PyData) (v : Value) (as : List Addr), Reads h v d as -> zE d = true -> Reads h' v d as) := by
  intro d v as r
  refine Reads.rec (motive_1 := fun v d as _ => zE d = true -> Reads h' v d as) (motive_2 := fun vs ds as _ => zP ds = true -> ReadsAll h' vs ds as) ?_ ?_ ?_ ?_ ?_ ?_ ?_ ?_ ?_ r
  ·intro p; cases p
  ·intro b p; cases p
  ·intro i t p; exact .int i t
  ·intro x t p; exact .str x t
  ·intro a o vs n xs as h1 h2 h3 h4 ih p; cases p
  ·intro a o vs n xs as h1 h2 h3 h4 ih p
   rw [zE] at p
   exact .tuple (k a o h1 (fun es ep z => by rw [h3] at z; cases z) (fun es ep t z => by rw [h3] at z; cases z)) h2 h3 (ih p)
  ·intros; rename_i p; cases p
  ·intro p; exact .nil
  ·intro v vs d ds as bs r rs ih1 ih2 p
   rw [zP, anZ] at p
   exact .cons (ih1 p.1) (ih2 p.2)
 exact ⟨as, go d _ as r p⟩
noncomputable def aaL (P : Program) (w : World) : HeapKind P w PyData where
 is := KeyAt
 hash := zz w
 draws := z7
 room := fun A => A.units + 40 < cLine
 inj := fun {h a x y} hx hy => by
  obtain ⟨⟨as, r⟩, p, _⟩ := hx
  obtain ⟨⟨bs, r'⟩, p', _⟩ := hy
  exact SeqAt.Reads.unique _ _ _ _ _ (yG x p) r r'
 keeps := fun {h h' k a d o es ep} x ho hd sb => x.keep fun b u hb n1 n2 => by
  have : b ≠ d := fun z => by
   rw [z, ho] at hb
   cases hb
   exact n1 es ep hd
  exact (sb.2 b this).trans hb
 pyHash := fun {A E s k a Q} hu x q => by
  obtain ⟨⟨as, r⟩, p, hd⟩ := x
  exact abk k A s _ as E Q r p (by omega) q
 eqBool := fun {A E s x y a b Q} hu hx hy q => by
  obtain ⟨⟨as, r⟩, p, hd⟩ := hx
  obtain ⟨⟨bs, r'⟩, p', hd'⟩ := hy
  refine SeqAt.eqAt_reads x y A s _ _ _ _ r r' (yG x p) (yG y p') (by omega) P w E Q ?_
  have : aoo x y = decide (x = y) := by
   by_cases e : x = y
   ·rw [decide_eq_true e]; exact (aaK p p').mpr e
   ·rw [decide_eq_false e]
    cases z : aoo x y with
    | false => rfl
    | true => exact absurd ((aaK p p').mp z) e
  rw [this]
  exact q
 quiet := fun {A E s k a Q} x q => by
  obtain ⟨⟨as, r⟩, p, hd⟩ := x
  exact jI k 8 A s _ as E Q r p hd q
end L2
end
section
namespace L2
open PySem PySem.Spec PyProof.Rows PySem.SetTable
section
variable {P : Program} {w : World} {A : Around} {E : Value -> Shared -> Prop} {s : Shared}
theorem akt {b : Addr} {d : PyData} {Q : Bool -> Shared -> Prop} (kb : KeyAt s.heap d b) : ∀ l : List Value, (∀ y ∈ l, ∃ d' b', y = .ref b' /\ KeyAt s.heap d' b') -> Q false s -> wpAny (model P w) A (searchCouldBeSeen (.ref b) l) Q E s := by
 intro l hl q
 unfold searchCouldBeSeen
 apply wpAny_bind
 refine wpAny_forIn_list _ (fun rest r s' => r = (none, ()) /\ s' = s /\ ∀ y ∈ rest, y ∈ l) _ ?_ ?_ _ _ ⟨rfl, rfl, fun _ h => h⟩
 ·rintro y rest r s' ⟨rfl, rfl, hm⟩
  obtain ⟨d', b', rfl, kb'⟩ := hl y (hm y an0)
  obtain ⟨⟨as, rd⟩, pd, dd⟩ := id kb
  obtain ⟨⟨bs, rd'⟩, pd', dd'⟩ := id kb'
  have more : ∀ z ∈ rest, z ∈ l := fun z hz => hm z (anY _ hz)
  dsimp only
  split
  ·exact wpAny_pure ⟨rfl, rfl, more⟩
  ·apply wpAny_bind
   refine jI d 8 A _ _ as _ _ rd pd dd ?_
   simp only [aoQ, aoF, if_false]
   apply wpAny_bind
   refine jI d' 8 A _ _ bs _ _ rd' pd' dd' ?_
   simp only [aoQ, aoF, if_false]
   apply wpAny_bind
   refine aac d 8 A _ _ as _ _ rd pd dd ?_
   simp only [aoF, if_false]
   apply wpAny_bind
   refine aac d' 8 A _ _ bs _ _ rd' pd' dd' ?_
   simp only [aoF, if_false]
   exact wpAny_pure ⟨rfl, rfl, more⟩
 ·rintro r s' ⟨rfl, rfl, _⟩
  exact wpAny_pure q
structure SetObj (w : World) (h : Heap) (a : Addr) (xs : List (PyData × Addr)) (o : Obj) (es : Array (Int × Value)) (ep : Nat) (t : SetTable) : Prop where
 ob : h.get? a = some o
 ex : o.ExactSet
 da : o.data = .set es ep t
 el : es.toList = xs.map fun x => (zz w x.1, Value.ref x.2)
 ok : ST.TOk t (xs.map fun x => zz w x.1)
theorem SetObj.size {h : Heap} {a : Addr} {xs : List (PyData × Addr)} {o : Obj} {es : Array (Int × Value)} {ep : Nat} {t : SetTable} (x : SetObj w h a xs o es ep t) : es.size = xs.length := by
 rw [<- aok, x.el, anQ]
theorem SetObj.fits {h : Heap} {a : Addr} {xs : List (PyData × Addr)} {o : Obj} {es : Array (Int × Value)} {ep : Nat} {t : SetTable} (x : SetObj w h a xs o es ep t) : t.fits es.size = true := by
 unfold SetTable.fits asp
 have h1 := x.ok.size
 have h2 := x.ok.most
 rw [anQ] at h1 h2
 rw [x.size, h1, x.ok.dum]
 simp
 exact h2
theorem SetObj.at {h : Heap} {a : Addr} {xs : List (PyData × Addr)} {o : Obj} {es : Array (Int × Value)} {ep : Nat} {t : SetTable} (x : SetObj w h a xs o es ep t) {i : Nat} (hi : i < xs.length) : es[i]? = some (zz w xs[i].1, Value.ref xs[i].2) := by
 rw [<- aqn, x.el, aob, anP hi]
 rfl
theorem aiV {t : SetTable} {hs : List Int} (o : ST.TOk t hs) : t.gaveWay = false := by
 unfold SetTable.gaveWay
 rcases o.mask with e | e | e | e <;> rw [e] <;> rfl
theorem aiW {α : Type} {M : Model} {c : Bool} {m : Sem Bool} {u : Sem Unit} {r : Sem α} {Q : α -> Shared -> Prop} (hr : wpAny M A r Q E s) (hm : ∀ R : Bool -> Shared -> Prop, R false s -> wpAny M A m R E s) :
  wpAny M A (if c = true then (do
   let b <- m
   if b = true then do
    u
    r
   else r) else r) Q E s := by
 cases c with
 | false => rw [if_neg anR]; exact hr
 | true =>
  rw [if_pos rfl]
  apply wpAny_bind
  refine hm _ ?_
  rw [if_neg anR]
  exact hr
theorem ad4 {M : Model} {a : Addr} {Q : Bool -> Shared -> Prop} (q : Q true s) : wpAny M A (isSame (.ref a) (.ref a)) Q E s := by
 unfold isSame
 simp only [beq_self_eq_true]
 exact wpAny_pure q
theorem aad {a b : Addr} {d : PyData} {xs : List (PyData × Addr)} {o : Obj} {es : Array (Int × Value)} {ep : Nat} {t : SetTable} {adding : Bool} {Q : SetFound -> Shared -> Prop} (S : SetObj w s.heap a xs o es ep t) (ks : ∀ x ∈ xs, KeyAt s.heap x.1 x.2)
  (kb : KeyAt s.heap d b) (hu : A.units + 40 < cLine) {F : Nat} (hF : ST.First t (zz w d) F) (yes : d ∈ xs.map (·.1) -> ∀ r : Option Nat, (adding = false -> r.isSome = true) -> Q (.there r) s) (no : d ∉ xs.map (·.1) -> Q (.free (ST.pos t.mask (zz w d) F) false) s) :
  ∀ f k stand, k <= F -> F < k + f -> stand.getD (t.probeStart (zz w d)) = ST.road t.mask (zz w d) k ->
   (∀ q i, q < k -> i < xs.length -> ST.pos t.mask (zz w d) q = t.place.getD i 0 -> (xs.getD i (.none, 0)).1 ≠ d) ->
   wpAny (model P w) A (setSearchFrom a (.ref b) (zz w d) adding f stand) Q E s
 | 0, k, stand, h1, h2, _, _ => by omega
 | f + 1, k, stand, h1, h2, hst, past => by
  have sz := S.ok.size
  rw [anQ] at sz
  have key : ∀ g : Nat -> Int, (∀ i, g i = (es[i]?.map (·.1)).getD 0) ->
    (t.probe g (zz w d) (ST.road t.mask (zz w d) k) = some (.empty (ST.pos t.mask (zz w d) F) none) /\ ∀ q i, k <= q -> q < F -> i < t.place.size -> ST.pos t.mask (zz w d) q = t.place.getD i 0 -> g i ≠ zz w d) \/
    ∃ q i, k <= q /\ q < F /\ i < t.place.size /\ ST.pos t.mask (zz w d) q = t.place.getD i 0 /\ g i = zz w d /\ t.probe g (zz w d) (ST.road t.mask (zz w d) k) = some (.candidate (ST.pos t.mask (zz w d) q) i (ST.road t.mask (zz w d) (q + 1))) /\ ∀ q' i', k <= q' -> q' < q -> i' < t.place.size -> ST.pos t.mask (zz w d) q' = t.place.getD i' 0 -> g i' ≠ zz w d :=
   fun g _ => ST.probe_go S.ok.dum S.ok.rise hF (10 * turns t.mask) k h1 (by have := hF.lt; omega)
  have gat : ∀ i (hi : i < xs.length), (es[i]?.map (·.1)).getD 0 = zz w xs[i].1 := fun i hi => by rw [S.at hi]; rfl
  unfold setSearchFrom
  apply wpAny_bind
  refine wpAny_setState_of S.ob S.da S.fits ?_
  dsimp only
  rw [aiV S.ok, if_neg anR, hst]
  have reach : ∀ i (hi : i < xs.length), xs[i].1 = d -> ∃ q, q < F /\ ST.pos t.mask (zz w d) q = t.place.getD i 0 := fun i hi ed => by
   obtain ⟨q, a1, a2⟩ := S.ok.reach i (by rw [anQ]; exact hi)
   have eh : (xs.map fun x => zz w x.1).getD i 0 = zz w d := by
    rw [anU, aob, anP hi, <- ed]
    rfl
   rw [eh] at a1 a2
   refine ⟨q, ?_, a1⟩
   by_cases c : q < F
   ·exact c
   ·by_cases c2 : q = F
    ·subst c2
     exact absurd ⟨i, by omega, a1.symm⟩ hF.free
    ·exact absurd (a2 F (by omega)) hF.free
  have ggd : ∀ i (hi : i < xs.length), xs.getD i (.none, 0) = xs[i] := fun i hi => by rw [anU, anP hi]; rfl
  rcases key (fun i => (es[i]?.map (·.1)).getD 0) (fun i => rfl) with ⟨e, none_⟩ | ⟨q, i, q1, q2, q3, q4, q5, e, none_⟩
  ·have ee : ∀ g : Nat -> Int, (∀ i, g i = (es[i]?.map (·.1)).getD 0) -> t.probe g (zz w d) (ST.road t.mask (zz w d) k) = some (.empty (ST.pos t.mask (zz w d) F) none) := fun g hg => by
    rw [show g = fun i => (es[i]?.map (·.1)).getD 0 from funext hg]
    exact e
   rw [ee]
   rotate_left
   ·exact fun i => rfl
   dsimp only
   refine wpAny_pure (no fun hd => ?_)
   obtain ⟨x, hx, ex⟩ := aos.mp hd
   obtain ⟨i, hi, ei⟩ := apD hx
   have ed : xs[i].1 = d := by rw [ei]; exact ex
   obtain ⟨q, qF, qp⟩ := reach i hi ed
   by_cases c : q < k
   ·exact past q i c hi qp (by rw [ggd i hi]; exact ed)
   ·exact none_ q i (by omega) qF (by omega) qp (by rw [gat i hi, ed])
  ·have ee : ∀ g : Nat -> Int, (∀ i, g i = (es[i]?.map (·.1)).getD 0) -> t.probe g (zz w d) (ST.road t.mask (zz w d) k) = some (.candidate (ST.pos t.mask (zz w d) q) i (ST.road t.mask (zz w d) (q + 1))) := fun g hg => by
    rw [show g = fun i => (es[i]?.map (·.1)).getD 0 from funext hg]
    exact e
   have hi : i < xs.length := by omega
   have mi : xs[i] ∈ xs := aot hi
   have ki := ks _ mi
   rw [ee]
   rotate_left
   ·exact fun i => rfl
   dsimp only
   refine aiW ?_ fun R hR => akt kb _ (fun y hy => ?_) hR
   rotate_left
   ·obtain ⟨p, hp, rfl⟩ := aos.mp hy
    have hp2 : p ∈ es.toList := by
     have := aqq.mp hp
     exact aqq.mpr (Array.mem_filter.mp this).1
    rw [S.el] at hp2
    obtain ⟨x, hx, rfl⟩ := aos.mp hp2
    exact ⟨x.1, x.2, rfl, ks x hx⟩
   rw [S.at hi]
   dsimp only
   apply wpAny_bind; apply wpAny_holding
   refine (aaL P w).eqBool (A := A) hu ki kb ?_
   apply wpAny_bind
   refine wpAny_setState_of S.ob S.da S.fits ?_
   dsimp only
   have same : t.sameMemory t.moves t.mask = some true := by
    unfold SetTable.sameMemory
    rw [if_pos (beq_self_eq_true _)]
   have live : t.slot (ST.pos t.mask (zz w d) q) = .live i := by rw [q4]; exact ST.slot_live S.ok.rise q3
   by_cases ed : xs[i].1 = d
   ·have y2 := yes (aos.mpr ⟨_, mi, ed⟩)
    rw [decide_eq_true ed]
    cases adding with
    | true => exact wpAny_pure (y2 _ fun z => nomatch z)
    | false =>
     rw [apJ, if_neg anR, same]
     dsimp only
     rw [if_pos rfl, live]
     dsimp only
     rw [S.at hi]
     dsimp only
     apply wpAny_bind
     refine ad4 ?_
     apply wpAny_bind; apply wpAny_pure
     rw [if_pos rfl]
     dsimp only
     rw [if_pos rfl]
     exact wpAny_pure (y2 _ fun _ => rfl)
   ·rw [decide_eq_false ed, ash, if_neg anR, same]
    dsimp only
    rw [if_pos rfl, live]
    dsimp only
    rw [S.at hi]
    dsimp only
    apply wpAny_bind
    refine ad4 ?_
    apply wpAny_bind; apply wpAny_pure
    rw [if_pos rfl]
    dsimp only
    rw [if_neg anR]
    refine aad S ks kb hu hF yes no f (q + 1) _ (by omega) (by omega) rfl fun q' i' c1 c2 c3 => ?_
    rw [ggd i' c2]
    intro z
    by_cases c4 : q' < k
    ·exact past q' i' c4 c2 c3 (by rw [ggd i' c2]; exact z)
    ·by_cases c5 : q' = q
     ·subst c5
      have ii : i' = i := by
       have b1 := ST.below_at S.ok.rise (i := i) (by omega)
       have b2 := ST.below_at S.ok.rise (i := i') (by omega)
       rw [<- q4] at b1
       rw [<- c3] at b2
       omega
      subst ii
      exact ed z
     ·exact none_ q' i' (by omega) (by omega) (by omega) c3 (by rw [gat i' c2, z])
end
end L2
end
section
namespace L2
open PySem PySem.Spec PyProof.Rows PySem.SetTable
section
variable {P : Program} {w : World} {A : Around} {E : Value -> Shared -> Prop} {s : Shared} {a b : Addr} {d : PyData} {xs : List (PyData × Addr)} {o : Obj} {es : Array (Int × Value)} {ep : Nat} {t : SetTable}
theorem SetObj.type (S : SetObj w s.heap a xs o es ep t) : s.TypeIs (.ref a) "set" := ⟨o, S.ob, S.ex.1⟩
theorem agg (b : Addr) (es : Array (Int × Value)) : byScan (.ref b) es = false := rfl
theorem ad5 {Q : Bool -> Shared -> Prop} (S : SetObj w s.heap a xs o es ep t) (ks : ∀ x ∈ xs, KeyAt s.heap x.1 x.2) (kb : KeyAt s.heap d b) (hu : A.units + 60 < cLine) (q : Q (decide (d ∈ xs.map (·.1))) { s with toks := s.toks + z7 d }) :
  wpAny (model P w) A (contains (.ref a) (.ref b)) Q E s := by
 obtain ⟨F, hF⟩ := ST.first_of S.ok.toTB (zz w d)
 have hl := hF.lt
 have ht : turns t.mask <= 526 := by
  unfold turns
  rcases S.ok.mask with e | e | e | e <;> omega
 unfold contains
 try with_reducible refine wpAny_holding ?_
 apply wpAny_bind; apply wpAny_specialOf S.type aqy.lookup
 show wpAny _ _ (if (some (Value.builtin "set.__contains__") == some Value.none) = true then _ else _) _ E s
 rw [if_neg (by rw [beq_builtin_none]; exact anR)]
 apply wpAny_bind
 refine wpAny_callSpecialUnlessNone?_slot (name := apE "__contains__") S.type aqy (wpAny_call_entry aqy S.type entry_set_contains ?_ (PySem.F.args_set_contains_2 _ _))
 unfold Builtin.«frozenset.__contains__» arv
 simp only [List.isEmpty_nil, bind_assoc]
 unfold arI Builtin.Frozenset.withSetAsKey setContains
 apply wpAny_bind; apply wpAny_pure
 dsimp only
 apply wpAny_bind; apply wpAny_pure
 dsimp only
 apply wpAny_bind; apply wpAny_tryCatch; apply wpAny_holding
 apply wpAny_bind
 have hu1 : A.in1.units = A.units + 1 := rfl
 have hu2 : A.in1.in1.units = A.units + 1 + 1 := rfl
 refine (aaL P w).pyHash (by show _ + 40 < cLine; omega) kb ?_
 apply wpAny_bind
 unfold setFind setFindIn
 apply wpAny_bind
 refine wpAny_setState_of (s := { s with toks := s.toks + z7 d }) S.ob S.da S.fits ?_
 dsimp only
 rw [agg, if_neg anR]
 apply wpAny_bind
 unfold setSearch
 have fin : ∀ r : Option Nat, r.isSome = decide (d ∈ xs.map (·.1)) -> ∀ R : Value -> Shared -> Prop, R (.bool (decide (d ∈ xs.map (·.1)))) { s with toks := s.toks + z7 d } -> R (.bool r.isSome) { s with toks := s.toks + z7 d } := fun r e R hR => by rw [e]; exact hR
 refine aad (s := { s with toks := s.toks + z7 d }) (adding := false) S ks kb (by omega) hF (fun hd r hr => ?_) (fun hd => ?_) 100000 0 none (aoI _) (by omega) (ST.road_start t _) (fun q i c => by omega)
 ·refine wpAny_pure (wpAny_pure ?_)
  show wpAny _ _ (ret (Value.bool r.isSome)) _ _ _
  rw [hr rfl]
  rw [decide_eq_true hd] at q
  exact wpAny_pure ⟨_, rfl, wpAny_truthy_bool q⟩
 ·refine wpAny_pure (wpAny_pure ?_)
  show wpAny _ _ (ret (Value.bool false)) _ _ _
  rw [decide_eq_false hd] at q
  exact wpAny_pure ⟨_, rfl, wpAny_truthy_bool q⟩
def agh (es : Array (Int × Value)) (laid : Option (SetTable × Array Nat)) : Sem (Array (Int × Value) × SetTable) := do
 let some (t, order) := laid | unsupported "internal:set-table-without-room"
 let es' := order.filterMap (es[·]?)
 if es'.size != es.size then unsupported "internal:set-table-lost-an-element"
 pure (es', t)
theorem aiX (a : Addr) (wanted : Nat) : setRelay a wanted = (do
  let (es, _, t) <- setState a
  if arw wanted > sizeLine then unsupported "set:memory"
  let (es, t) <- agh es (t.relaid (es.map (·.1)) wanted)
  storeSet a es t) := rfl
theorem vg {α : Type} (es : Array α) : ∀ l : List Nat, (∀ i ∈ l, i < es.size) -> ∀ dflt : α, l.filterMap (fun i => es[i]?) = l.map fun i => es.toList.getD i dflt
 | [], _, _ => rfl
 | i :: l, h, dflt => by
  have hi := h i an0
  rw [aqA, apP hi, aor, vg es l (fun j hj => h j (anY _ hj)) dflt]
  simp [hi]
theorem aiY {Q : Unit -> Shared -> Prop} {mask wanted : Nat} (S0 : s.heap.get? a = some o) (ex : o.ExactSet) (da : o.data = .set es ep t) (el : es.toList = xs.map fun x => (zz w x.1, Value.ref x.2)) (tb : ST.TB t (xs.map fun x => zz w x.1)) (mk : mask = 31 \/ mask = 127 \/ mask = 511) (hw : arw wanted = mask + 1)
  (room : xs.length * 5 < mask * 3) (q : ∀ xs' o' es' ep' t' h', xs'.Perm xs -> apX a s.heap h' -> SetObj w h' a xs' o' es' ep' t' -> Q () { s with heap := h' }) : wpAny (model P w) A (setRelay a wanted) Q E s := by
 have sz : es.size = xs.length := by rw [<- aok, el, anQ]
 have fits : t.fits es.size = true := by
  unfold SetTable.fits asp
  have h1 := tb.size
  have h2 := tb.most
  rw [anQ] at h1 h2
  rw [sz, h1, tb.dum]
  simp
  exact h2
 have mk2 : mask = 7 \/ mask = 31 \/ mask = 127 \/ mask = 511 := .inr mk
 obtain ⟨t2, ord, e1, e2, _, _, pm, tb2⟩ := ST.laid_ok mk2 (es.map (·.1)) (by rw [ase, sz]; omega) t.finger (t.movedTo mask) t.led t.plain
 rw [ase] at pm
 have hlt : ∀ i ∈ ord.toList, i < es.size := fun i hi => aoK.mp (pm.mem_iff.mp hi)
 let xs' := ord.toList.map fun i => xs.getD i (.none, 0)
 have px : xs'.Perm xs := by
  have e : (aoq es.size).map (fun i => xs.getD i (.none, 0)) = xs := by
   rw [sz]
   refine aqo fun i => ?_
   rw [aob]
   by_cases hi : i < xs.length
   ·rw [ap9 hi, anP hi]
    simp [hi]
   ·rw [aov (by simp; omega), aov (by omega)]
    rfl
  have := pm.map fun i => xs.getD i (.none, 0)
  rw [e] at this
  exact this
 have ee : (ord.filterMap (es[·]?)).toList = xs'.map fun x => (zz w x.1, Value.ref x.2) := by
  rw [Array.toList_filterMap, vg es ord.toList hlt (0, Value.none), ap1]
  refine arh fun i hi => ?_
  have h2 := hlt i hi
  have h3 : i < xs.length := by omega
  rw [el, anU, aob, anP h3]
  show _ = (zz w (xs.getD i (.none, 0)).1, Value.ref (xs.getD i (.none, 0)).2)
  rw [anU, anP h3]
  rfl
 have es_sz : (ord.filterMap (es[·]?)).size = es.size := by
  rw [<- aok, ee, anQ, px.length_eq, sz]
 have tok : ST.TOk t2 (xs'.map fun x => zz w x.1) := by
  have eh : (ord.toList.map fun i => (es.map (·.1)).toList.getD i 0) = xs'.map fun x => zz w x.1 := by
   rw [ap1]
   refine arh fun i hi => ?_
   have h3 : i < xs.length := by have := hlt i hi; omega
   rw [Array.toList_map, el, ap1, anU, aob, anP h3]
   show zz w xs[i].1 = zz w (xs.getD i (.none, 0)).1
   rw [anU, anP h3]
   rfl
  rw [eh] at tb2
  refine ⟨tb2, ?_⟩
  rw [anQ, px.length_eq, e2]
  exact room
 rw [aiX]
 apply wpAny_bind
 refine wpAny_setState_of S0 da fits ?_
 dsimp only
 rw [hw, if_neg (by rw [sizeLine_eq]; omega)]
 have e1' : t.relaid (es.map (·.1)) wanted = some (t2, ord) := by
  unfold SetTable.relaid
  rw [hw]
  exact e1
 unfold agh
 rw [e1']
 apply wpAny_bind
 dsimp only
 rw [es_sz, bne_self_eq_false, if_neg anR]
 apply wpAny_pure
 dsimp only
 refine wpAny_storeSet_of S0 da ?_ (by rw [es_sz, sz, sizeLine_eq]; omega)
 refine q xs' { o with data := .set (ord.filterMap (es[·]?)) (ep + 1) t2 } (ord.filterMap (es[·]?)) (ep + 1) t2 _ px (aqB _ _ _) ⟨?_, ex, rfl, ee, tok⟩
 have := apb (arW (ord.filterMap (es[·]?)) t2) S0 (by rw [putSet_of _ _ da]; rfl)
 rw [putSet_of _ _ da] at this
 exact this
theorem aiZ {t : SetTable} {hs : List Int} {p : Bool} (x : ST.TB t hs) : ST.TB { t with plain := p } hs := ⟨x.mask, x.dum, x.rise, x.le, x.size, x.most, x.reach⟩
theorem agi {Q : Shared -> Prop} (S : SetObj w s.heap a xs o es ep t) (ks : ∀ x ∈ xs, KeyAt s.heap x.1 x.2) (kb : KeyAt s.heap d b) (hu : A.units + 59 < cLine) (few : xs.length < 300)
  (old : d ∈ xs.map (·.1) -> Q { s with toks := s.toks + z7 d })
  (new : d ∉ xs.map (·.1) -> ∀ xs' o' es' ep' t' h', xs'.Perm ((d, b) :: xs) -> apX a s.heap h' -> SetObj w h' a xs' o' es' ep' t' -> Q { s with heap := h', toks := s.toks + z7 d }) :
  wpAny (model P w) A (setAdd a (.ref b)) (fun _ s' => Q s') E s := by
 obtain ⟨F, hF⟩ := ST.first_of S.ok.toTB (zz w d)
 have hl := hF.lt
 have ht : turns t.mask <= 526 := by
  unfold turns
  rcases S.ok.mask with e | e | e | e <;> omega
 have room := S.ok.room
 rw [anQ] at room
 unfold setAdd
 apply wpAny_holding
 apply wpAny_bind
 refine (aaL P w).pyHash (by show _ + 40 < cLine; omega) kb ?_
 show wpAny _ _ (setAddHashed a (.ref b) (zz w d)) _ _ _
 unfold setAddHashed setAddHashedIn
 apply wpAny_holding
 apply wpAny_bind
 refine wpAny_setState_of (s := { s with toks := s.toks + z7 d }) S.ob S.da S.fits ?_
 dsimp only
 rw [agg, if_neg anR]
 apply wpAny_bind
 unfold setSearch
 refine aad (s := { s with toks := s.toks + z7 d }) (adding := true) S ks kb (by omega) hF (fun hd r _ => ?_) (fun hd => ?_) 100000 0 none (aoI _) (by omega) (ST.road_start t _) (fun q i c => by omega)
 ·exact wpAny_pure (old hd)
 ·dsimp only
  apply wpAny_bind
  refine wpAny_setState_of (s := { s with toks := s.toks + z7 d }) S.ob S.da S.fits ?_
  dsimp only
  obtain ⟨hp, tb⟩ := ST.put_tb S.ok.toTB hF (by rw [anQ]; rcases S.ok.mask with e | e | e | e <;> rw [e] at room ⊢ <;> omega)
  rw [anQ] at hp
  have ep2 : (t.put (ST.pos t.mask (zz w d) F)).2 = below t.place (ST.pos t.mask (zz w d) F) := rfl
  rw [ep2]
  generalize below t.place (ST.pos t.mask (zz w d) F) = p at *
  have pm : (xs.take p ++ (d, b) :: xs.drop p).Perm ((d, b) :: xs) := by
   refine List.perm_middle.trans ?_
   rw [aqV]
  have el : (insertAt es p (zz w d, Value.ref b)).toList = (xs.take p ++ (d, b) :: xs.drop p).map fun x => (zz w x.1, Value.ref x.2) := by
   rw [aqH, S.el, aoE, aor, aq1, aqI]
  have eh : (xs.map fun x => zz w x.1).take p ++ zz w d :: (xs.map fun x => zz w x.1).drop p = (xs.take p ++ (d, b) :: xs.drop p).map fun x => zz w x.1 := by
   rw [aoE, aor, aq1, aqI]
  rw [eh] at tb
  have ln : (xs.take p ++ (d, b) :: xs.drop p).length = xs.length + 1 := by rw [pm.length_eq]; rfl
  have sze : (insertAt es p (zz w d, Value.ref b)).size = xs.length + 1 := by rw [<- aok, el, anQ, ln]
  have step : ∀ bv : Bool, ∀ t2, t2 = (if bv = true then (t.put (ST.pos t.mask (zz w d) F)).1 else { (t.put (ST.pos t.mask (zz w d) F)).1 with plain := false }) ->
    ST.TB t2 ((xs.take p ++ (d, b) :: xs.drop p).map fun x => zz w x.1) /\ t2.mask = t.mask := fun bv t2 e => by
   subst e
   cases bv with
   | true => exact ⟨tb, rfl⟩
   | false => exact ⟨aiZ tb, rfl⟩
  have tail : ∀ bv : Bool, wpAny (model P w) A (do
    storeSet a (insertAt es p (zz w d, Value.ref b)) (if bv = true then (t.put (ST.pos t.mask (zz w d) F)).1 else { (t.put (ST.pos t.mask (zz w d) F)).1 with plain := false })
    if (!false && (if bv = true then (t.put (ST.pos t.mask (zz w d) F)).1 else { (t.put (ST.pos t.mask (zz w d) F)).1 with plain := false }).tooFull) = true then do
     setRelay a (SetTable.grown (es.size + 1))
     pure true
    else pure true) (fun _ s' => Q s') E { s with toks := s.toks + z7 d } := fun bv => by
   obtain ⟨tb2, em⟩ := step bv _ rfl
   generalize (if bv = true then (t.put (ST.pos t.mask (zz w d) F)).1 else { (t.put (ST.pos t.mask (zz w d) F)).1 with plain := false }) = t2 at *
   apply wpAny_bind
   refine wpAny_storeSet_of (s := { s with toks := s.toks + z7 d }) S.ob S.da ?_ (by rw [sze, sizeLine_eq]; omega)
   have g : (s.heap.update a (arW (insertAt es p (zz w d, Value.ref b)) t2)).get? a = some { o with data := .set (insertAt es p (zz w d, Value.ref b)) (ep + 1) t2 } := by
    have := apb (arW (insertAt es p (zz w d, Value.ref b)) t2) S.ob (by rw [putSet_of _ _ S.da]; rfl)
    rw [putSet_of _ _ S.da] at this
    exact this
   have sb := aqB s.heap a (arW (insertAt es p (zz w d, Value.ref b)) t2)
   have fill : t2.tooFull = decide ((xs.length + 1) * 5 >= t.mask * 3) := by
    unfold SetTable.tooFull asp
    have h1 := tb2.size
    rw [anQ, ln] at h1
    rw [h1, tb2.dum, em]
    rfl
   rw [apL, apy, fill]
   by_cases full : (xs.length + 1) * 5 >= t.mask * 3
   ·rw [if_pos (decide_eq_true full), S.size]
    have : ∃ mask, (mask = 31 \/ mask = 127 \/ mask = 511) /\ arw (SetTable.grown (xs.length + 1)) = mask + 1 /\ (xs.length + 1) * 5 < mask * 3 := by
     rcases S.ok.mask with e | e | e | e
     ·rw [e] at room full
      have : xs.length = 4 := by omega
      rw [this]
      exact ⟨31, .inl rfl, by decide, by decide⟩
     ·rw [e] at room full
      have : xs.length = 18 := by omega
      rw [this]
      exact ⟨127, .inr (.inl rfl), by decide, by decide⟩
     ·rw [e] at room full
      have : xs.length = 76 := by omega
      rw [this]
      exact ⟨511, .inr (.inr rfl), by decide, by decide⟩
     ·rw [e] at room full
      omega
    obtain ⟨mask, mk, hw, rm⟩ := this
    apply wpAny_bind
    refine aiY (s := { s with heap := s.heap.update a (arW (insertAt es p (zz w d, Value.ref b)) t2), toks := s.toks + z7 d }) (o := { o with data := .set (insertAt es p (zz w d, Value.ref b)) (ep + 1) t2 }) g S.ex rfl el tb2 mk hw (by rw [ln]; exact rm) fun xs' o' es' ep' t' h' px sb' S' => wpAny_pure ?_
    exact new hd xs' o' es' ep' t' h' (px.trans pm) (sb.trans sb') S'
   ·rw [if_neg (by rw [decide_eq_false full]; exact anR)]
    refine wpAny_pure (new hd _ _ _ _ _ _ pm sb ⟨g, S.ex, rfl, el, ⟨tb2, ?_⟩⟩)
    rw [anQ, ln, em]
    omega
  obtain ⟨as, rd⟩ := kb.rd
  split
  ·apply wpAny_bind
   exact aav d 8 _ { s with toks := s.toks + z7 d } _ as _ _ rd kb.pl fun bv => tail bv
  ·apply wpAny_bind; apply wpAny_pure
   exact tail true
theorem amB {Q : Value -> Shared -> Prop} (S : SetObj w s.heap a xs o es ep t) (ks : ∀ x ∈ xs, KeyAt s.heap x.1 x.2) (kb : KeyAt s.heap d b) (hu : A.units + 60 < cLine) (few : xs.length < 300)
  (old : d ∈ xs.map (·.1) -> Q .none { s with toks := s.toks + z7 d })
  (new : d ∉ xs.map (·.1) -> ∀ xs' o' es' ep' t' h', xs'.Perm ((d, b) :: xs) -> apX a s.heap h' -> SetObj w h' a xs' o' es' ep' t' -> Q .none { s with heap := h', toks := s.toks + z7 d }) :
  wpAny (model P w) A (call (.builtin "set.add") [.ref a, .ref b]) Q E s := by
 refine wpAny_call_entry asi S.type PySem.F.entry_set_add ?_ (PySem.F.args_set_add_2 _ _)
 unfold Builtin.«set.add» arv
 simp only [List.isEmpty_nil, bind_assoc]
 unfold arI
 apply wpAny_bind; apply wpAny_pure
 try dsimp only
 apply wpAny_bind; apply wpAny_pure
 try dsimp only
 apply wpAny_bind
 have hu1 : A.in1.units = A.units + 1 := rfl
 refine agi (Q := fun s' => wpAny (model P w) A.in1 (ret Value.none) (fun fin s' => ∃ r, fin = .done (.ret r) /\ Q r s') E s') S ks kb (by omega) few (fun hd => wpAny_pure ⟨_, rfl, old hd⟩) fun hd xs' o' es' ep' t' h' p1 p2 p3 => wpAny_pure ⟨_, rfl, new hd xs' o' es' ep' t' h' p1 p2 p3⟩
end
inductive OC where
 | lst (es : List PyData)
 | set (ks : List PyData)
 | dic (kvs : List (PyData × PyData))
def SetO (w : World) (a : Addr) (xs : List (PyData × Addr)) : HO := .ext fun h => ∃ o es ep t, SetObj w h a xs o es ep t
structure DicObj (w : World) (h : Heap) (a : Addr) (xs : List (PyData × Addr × Value)) (o : Obj) (es : Array DictEntry) (ep : Nat) : Prop where
 ob : h.get? a = some o
 ex : o.ExactDict
 da : o.data = .dict es ep
 el : es.toList = xs.map fun x => (⟨zz w x.1, .ref x.2.1, x.2.2⟩ : DictEntry)
 nd : (xs.map (·.1)).Nodup
 ns : (a == sysModules) = false
def DicO (w : World) (a : Addr) (xs : List (PyData × Addr × Value)) : HO := .ext fun h => ∃ o es ep, DicObj w h a xs o es ep
def vt (d : PyData) : Prop := zE d = true /\ d.depth <= 8
def EntR (K : anS) (Hh : Hp) (x : PyData × Addr × Value) (p : PyData × PyData) : Prop := x.1 = p.1 /\ vt x.1 /\ Rep K Hh x.1 (.ref x.2.1) /\ ∃ v, Rep K Hh p.2 v /\ RelV v x.2.2
theorem EntR.mono {K : anS} {Hh Hh' : Hp} (s : Same Hh Hh') : ∀ {xs : List (PyData × Addr × Value)} {kvs : List (PyData × PyData)}, Paired (EntR K Hh) xs kvs -> Paired (EntR K Hh') xs kvs
 | _, _, .nil => .nil
 | _, _, .cons ⟨h1, h2, h3, v, h4, h5⟩ t => .cons ⟨h1, h2, Rep.mono s _ _ h3, v, Rep.mono s _ _ h4, h5⟩ (EntR.mono s t)
def OwnAt (w : World) (K : anS) (Hh H : Hp) (D : Addr) : OC -> Prop
 | .lst es => ∃ vs, H D = some (.lst vs) /\ Reps K Hh es vs
 | .set ks => ∃ xs : List (PyData × Addr), H D = some (SetO w D xs) /\ (∀ x ∈ xs, vt x.1 /\ Rep K Hh x.1 (.ref x.2)) /\ (∀ d, d ∈ xs.map (·.1) ↔ d ∈ ks) /\ xs.length <= ks.length
 | .dic kvs => ∃ xs : List (PyData × Addr × Value), H D = some (DicO w D xs) /\ Paired (EntR K Hh) xs kvs
theorem OwnAt.mono {w : World} {K : anS} {Hh Hh' H H' : Hp} {D : Addr} (e : H' D = H D) (s : Same Hh Hh') : ∀ {c : OC}, OwnAt w K Hh H D c -> OwnAt w K Hh' H' D c
 | .lst es, ⟨vs, h1, h2⟩ => ⟨vs, e.trans h1, Reps.mono s es vs h2⟩
 | .set ks, ⟨xs, h1, h2, h3⟩ => ⟨xs, e.trans h1, fun x hx => ⟨(h2 x hx).1, Rep.mono s _ _ (h2 x hx).2⟩, h3⟩
 | .dic kvs, ⟨xs, h1, h2⟩ => ⟨xs, e.trans h1, EntR.mono s h2⟩
def Fx.withs (f : Fx) (Ds : List Addr) : Fx := { f with M := Ds.reverse ++ f.M }
theorem yn (f : Fx) (Ds : List Addr) (D : Addr) : f.withs (Ds ++ [D]) = (f.withs Ds).with D := by
 unfold Fx.withs Fx.with
 rw [aqa]
 rfl
structure CM (w : World) (K : anS) (f : Fx) (Ds : List Addr) (H2 : Hp) (ρ : zy) (cs : List OC) (σ : St) (H : Hp) : Prop where
 env : EnvOk K (f.withs Ds) ρ σ H
 sm : Same (hide H2 (f.withs Ds)) (hide H (f.withs Ds))
 kp : ∀ b ∈ f.M, H b = H2 b
 len : cs.length = Ds.length
 own : ∀ (i : Nat) D c, Ds[i]? = some D -> cs[i]? = some c -> OwnAt w K (hide H (f.withs Ds)) H D c
structure Sep (f : Fx) (Ds : List Addr) : Prop where
 nd : Ds.Nodup
 nf : ∀ D ∈ Ds, f.f ≠ some D
 nm : ∀ D ∈ Ds, D ∉ f.M
section
variable {w : World} {K : anS} {f : Fx} {Ds : List Addr} {H H' H2 : Hp} {ρ ρ2 : zy} {cs : List OC} {σ σ2 : St} {i : Nat} {D : Addr} {c : OC} {o : HO}
theorem jx (hD : D ∈ Ds) : D ∈ (f.withs Ds).M := apg _ (apx.mpr hD)
theorem yi (hD : D ∈ Ds) : hide (upd H D o) (f.withs Ds) = hide H (f.withs Ds) := by
 funext b
 unfold hide
 by_cases h : (f.withs Ds).f = some b \/ b ∈ (f.withs Ds).M
 ·rw [if_pos h, if_pos h]
 ·rw [if_neg h, if_neg h, zI fun (z : b = D) => h (.inr (z ▸ jx hD))]
theorem CM.go (x : CM w K f Ds H2 ρ cs σ H) (g : Goes (f.withs Ds) H H') (e2 : EnvOk K (f.withs Ds) ρ2 σ2 H') : CM w K f Ds H2 ρ2 cs σ2 H' :=
 ⟨e2, x.sm.trans g.sm, fun b hb => (g.kp b (aon _ hb)).trans (x.kp b hb), x.len, fun i D c h1 h2 => (x.own i D c h1 h2).mono (g.kp D (jx (aof h1))) g.sm⟩
theorem CM.self (x : CM w K f Ds H2 ρ cs σ H) : CM w K f Ds H ρ cs σ H := ⟨x.env, Same.refl _, fun _ _ => rfl, x.len, x.own⟩
theorem CM.trans {cs' : List OC} {ρ' : zy} {σ' : St} (x : CM w K f Ds H2 ρ cs σ H) (y : CM w K f Ds H ρ' cs' σ' H') : CM w K f Ds H2 ρ' cs' σ' H' := ⟨y.env, x.sm.trans y.sm, fun b hb => (y.kp b hb).trans (x.kp b hb), y.len, y.own⟩
theorem aku (se : Sep f Ds) (hD : D ∈ Ds) (h : FOk (f.withs Ds) H) : FOk (f.withs Ds) (upd H D o) :=
 ⟨fun p e => let ⟨a, b, h1, h2⟩ := h.fd p e; ⟨a, b, by rw [zI (fun (z : p = D) => se.nf D hD (z ▸ e))]; exact h1, h2⟩, fun b hb => by
  by_cases e : b = D
  ·exact ⟨o, by rw [e]; exact zA⟩
  ·obtain ⟨u, hu⟩ := h.mm b hb
   exact ⟨u, by rw [zI e]; exact hu⟩, h.nm⟩
theorem akv (se : Sep f Ds) (hD : D ∈ Ds) (e : EnvOk K (f.withs Ds) ρ σ H) : EnvOk K (f.withs Ds) ρ σ (upd H D o) :=
 ⟨e.len, fun i x h => by
  obtain ⟨v, h1, h2⟩ := e.get i x h
  refine ⟨v, h1, ?_⟩
  cases x with
  | dat d =>
   show Rep K (hide (upd H D o) (f.withs Ds)) d v
   rw [yi hD]
   exact h2
  | feed => exact h2
  | own k => exact h2
  | exc C =>
   obtain ⟨a, e1, q⟩ := h2
   exact ⟨a, e1, by rw [yi hD]; exact q⟩
  | mon φ =>
   intro H' s
   rw [yi hD] at s
   exact h2 H' s, aku se hD e.fd⟩
theorem CM.put {c' : OC} (se : Sep f Ds) (x : CM w K f Ds H2 ρ cs σ H) (hi : Ds[i]? = some D) (ho : OwnAt w K (hide H (f.withs Ds)) (upd H D o) D c') : CM w K f Ds H2 ρ (cs.set i c') σ (upd H D o) := by
 have hD := aof hi
 refine ⟨akv se hD x.env, by rw [yi hD]; exact x.sm, fun b hb => (zI (fun (z : b = D) => se.nm D hD (z ▸ hb))).trans (x.kp b hb), by rw [apf]; exact x.len, fun j D' c h1 h2 => ?_⟩
 rw [yi hD]
 by_cases e : i = j
 ·subst e
  rw [hi] at h1
  cases h1
  have hl : i < cs.length := by rw [x.len]; exact (anT.mp hi).1
  rw [apk hl] at h2
  cases h2
  exact ho
 ·rw [apY e] at h2
  have ne : D' ≠ D := fun z => by
   subst z
   obtain ⟨l1, e1⟩ := anT.mp hi
   obtain ⟨l2, e2⟩ := anT.mp h1
   exact e ((aqY se.nd).mp (e1.trans e2.symm))
  exact (x.own j D' c h1 h2).mono (zI ne) (Same.refl _)
end
structure MEnds where
 nx : zy -> List OC -> Prop
 rt : PyData -> Prop
 bk : zy -> List OC -> Prop := fun _ _ => False
 ct : zy -> List OC -> Prop := fun _ _ => False
def PSm (w : World) (K : anS) (f : Fx) (Ds : List Addr) (ts : TS) (ρ : zy) (cs : List OC) (O : MEnds) : Prop := Sep f Ds -> ∀ (σ : St) (H H2 : Hp) (E : Ends), CM w K f Ds H2 ρ cs σ H ->
 (∀ ρ' cs' σ' H', CM w K f Ds H2 ρ' cs' σ' H' -> O.nx ρ' cs' -> E.nx σ' H') -> (∀ d v ρ' cs' σ' H', CM w K f Ds H2 ρ' cs' σ' H' -> Rep K (hide H' f) d v -> O.rt d -> E.rt v H') ->
 (∀ ρ' cs' σ' H', CM w K f Ds H2 ρ' cs' σ' H' -> O.bk ρ' cs' -> E.bk σ' H') -> (∀ ρ' cs' σ' H', CM w K f Ds H2 ρ' cs' σ' H' -> O.ct ρ' cs' -> E.ct σ' H') -> ts E σ H
def PTm (w : World) (K : anS) (f : Fx) (Ds : List Addr) (tt : TT) (ρ : zy) (cs : List OC) (B : Bool -> Prop) : Prop := Sep f Ds -> ∀ (σ : St) (H H2 : Hp) (Q : Bool -> Hp -> Prop), CM w K f Ds H2 ρ cs σ H -> (∀ b H', Goes (f.withs Ds) H H' -> B b -> Q b H') -> tt σ H Q
def PEm (w : World) (K : anS) (f : Fx) (Ds : List Addr) (te : TE) (ρ : zy) (cs : List OC) (P : PyData -> Prop) : Prop := Sep f Ds -> ∀ (σ : St) (H H2 : Hp) (Q : VK), CM w K f Ds H2 ρ cs σ H -> (∀ d v H', Goes (f.withs Ds) H H' -> Rep K (hide H' (f.withs Ds)) d v -> P d -> Q v H') -> te σ H Q
def ae7 (w : World) (K : anS) (f : Fx) (te : TE) (ρ : zy) (P : OC -> Prop) : Prop := ∀ (σ : St) (H : Hp) (Q : VK), EnvOk K f ρ σ H ->
 (∀ c D H', Goes f H H' -> H D = none -> OwnAt w K (hide H' (f.with D)) H' D c -> P c -> Q (.ref D) H') -> te σ H Q
section
variable {w : World} {K : anS} {f : Fx} {Ds : List Addr} {ρ : zy} {cs : List OC} {ts tu : TS} {tt : TT} {te : TE} {wi : TI} {g : TG} {O : MEnds} {i j : Nat}
theorem same_withs {H : Hp} : Same (hide H (f.withs Ds)) (hide H f) := fun b o h => by
 obtain ⟨h1, h2⟩ := zO h
 exact zD (fun z => h1 (z.elim .inl fun z => .inr (aon _ z))) h2
theorem aae {D : DEnds} (h : PSm w K f [] ts ρ [] { nx := fun ρ' _ => D.nx ρ', rt := D.rt, bk := fun ρ' _ => D.bk ρ', ct := fun ρ' _ => D.ct ρ' }) : PSd K f ts ρ D := fun σ H E e n r b k => by
 have gg : ∀ {ρ' : zy} {cs' : List OC} {σ' : St} {H' : Hp}, CM w K f [] H ρ' cs' σ' H' -> Goes f H H' := fun x => ⟨x.sm, x.env.fd, x.kp⟩
 exact h ⟨ao4, (fun _ z => nomatch z), (fun _ z => nomatch z)⟩ σ H H E ⟨e, Same.refl _, fun _ _ => rfl, rfl, (fun i D c z => nomatch z)⟩
  (fun ρ' cs' σ' H' x p => n ρ' σ' H' (gg x) x.env p) (fun d v ρ' cs' σ' H' x r' p => r d v H' (gg x) r' p) (fun ρ' cs' σ' H' x p => b ρ' σ' H' (gg x) x.env p) (fun ρ' cs' σ' H' x p => k ρ' σ' H' (gg x) x.env p)
theorem jX (h : PSd K (f.withs Ds) ts ρ { nx := fun ρ' => O.nx ρ' cs, rt := O.rt, bk := fun ρ' => O.bk ρ' cs, ct := fun ρ' => O.ct ρ' cs }) : PSm w K f Ds ts ρ cs O := fun se σ H H2 E x n r b k =>
 h σ H E x.env (fun ρ' σ' H' g' e' p => n ρ' cs σ' H' (x.go g' e') p) (fun d v H' g' r' p => r d v ρ cs σ H' (x.go g' (x.env.mono g')) (Rep.mono same_withs d v r') p) (fun ρ' σ' H' g' e' p => b ρ' cs σ' H' (x.go g' e') p) (fun ρ' σ' H' g' e' p => k ρ' cs σ' H' (x.go g' e') p)
theorem yD (h : PSm w K f Ds ts ρ cs { O with nx := fun ρ' cs' => PSm w K f Ds tu ρ' cs' O }) : PSm w K f Ds (vj ts tu) ρ cs O := fun se σ H H2 E x n r b k =>
 h se σ H H2 _ x (fun ρ' cs' σ' H' x' p => p se σ' H' H2 E x' n r b k) r b k
theorem yC (h : O.nx ρ cs) : PSm w K f Ds afH ρ cs O := fun _ σ H H2 E x n r b k => n ρ cs σ H x h
theorem aaD {B : Bool -> Prop} (h : PTd K (f.withs Ds) tt ρ B) : PTm w K f Ds tt ρ cs B := fun se σ H H2 Q x q => h σ H Q x.env q
theorem vc {P : PyData -> Prop} (h : PEd K (f.withs Ds) te ρ P) : PEm w K f Ds te ρ cs P := fun se σ H H2 Q x q => h σ H Q x.env q
theorem ahv (h : PTm w K f Ds tt ρ cs fun b => if b = true then PSm w K f Ds ts ρ cs O else PSm w K f Ds tu ρ cs O) : PSm w K f Ds (agW tt ts tu) ρ cs O := fun se σ H H2 E x n r b k =>
 h se σ H H2 _ x fun q H1 g1 p => by
  have x1 := x.go g1 (x.env.mono g1)
  cases q with
  | false =>
   rw [if_neg anR] at p ⊢
   exact p se σ H1 H2 E x1 n r b k
  | true =>
   rw [if_pos rfl] at p ⊢
   exact p se σ H1 H2 E x1 n r b k
theorem aax (h : PId K (f.withs Ds) wi ρ fun ds => ∃ J : Nat -> zy -> List OC -> Prop, J 0 ρ cs /\
   (∀ (i : Nat) d ρ' cs', ds[i]? = some d -> J i ρ' cs' -> PGd K (f.withs Ds) g d ρ' fun ρ2 => PSm w K f Ds ts ρ2 cs' { O with nx := J (i + 1), ct := J (i + 1), bk := O.nx }) /\ ∀ ρ' cs', J ds.length ρ' cs' -> O.nx ρ' cs') :
  PSm w K f Ds (aj6 wi g ts) ρ cs O := fun se σ H H2 E x n r b k => h σ H _ x.env fun ds J H1 g1 it ⟨Jv, j0, js, jd⟩ => by
 have x1 := x.go g1 (x.env.mono g1)
 refine ⟨fun i m σ' H' => ∃ ρ' cs', CM w K f Ds H2 ρ' cs' σ' H' /\ Same (hide H1 (f.withs Ds)) (hide H' (f.withs Ds)) /\ Jv i ρ' cs' /\ m + i = ds.length, ⟨ds.length, ρ, cs, x1, Same.refl _, j0, rfl⟩, fun i m σ' H' ⟨ρ', cs', x', sm', p, hm⟩ => ?_⟩
 by_cases hi : i < ds.length
 ·obtain ⟨hgo, hy⟩ := it.go (f.withs Ds) H' i _ x'.env.fd sm' (anP hi)
  refine .inr ⟨hgo, fun σ2 H3 => ∃ ρ2 cs2, CM w K f Ds H2 ρ2 cs2 σ2 H3 /\ Same (hide H1 (f.withs Ds)) (hide H3 (f.withs Ds)) /\ Jv (i + 1) ρ2 cs2, fun σ2 H3 ⟨ρ2, cs2, e2, g2, p2⟩ => ⟨m - 1, by omega, ρ2, cs2, e2, g2, p2, by omega⟩, fun v H3 hx => ?_⟩
  obtain ⟨g3, r3⟩ := hy v H3 hx
  have x3 := x'.go g3 (x'.env.mono g3)
  refine js i _ ρ' cs' (anP hi) p σ' H3 v _ x3.env r3 fun ρ2 σ2 H4 g4 e4 p4 => ?_
  have x4 := x3.go g4 e4
  have sm4 := (sm'.trans g3.sm).trans g4.sm
  exact p4 se σ2 H4 H4 _ x4.self (fun ρ5 cs5 σ5 H5 x5 p5 => ⟨ρ5, cs5, x4.trans x5, sm4.trans x5.sm, p5⟩) (fun d v ρ5 cs5 σ5 H5 x5 r5 p5 => r d v ρ5 cs5 σ5 H5 (x4.trans x5) r5 p5) (fun ρ5 cs5 σ5 H5 x5 p5 => n ρ5 cs5 σ5 H5 (x4.trans x5) p5) (fun ρ5 cs5 σ5 H5 x5 p5 => ⟨ρ5, cs5, x4.trans x5, sm4.trans x5.sm, p5⟩)
 ·have ei : i = ds.length := by omega
  subst ei
  exact .inl ⟨it.st (f.withs Ds) H' x'.env.fd sm', n ρ' cs' σ' H' x' (jd ρ' cs' p)⟩
theorem agj {tb : TS} (J : zy -> List OC -> Prop) (μ : zy -> List OC -> Nat) (h0 : J ρ cs)
  (hs : ∀ ρ' cs', J ρ' cs' -> PTm w K f Ds tt ρ' cs' fun b => if b = true then PSm w K f Ds tb ρ' cs' { O with nx := fun r c => J r c /\ μ r c < μ ρ' cs', ct := fun r c => J r c /\ μ r c < μ ρ' cs', bk := O.nx } else O.nx ρ' cs') : PSm w K f Ds (ah7 tt tb) ρ cs O := fun se σ H H2 E x n r b k => by
 refine ⟨fun m σ' H' => ∃ ρ' cs', CM w K f Ds H2 ρ' cs' σ' H' /\ J ρ' cs' /\ m = μ ρ' cs', ⟨_, ρ, cs, x, h0, rfl⟩, ?_⟩
 rintro m σ1 H1 ⟨ρ1, cs1, x1, j1, rfl⟩
 refine hs ρ1 cs1 j1 se σ1 H1 H2 _ x1 fun t H3 g3 p => ?_
 have x3 := x1.go g3 (x1.env.mono g3)
 cases t with
 | true =>
  rw [if_pos rfl] at p ⊢
  refine ⟨fun σ' H' => ∃ ρ' cs', CM w K f Ds H2 ρ' cs' σ' H' /\ J ρ' cs' /\ μ ρ' cs' < μ ρ1 cs1, fun σ' H' ⟨ρ', cs', x', j', l'⟩ => ⟨_, l', ρ', cs', x', j', rfl⟩, ?_⟩
  exact p se σ1 H3 H2 _ x3 (fun ρ5 cs5 σ5 H5 x5 p5 => ⟨ρ5, cs5, x5, p5⟩) r (fun ρ5 cs5 σ5 H5 x5 p5 => n ρ5 cs5 σ5 H5 x5 p5) (fun ρ5 cs5 σ5 H5 x5 p5 => ⟨ρ5, cs5, x5, p5⟩)
 | false =>
  rw [if_neg anR] at p ⊢
  exact n ρ1 cs1 σ1 H3 x3 p
theorem yz {σ : St} {H H2 : Hp} {D : Addr} (hi : ρ[i]? = some (some (.own (f.M.length + j)))) (x : CM w K f Ds H2 ρ cs σ H) (hD : Ds[j]? = some D) : σ[i]? = some (some (.ref D)) := by
 obtain ⟨v, h1, p, h2, rfl⟩ := x.env.get i _ hi
 have e : (f.withs Ds).M.reverse[f.M.length + j]? = some D := by
  show (Ds.reverse ++ f.M).reverse[f.M.length + j]? = some D
  rw [aqa, aq4, aol (by simp)]
  simpa using hD
 rw [e] at h2
 cases h2
 exact h1
theorem alH {es : List PyData} (hi : ρ[i]? = some (some (.own (f.M.length + j)))) (hc : cs[j]? = some (.lst es)) (hl : es.length < 1000) (h : PEm w K f Ds te ρ cs fun d => O.nx ρ (cs.set j (.lst (es ++ [d])))) : PSm w K f Ds (aaV (tBM K "list" acJ (yb i) (zW te yP))) ρ cs O := fun se σ H H2 E x n r b k => by
 have hj : j < Ds.length := by rw [<- x.len]; exact (anT.mp hc).1
 have hD : Ds[j]? = some Ds[j] := anP hj
 obtain ⟨vs0, h0, _⟩ := x.own j _ _ hD hc
 refine ⟨_, yz hi x hD, Or.inl ⟨rfl, vs0, .of h0⟩, ?_⟩
 refine h se σ H H2 _ x fun d v H1 g1 r1 p1 => ?_
 have x1 := x.go g1 (x.env.mono g1)
 obtain ⟨vs, h1, h2⟩ := x1.own j _ _ hD hc
 refine ⟨_, vs, v, rfl, rfl, h1, yg (by rw [h2.length]; omega), n _ _ _ _ (x1.put se hD (o := .lst (vs ++ [v])) (c' := .lst (es ++ [d])) ⟨vs ++ [v], zA, h2.snoc r1⟩) p1⟩
theorem CM.more {σ : St} {H H1 H2 : Hp} {D : Addr} {c : OC} (x : CM w K f Ds H2 ρ cs σ H) (g : Goes (f.withs Ds) H H1) (hn : H D = none) (ho : OwnAt w K (hide H1 ((f.withs Ds).with D)) H1 D c) (hi : i < ρ.length) :
  CM w K f (Ds ++ [D]) H1 (ρ.set i (some (.own (f.M.length + Ds.length)))) (cs ++ [c]) (σ.set i (some (.ref D))) H1 := by
 have nD : ¬ ((f.withs Ds).f = some D \/ D ∈ (f.withs Ds).M) := fresh_ne x.env.fd hn
 have sm0 : Same (hide H (f.withs Ds)) (hide H1 (f.withs (Ds ++ [D]))) := fun b o hb => by
  have hb1 := g.sm b o hb
  rw [yn]
  refine zD (fun z => ?_) (zO hb1).2
  rcases z with z | z
  ·exact (zO hb1).1 (.inl z)
  ·rcases aoa.mp z with rfl | z
   ·have := (zO hb).2
    rw [hn] at this
    cases this
   ·exact (zO hb1).1 (.inr z)
 have hD1 : ∃ o, H1 D = some o := by
  cases c with
  | lst es => exact ⟨_, ho.choose_spec.1⟩
  | set ks => exact ⟨_, ho.choose_spec.1⟩
  | dic kvs => exact ⟨_, ho.choose_spec.1⟩
 have fo1 : FOk (f.withs (Ds ++ [D])) H1 := by
  rw [yn]
  refine ⟨g.ok.fd, fun b hb => ?_, fun q eq hq => ?_⟩
  ·rcases aoa.mp hb with rfl | hb
   ·exact hD1
   ·exact g.ok.mm b hb
  ·rcases aoa.mp hq with rfl | hq
   ·exact nD (.inl eq)
   ·exact g.ok.nm q eq hq
 have rev : (f.withs (Ds ++ [D])).M.reverse = (f.withs Ds).M.reverse ++ [D] := by
  rw [yn]
  show (D :: (f.withs Ds).M).reverse = _
  rw [apz]
 have lenr : (f.withs Ds).M.reverse.length = f.M.length + Ds.length := by
  show (Ds.reverse ++ f.M).reverse.length = _
  simp
 have e1 : EnvOk K (f.withs (Ds ++ [D])) ρ σ H1 := ⟨x.env.len, fun q y hy => by
  obtain ⟨v, a1, a2⟩ := x.env.get q y hy
  refine ⟨v, a1, ?_⟩
  cases y with
  | dat d => exact Rep.mono sm0 d v a2
  | feed => exact a2
  | exc C =>
   obtain ⟨b, h3, h4⟩ := a2
   exact ⟨b, h3, sm0 _ _ h4⟩
  | mon φ => exact fun H' s => a2 H' (sm0.trans s)
  | own k =>
   obtain ⟨b, h3, h4⟩ := a2
   refine ⟨b, ?_, h4⟩
   rw [rev, aoj (anT.mp h3).1]
   exact h3, fo1⟩
 have rv : RepV K (f.withs (Ds ++ [D])) H1 (.own (f.M.length + Ds.length)) (.ref D) := ⟨D, by
  rw [rev, aol (by omega), lenr, aqj]
  rfl, rfl⟩
 refine ⟨e1.set i rv, Same.refl _, fun _ _ => rfl, by simp [x.len], fun q D' c' h1 h2 => ?_⟩
 by_cases hq : q < Ds.length
 ·rw [aoj hq] at h1
  rw [aoj (by rw [x.len]; exact hq)] at h2
  exact (x.own q D' c' h1 h2).mono (g.kp D' (jx (aof h1))) sm0
 ·by_cases hq2 : q = Ds.length
  ·subst hq2
   rw [aol (anW _), aqj] at h1
   rw [aol (by rw [x.len]; exact anW _), x.len, aqj] at h2
   cases h1
   cases h2
   rw [yn]
   exact ho
  ·rw [aov (by simp; omega)] at h1
   cases h1
theorem Sep.more {H : Hp} {D : Addr} (se : Sep f Ds) (fo : FOk (f.withs Ds) H) (hn : H D = none) : Sep f (Ds ++ [D]) := by
 have nD := fresh_ne fo hn
 refine ⟨ao1.mpr ⟨se.nd, by simp, fun a ha b hb => ?_⟩, fun D' h => ?_, fun D' h => ?_⟩
 ·rw [aom.mp hb]
  intro z
  exact nD (.inr (jx (z ▸ ha)))
 ·rcases aop.mp h with h | h
  ·exact se.nf D' h
  ·rw [aom.mp h]; exact fun z => nD (.inl z)
 ·rcases aop.mp h with h | h
  ·exact se.nm D' h
  ·rw [aom.mp h]; exact fun z => nD (.inr (aon _ z))
theorem CM.less {σ σ' : St} {H H1 H2 H' : Hp} {D : Addr} {ρ' : zy} {cs' : List OC} (x : CM w K f Ds H2 ρ cs σ H) (g : Goes (f.withs Ds) H H1) (hn : H D = none) (y : CM w K f (Ds ++ [D]) H1 ρ' cs' σ' H') :
  CM w K f Ds H2 (ρ'.map (aaI (f.M.length + Ds.length))) (cs'.take Ds.length) σ' H' := by
 have sub : Same (hide H' (f.withs (Ds ++ [D]))) (hide H' (f.withs Ds)) := by rw [yn]; exact qM
 have sm1 : Same (hide H (f.withs Ds)) (hide H1 (f.withs (Ds ++ [D]))) := fun b o hb => by
  have hb1 := g.sm b o hb
  rw [yn]
  refine zD (fun z => ?_) (zO hb1).2
  rcases z with z | z
  ·exact (zO hb1).1 (.inl z)
  ·rcases aoa.mp z with rfl | z
   ·have := (zO hb).2
    rw [hn] at this
    cases this
   ·exact (zO hb1).1 (.inr z)
 have lenr : (f.withs Ds).M.reverse.length = f.M.length + Ds.length := by
  show (Ds.reverse ++ f.M).reverse.length = _
  simp
 have rev : (f.withs (Ds ++ [D])).M.reverse = (f.withs Ds).M.reverse ++ [D] := by
  rw [yn]
  show (D :: (f.withs Ds).M).reverse = _
  rw [apz]
 have fo : FOk (f.withs Ds) H' := by
  have h := y.env.fd
  rw [yn] at h
  exact ⟨h.fd, fun b hb => h.mm b (anY _ hb), fun p e hp => h.nm p e (anY _ hp)⟩
 refine ⟨⟨by rw [anQ]; exact y.env.len, fun q z hz => ?_, fo⟩, (x.sm.trans sm1).trans (y.sm.trans sub), fun b hb => (y.kp b hb).trans ((g.kp b (aon _ hb)).trans (x.kp b hb)), ?_, fun q D' c' h1 h2 => ?_⟩
 ·rw [aob] at hz
  cases e : ρ'[q]? with
  | none => rw [e] at hz; cases hz
  | some z0 =>
   rw [e] at hz
   cases z0 with
   | none => cases hz
   | some z0 =>
    obtain ⟨v, a1, a2⟩ := y.env.get q z0 e
    cases z0 with
    | dat d =>
     cases hz
     exact ⟨v, a1, Rep.mono sub d v a2⟩
    | feed =>
     cases hz
     rw [yn] at a2
     exact ⟨v, a1, a2⟩
    | exc C =>
     cases hz
     obtain ⟨b, h3, h4⟩ := a2
     exact ⟨v, a1, b, h3, sub _ _ h4⟩
    | mon φ =>
     cases hz
     exact ⟨v, a1, fun H' s => a2 H' (sub.trans s)⟩
    | own k =>
     have hz' : (if k < f.M.length + Ds.length then some (DV.own k) else none) = some z := Option.some.inj hz
     by_cases hk : k < f.M.length + Ds.length
     ·rw [if_pos hk] at hz'
      cases hz'
      obtain ⟨b, h3, h4⟩ := a2
      refine ⟨v, a1, b, ?_, h4⟩
      rw [rev, aoj (by omega)] at h3
      exact h3
     ·rw [if_neg hk] at hz'
      cases hz'
 ·rw [aoA, y.len]
  simp
 ·have hq : q < Ds.length := (anT.mp h1).1
  rw [aqG hq] at h2
  exact (y.own q D' c' (by rw [aoj hq]; exact h1) h2).mono rfl sub
theorem acf (h : ae7 w K (f.withs Ds) te ρ fun c => i < ρ.length /\ ∀ D, PSm w K f (Ds ++ [D]) ts (ρ.set i (some (.own (f.M.length + Ds.length)))) (cs ++ [c]) { nx := fun ρ' cs' => O.nx (ρ'.map (aaI (f.M.length + Ds.length))) (cs'.take Ds.length), rt := O.rt, bk := fun ρ' cs' => O.bk (ρ'.map (aaI (f.M.length + Ds.length))) (cs'.take Ds.length), ct := fun ρ' cs' => O.ct (ρ'.map (aaI (f.M.length + Ds.length))) (cs'.take Ds.length) }) :
  PSm w K f Ds (vj (jE te (jy i)) ts) ρ cs O := fun se σ H H2 E x n r b k =>
 h σ H _ x.env fun c D H1 g1 hn ho ⟨hi, p⟩ =>
  p D (se.more x.env.fd hn) _ H1 H1 E (x.more g1 hn ho hi) (fun ρ' cs' σ' H' y q => n _ _ σ' H' (x.less g1 hn y) q) (fun d v ρ' cs' σ' H' y r' q => r d v _ _ σ' H' (x.less g1 hn y) r' q) (fun ρ' cs' σ' H' y q => b _ _ σ' H' (x.less g1 hn y) q) (fun ρ' cs' σ' H' y q => k _ _ σ' H' (x.less g1 hn y) q)
theorem qP {P : OC -> Prop} (h : PEdO K f te ρ fun es => P (.lst es)) : ae7 w K f te ρ P := fun σ H Q e q => h σ H Q e fun es D vs H' g hn h1 rs p => q (.lst es) D H' g hn ⟨vs, h1, rs⟩ p
def freed (n : Nat) (cs : List OC) : Option DV -> Option DV
 | some (.own k) => if k < n then some (.own k) else match cs[k - n]? with
  | some (.lst es) => some (.dat (.list es))
  | _ => none
 | x => x
theorem CM.free {σ : St} {H H2 : Hp} (se : Sep f Ds) (x : CM w K f Ds H2 ρ cs σ H) : EnvOk K f (ρ.map (freed f.M.length cs)) σ H := by
 have fo : FOk f H := ⟨x.env.fd.fd, fun b hb => x.env.fd.mm b (aon _ hb), fun p e hp => x.env.fd.nm p e (aon _ hp)⟩
 refine ⟨by rw [anQ]; exact x.env.len, fun q z hz => ?_, fo⟩
 rw [aob] at hz
 cases e : ρ[q]? with
 | none => rw [e] at hz; cases hz
 | some z0 =>
  rw [e] at hz
  cases z0 with
  | none => cases hz
  | some z0 =>
   obtain ⟨v, a1, a2⟩ := x.env.get q z0 e
   cases z0 with
   | dat d =>
    cases hz
    exact ⟨v, a1, Rep.mono same_withs d v a2⟩
   | feed =>
    cases hz
    exact ⟨v, a1, a2⟩
   | exc C =>
    cases hz
    obtain ⟨b, h3, h4⟩ := a2
    exact ⟨v, a1, b, h3, same_withs _ _ h4⟩
   | mon φ =>
    cases hz
    exact ⟨v, a1, fun H' s => a2 H' (same_withs.trans s)⟩
   | own k =>
    obtain ⟨b, h3, h4⟩ := a2
    have h3' : (Ds.reverse ++ f.M).reverse[k]? = some b := h3
    rw [aqa, aq4] at h3'
    have hz' : (if k < f.M.length then some (DV.own k) else match cs[k - f.M.length]? with | some (.lst es) => some (.dat (.list es)) | _ => none) = some z := Option.some.inj hz
    by_cases hk : k < f.M.length
    ·rw [if_pos hk] at hz'
     cases hz'
     rw [aoj (by simpa using hk)] at h3'
     exact ⟨v, a1, b, h3', h4⟩
    ·rw [if_neg hk] at hz'
     rw [aol (by simpa using arT.mp hk), apC] at h3'
     cases ec : cs[k - f.M.length]? with
     | none => rw [ec] at hz'; cases hz'
     | some c =>
      rw [ec] at hz'
      cases c with
      | lst es =>
       cases hz'
       obtain ⟨vs, h5, h6⟩ := x.own _ _ _ h3' ec
       have hb := aof h3'
       exact ⟨v, a1, rep_list.mpr ⟨b, vs, h4, .of (zD (fun z => z.elim (se.nf b hb) (se.nm b hb)) h5), Reps.mono same_withs es vs h6⟩⟩
      | set ks => cases hz'
      | dic kvs => cases hz'
theorem CM.goF {σ : St} {H H2 H' : Hp} (se : Sep f Ds) (x : CM w K f Ds H2 ρ cs σ H) (g : Goes f H H') : CM w K f Ds H2 ρ cs σ H' := by
 have keep : ∀ b ∈ Ds, H' b = H b := fun b hb => by
  obtain ⟨o, ho⟩ := x.env.fd.mm b (jx hb)
  rw [ho]
  exact (zO (g.sm b o (zD (fun z => z.elim (se.nf b hb) (se.nm b hb)) ho))).2
 have g2 : Goes (f.withs Ds) H H' := ⟨fun b o hb => by
   have hb' := zO hb
   have := zO (g.sm b o (same_withs b o hb))
   exact zD hb'.1 this.2, ⟨g.ok.fd, fun b hb => by
   rcases aop.mp hb with hb | hb
   ·obtain ⟨o, ho⟩ := x.env.fd.mm b (apg _ hb)
    exact ⟨o, by rw [keep b (apx.mp hb)]; exact ho⟩
   ·exact g.ok.mm b hb, x.env.fd.nm⟩, fun b hb => by
   rcases aop.mp hb with hb | hb
   ·exact keep b (apx.mp hb)
   ·exact g.kp b hb⟩
 exact x.go g2 (x.env.mono g2)
theorem ac3 (h : PSd K f ts (ρ.map (freed f.M.length cs)) { nx := fun _ => False, rt := O.rt }) : PSm w K f Ds ts ρ cs O := fun se σ H H2 E x n r b k =>
 h σ H E (x.free se) (fun _ _ _ _ _ z => z.elim) (fun d v H' g' r' p => r d v ρ cs σ H' (x.goF se g') r' p) (fun _ _ _ _ _ z => z.elim) (fun _ _ _ _ _ z => z.elim)
end
def ahw (w : World) (K : anS) (f : Fx) (Ds : List Addr) (ts : TS) (ρ : zy) (cs : List OC) (R : List PyData -> Prop) : Prop := Sep f Ds -> ∀ (σ : St) (H H2 : Hp) (E : Ends), CM w K f Ds H2 ρ cs σ H ->
 (∀ es D vs ρ' cs' σ' H0 H', CM w K f Ds H2 ρ' cs' σ' H0 -> Goes f H0 H' -> H0 D = none -> H' D = some (.lst vs) -> Reps K (hide H' (f.with D)) es vs -> R es -> E.rt (.ref D) H') -> ts E σ H
section
variable {w : World} {K : anS} {f : Fx} {Ds : List Addr} {ρ : zy} {cs : List OC} {ts tu : TS} {te : TE} {R : List PyData -> Prop} {i : Nat}
theorem akw (h : ahw w K f [] ts ρ [] R) : PSn K f ts ρ R := fun σ H E e q => by
 refine h ⟨ao4, (fun _ z => nomatch z), (fun _ z => nomatch z)⟩ σ H H E ⟨e, Same.refl _, fun _ _ => rfl, rfl, (fun i D c z => nomatch z)⟩ fun es D vs ρ' cs' σ' H0 H' x g hn h1 rs p => ?_
 have g0 : Goes f H H0 := ⟨x.sm, x.env.fd, x.kp⟩
 exact q es D vs H' (g0.trans g) (g0.free e.fd hn) h1 rs p
theorem amC (h : PSm w K f Ds ts ρ cs { nx := fun ρ' cs' => ahw w K f Ds tu ρ' cs' R, rt := fun _ => False }) : ahw w K f Ds (vj ts tu) ρ cs R := fun se σ H H2 E x q =>
 h se σ H H2 _ x (fun ρ' cs' σ' H' x' p => p se σ' H' H2 E x' q) (fun _ _ _ _ _ _ _ _ z => z.elim) (fun _ _ _ _ _ z => z.elim) (fun _ _ _ _ _ z => z.elim)
theorem ai0 (h : ae7 w K (f.withs Ds) te ρ fun c => i < ρ.length /\ ∀ D, ahw w K f (Ds ++ [D]) ts (ρ.set i (some (.own (f.M.length + Ds.length)))) (cs ++ [c]) R) :
  ahw w K f Ds (vj (jE te (jy i)) ts) ρ cs R := fun se σ H H2 E x q =>
 h σ H _ x.env fun c D H1 g1 hn ho ⟨hi, p⟩ =>
  p D (se.more x.env.fd hn) _ H1 H1 E (x.more g1 hn ho hi) fun es D' vs ρ' cs' σ' H0 H' y g hn' h1 rs pr => q es D' vs _ _ σ' H0 H' (x.less g1 hn y) g hn' h1 rs pr
theorem akx (h : PSn K f ts (ρ.map (freed f.M.length cs)) R) : ahw w K f Ds ts ρ cs R := fun se σ H H2 E x q =>
 h σ H E (x.free se) fun es D vs H' g hn h1 rs p => q es D vs ρ cs σ H H' x g hn h1 rs p
end
theorem SetO.ok {P : Program} {w : World} {H : Hp} {h : Heap} {a : Addr} {xs : List (PyData × Addr)} {o : Obj} {es : Array (Int × Value)} {ep : Nat} {t : SetTable} (S : SetObj w h a xs o es ep t) : ObjOk P w H h a (SetO w a xs) :=
 ⟨⟨o, es, ep, t, S⟩, ⟨o, S.ob⟩, fun h1 h2 ⟨o, es, ep, t, S⟩ k => ⟨o, es, ep, t, ⟨k o S.ob, S.ex, S.da, S.el, S.ok⟩⟩⟩
theorem acg (led : Bool) : ST.TOk (SetTable.fresh 0 0 led) [] where
 mask := .inl rfl
 dum := rfl
 rise := fun i j _ hj => absurd hj (apu _)
 le := fun i hi => absurd hi (apu _)
 size := rfl
 most := aoI _
 reach := fun i hi => absurd hi (apu _)
 room := by show 0 * 5 < 7 * 3; decide
def ac4 (w : World) : List V -> Hp -> VK -> Prop := fun xs H Q => xs = [] /\ ∀ a, H a = none -> Q (.ref a) (upd H a (SetO w a []))
theorem ad6 {X : Cx} : z6 X (.type "set") (ac4 X.w) := by
 intro pins s σ H xs us Q I r h
 obtain ⟨rfl, q⟩ := h
 cases r
 refine call_set_0 fun led => ?_
 refine ⟨.ref s.heap.objs.size, _, I.laid (t' := s.toks) (fun b u e => anV _ e) (anW _) (SetO.ok (xs := []) (o := { cls := .type "set", dict := none, data := .set #[] 0 (.fresh 0 0 led) }) (es := #[]) (ep := 0) (t := .fresh 0 0 led) ⟨aoi _ rfl, ⟨rfl, rfl, rfl⟩, rfl, rfl, acg led⟩), rfl, q _ (I.hok.fresh (anW _))⟩
def abN (d : PyData) : Prop := vt d /\ ∃ xs, d = .tuple xs
theorem qQ {K : anS} {H : Hp} {d : PyData} {v : V} (k : abN d) (r : Rep K H d v) : ∃ b, v = .ref b := by
 obtain ⟨_, xs, rfl⟩ := k
 obtain ⟨a, _, e, _⟩ := rep_tuple.mp r
 exact ⟨a, e⟩
theorem qi {X : Cx} {pins : List (Addr × Obj)} {σ : St} {H : Hp} {s : Shared} {d : PyData} {b : Addr} (I : Inv X pins σ H s) (k : vt d) (r : Rep X.K H d (.ref b)) : KeyAt s.heap d b := by
 obtain ⟨as, ra⟩ := yT I d (.ref b) (.ref b) r rfl
 exact ⟨⟨as, ra⟩, k.1, k.2⟩
def amD (w : World) (K : anS) (neg : Bool) : R2 := fun x y H Q => ∃ a b d xs, x = .ref b /\ y = .ref a /\ H a = some (SetO w a xs) /\ (∀ z ∈ xs, vt z.1 /\ Rep K H z.1 (.ref z.2)) /\ vt d /\ Rep K H d (.ref b) /\ Q (.bl (if neg then !decide (d ∈ xs.map (·.1)) else decide (d ∈ xs.map (·.1)))) H
theorem aky {X : Cx} (hu : X.A.units + 64 < cLine) {pins : List (Addr × Obj)} {s : Shared} {σ : St} {H : Hp} {a b : Addr} {d : PyData} {xs : List (PyData × Addr)} (I : Inv X pins σ H s) (hS : H a = some (SetO X.w a xs)) (ks : ∀ z ∈ xs, vt z.1 /\ Rep X.K H z.1 (.ref z.2)) (kd : vt d) (rd : Rep X.K H d (.ref b)) {Q : Bool -> Shared -> Prop} {E : Value -> Shared -> Prop}
  (q : Q (decide (d ∈ xs.map (·.1))) { s with toks := s.toks + z7 d }) : wpAny (model X.prog X.w) X.A (contains (.ref a) (.ref b)) Q E s := by
 obtain ⟨⟨o, es, ep, t, S⟩, _⟩ := I.hok a _ hS
 exact ad5 S (fun x hx => qi I (ks x hx).1 (ks x hx).2) (qi I kd rd) (by omega) q
theorem ahx {X : Cx} (hu : X.A.units + 64 < cLine) : OpR X (compareOp .NotIn) (amD X.w X.K true) := by
 intro pins s σ H x y v u Q I rx ry h
 obtain ⟨a, b, d, xs, rfl, rfl, hS, ks, kd, rd, q⟩ := h
 cases rx
 cases ry
 show wpAny _ _ (do return Value.bool (!(<- contains (.ref a) (.ref b)))) _ _ s
 apply wpAny_bind
 exact aky hu I hS ks kd rd (wpAny_pure ⟨.bl _, H, I.tok _, rfl, q⟩)
theorem ae8 {X : Cx} {K : anS} {w : World} (hw : X.w = w) (hK : X.K = K) (hu : X.A.units + 64 < cLine) : OpR X (compareOp .NotIn) (amD w K true) := hw ▸ hK ▸ ahx hu
def ai1 (w : World) (K : anS) : V -> List V -> Hp -> VK -> Prop := fun x ys H Q => ∃ a b d xs, x = .ref a /\ ys = [.ref b] /\ H a = some (SetO w a xs) /\ (∀ z ∈ xs, vt z.1 /\ Rep K H z.1 (.ref z.2)) /\ vt d /\ Rep K H d (.ref b) /\ xs.length < 300 /\
 (d ∈ xs.map (·.1) -> Q .non H) /\ (d ∉ xs.map (·.1) -> ∀ xs', xs'.Perm ((d, b) :: xs) -> Q .non (upd H a (SetO w a xs')))
theorem akz {X : Cx} (hu : X.A.units + 64 < cLine) : MtR X "set.add" (ai1 X.w X.K) := by
 intro pins s σ H x ys v us Q I rx ry h
 obtain ⟨a, b, d, xs, rfl, rfl, hS, ks, kd, rd, few, q1, q2⟩ := h
 obtain ⟨u, rfl, ru⟩ := vals1 ry
 cases rx
 cases ru
 obtain ⟨⟨o, es, ep, t, S⟩, _⟩ := I.hok a _ hS
 refine amB S (fun x hx => qi I (ks x hx).1 (ks x hx).2) (qi I kd rd) (by omega) few (fun hd => ⟨.non, H, I.tok _, rfl, q1 hd⟩) fun hd xs' o' es' ep' t' h' pm sb S' => ?_
 refine ⟨.non, _, I.write (t' := s.toks + z7 d) (x := a) (e := a) (by rw [hS]; exact trivial) (.inl rfl) (fun b u nb e => (sb.2 b nb).trans e) ⟨o', S'.ob⟩ (SetO.ok S'), rfl, q2 hd xs' pm⟩
theorem ai2 {X : Cx} {K : anS} {w : World} (hw : X.w = w) (hK : X.K = K) (hu : X.A.units + 64 < cLine) : MtR X "set.add" (ai1 w K) := hw ▸ hK ▸ akz hu
theorem ac5 {X : Cx} {w : World} (hw : X.w = w) : z6 X (.type "set") (ac4 w) := hw ▸ ad6
def ans (w : World) (r : V -> List V -> Hp -> VK -> Prop) (to : TE) (t : TA) : TE := fun σ H Q => to σ H fun x H1 => (∃ a xs, x = .ref a /\ H1 a = some (SetO w a xs)) /\ t σ H1 fun xs H2 => r x xs H2 Q
theorem amE {X : Cx} {w : World} {o e : Expr} {es : List Expr} {to : TE} {t : TA} {name : Str} {apos cpos : Pos} {id : String} {r : V -> List V -> Hp -> VK -> Prop} (hw : X.w = w) (slot : Slot "set" name id) (hty : typeOf (.builtin id) = pure (.type "method_descriptor")) (hm : MtR X id r) (ho : PE X o to) (ha : PA X (e :: es) t)
  (hbase : attributeBase o name X.env (eval o X.env) = eval o X.env := by rfl)
  (hfew : ((backTo cpos (starEach (e :: es) X.env)).all (fun x => !x.1) && (backToKw cpos (keywordEach [] X.env)).all (fun x => x.1.isSome)
   && decide ((e :: es).length + ([] : List Keyword).length + (if ([] : List Keyword).isEmpty then 0 else 1) < 30)) = true := by rfl)
  (hline : (apos.endLine == cpos.line) = true := by rfl) (hs : starEach (e :: es) X.env = (false, eval e X.env) :: starEach es X.env := by rfl) (hplain : (backTo cpos (starEach es X.env)).any (·.1) = false := by rfl) :
  PE X (.Call (.Attribute o name apos) (e :: es) [] cpos) (ans w r to t) := by
 subst hw
 intro pins s σ H Q I h
 refine wpAny_Call_method_late hbase hfew hline rfl (thn (ho pins s σ H _ I h) fun v s1 ⟨x, H1, I1, r1, ty, q1⟩ => ?_)
 obtain ⟨a, xs, rfl, hS⟩ := ty
 cases r1
 obtain ⟨⟨ob, es', ep, t', S⟩, _⟩ := I1.hok a _ hS
 refine ⟨"set", id, PySem.F.plainAttrs_set, slot, hty, ⟨ob, S.ob, S.ex.1⟩, fun b e => ?_, ?_⟩
 ·cases e
  exact ⟨ob, S.ob, S.ex.2.1⟩
 have hA := ha cpos pins s1 σ H1 _ I1 q1
 rw [hs] at hA ⊢
 refine arS (by show (false || (backTo cpos (starEach es X.env)).any (·.1)) = false; rw [hplain] <;> rfl) (ar9 ?_)
 exact thn hA fun us s2 ⟨vs, H2, I2, r2, q2⟩ => hm pins s2 σ H2 (.ref a) vs (.ref a) us Q I2 rfl r2 q2
section
variable {w : World} {K : anS} {f : Fx} {Ds : List Addr} {ρ : zy} {cs : List OC} {te : TE} {O : MEnds} {i j : Nat} {ks : List PyData}
theorem amF {P : OC -> Prop} (p : P (.set [])) : ae7 w K f (tCB (ac4 w) yP) ρ P := fun σ H Q e q =>
 ⟨rfl, fun a hn => q (.set []) a _ (.of_same (zZ hn _) e.fd) hn ⟨[], zA, (fun _ z => nomatch z), (fun d => Iff.rfl), anW 0⟩ p⟩
theorem ant {neg : Bool} {B : Bool -> Prop} (hi : ρ[i]? = some (some (.own (f.M.length + j)))) (hc : cs[j]? = some (.set ks)) (h : PEm w K f Ds te ρ cs fun d => abN d /\ B (if neg then !decide (d ∈ ks) else decide (d ∈ ks))) :
  PTm w K f Ds (afL (tOp (amD w K neg) te (yb i))) ρ cs B := fun se σ H H2 Q x q => by
 have hj : j < Ds.length := by rw [<- x.len]; exact (anT.mp hc).1
 have hD : Ds[j]? = some Ds[j] := anP hj
 refine h se σ H H2 _ x fun d v H1 g1 r1 ⟨kd, p⟩ => ?_
 have x1 := x.go g1 (x.env.mono g1)
 obtain ⟨b, rfl⟩ := qQ kd r1
 obtain ⟨xs, h1, h2, h3, _⟩ := x1.own j _ _ hD hc
 refine ⟨_, yz hi x1 hD, Ds[j], b, d, xs, rfl, rfl, h1, fun z hz => ⟨(h2 z hz).1, Rep.mono (zo _ _) _ _ (h2 z hz).2⟩, kd.1, Rep.mono (zo _ _) _ _ r1, _, rfl, ?_⟩
 have : decide (d ∈ xs.map (·.1)) = decide (d ∈ ks) := decide_eq_decide.mpr (h3 d)
 rw [this]
 exact q _ H1 g1 p
theorem anu (hi : ρ[i]? = some (some (.own (f.M.length + j)))) (hc : cs[j]? = some (.set ks)) (hl : ks.length < 300) (h : PEm w K f Ds te ρ cs fun d => abN d /\ (d ∈ ks -> O.nx ρ cs) /\ (d ∉ ks -> O.nx ρ (cs.set j (.set (d :: ks))))) :
  PSm w K f Ds (aaV (ans w (ai1 w K) (yb i) (zW te yP))) ρ cs O := fun se σ H H2 E x n r b k => by
 have hj : j < Ds.length := by rw [<- x.len]; exact (anT.mp hc).1
 have hD : Ds[j]? = some Ds[j] := anP hj
 obtain ⟨xs0, h0, _⟩ := x.own j _ _ hD hc
 refine ⟨_, yz hi x hD, ⟨Ds[j], xs0, rfl, h0⟩, ?_⟩
 refine h se σ H H2 _ x fun d v H1 g1 r1 ⟨kd, p1, p2⟩ => ?_
 have x1 := x.go g1 (x.env.mono g1)
 obtain ⟨b, rfl⟩ := qQ kd r1
 obtain ⟨xs, h1, h2, h3, h4⟩ := x1.own j _ _ hD hc
 refine ⟨Ds[j], b, d, xs, rfl, rfl, h1, fun z hz => ⟨(h2 z hz).1, Rep.mono (zo _ _) _ _ (h2 z hz).2⟩, kd.1, Rep.mono (zo _ _) _ _ r1, by omega, fun hd => n _ _ _ _ x1 (p1 ((h3 d).mp hd)), fun hd xs' pm => n _ _ _ _ (x1.put se hD (c' := .set (d :: ks)) ⟨xs', zA, fun z hz => ?_, fun e => ?_, ?_⟩) (p2 fun z => hd ((h3 d).mpr z))⟩
 ·rcases aoa.mp (pm.mem_iff.mp hz) with rfl | hz
  ·exact ⟨kd.1, r1⟩
  ·exact h2 z hz
 ·rw [(pm.map (·.1)).mem_iff, aor, aoa, aoa, h3 e]
 ·rw [pm.length_eq, aoe, aoe]
  omega
end
theorem DicO.ok {P : Program} {w : World} {H : Hp} {h : Heap} {a : Addr} {xs : List (PyData × Addr × Value)} {o : Obj} {es : Array DictEntry} {ep : Nat} (S : DicObj w h a xs o es ep) : ObjOk P w H h a (DicO w a xs) :=
 ⟨⟨o, es, ep, S⟩, ⟨o, S.ob⟩, fun h1 h2 ⟨o, es, ep, S⟩ k => ⟨o, es, ep, ⟨k o S.ob, S.ex, S.da, S.el, S.nd, S.ns⟩⟩⟩
theorem akA {X : Cx} {pins : List (Addr × Obj)} {σ : St} {H : Hp} {s : Shared} (I : Inv X pins σ H s) : sysModules < s.heap.objs.size :=
 aqP (by decide) (I.ok.mod.glob.keeps I.bk).lt
def agk (w : World) : TE := fun _ H Q => ∀ p, H p = none -> Q (.ref p) (upd H p (DicO w p []))
theorem aaf {X : Cx} {w : World} {pos : Pos} (hw : X.w = w) : PE X (.Dict [] [] pos) (agk w) := by
 subst hw
 intro pins s σ H Q I h
 refine wpAny_Dict_empty ⟨.ref s.heap.objs.size, _, I.laid (a := s.heap.objs.size) (t' := s.toks) (fun _ _ q => anV _ q) (anW _) (DicO.ok (xs := []) (o := { cls := .type "dict", data := .dict #[] }) (es := #[]) (ep := 0) ⟨aoi _ rfl, ⟨rfl, rfl, rfl⟩, rfl, rfl, ao4, beq_eq_false_iff_ne.mpr (ape (aoB (akA I)))⟩), rfl, h _ (I.hok.fresh (anW _))⟩
abbrev abm (K : anS) (H : Hp) (xs : List (PyData × Addr × Value)) : Prop := ∀ z ∈ xs, vt z.1 /\ Rep K H z.1 (.ref z.2.1)
theorem ae9 {X : Cx} {pins : List (Addr × Obj)} {σ : St} {H : Hp} {s : Shared} {a : Addr} {xs : List (PyData × Addr × Value)} (I : Inv X pins σ H s) (hS : H a = some (DicO X.w a xs)) (ks : abm X.K H xs) : s.heap.DictOfH (aaL X.prog X.w) a xs /\ (a == sysModules) = false := by
 obtain ⟨⟨o, es, ep, S⟩, _⟩ := I.hok a _ hS
 exact ⟨⟨o, es, ep, S.ob, S.ex, S.da, S.el, fun x hx => qi I (ks x hx).1 (ks x hx).2, S.nd⟩, S.ns⟩
def ac6 (w : World) (K : anS) : V -> V -> V -> Hp -> (Hp -> Prop) -> Prop := fun o i v H Q => ∃ a b d xs, o = .ref a /\ i = .ref b /\ H a = some (DicO w a xs) /\ abm K H xs /\ vt d /\ Rep K H d (.ref b) /\ xs.length <= 1000 /\ ∀ u, RelV v u -> Q (upd H a (DicO w a (storedH xs d b u)))
theorem akB {X : Cx} (hu : X.A.units + 64 < cLine) : aj3 X (ac6 X.w X.K) := by
 intro pins s σ H o i v ov iv u Q I ro ri rv h
 obtain ⟨a, b, d, xs, rfl, rfl, hS, ks, kd, rd, hl, q⟩ := h
 cases ro
 cases ri
 obtain ⟨hm, ns⟩ := ae9 I hS ks
 have hu1 : X.A.in1.units = X.A.units + 1 := rfl
 refine wpAny_setItem_heap (by show _ + 40 < cLine; omega) (qi I kd rd) hm (fun h' hm' sb => ?_) (apj (yg hl))
 obtain ⟨o', es', ep', x1, x2, x3, x4, x5, x6⟩ := hm'
 exact ⟨_, I.write (t' := s.toks + z7 d) (x := a) (e := a) (by rw [hS]; exact trivial) (.inl rfl) (fun b u nb e => (sb.2 b nb).trans e) ⟨o', x1⟩ (DicO.ok ⟨x1, x2, x3, x4, x6, ns⟩), q u rv⟩
theorem vJ {X : Cx} {K : anS} {w : World} (hw : X.w = w) (hK : X.K = K) (hu : X.A.units + 64 < cLine) : aj3 X (ac6 w K) := hw ▸ hK ▸ akB hu
def afa (w : World) (K : anS) : R2 := fun x y H Q => ∃ a b d xs p v, x = .ref a /\ y = .ref b /\ H a = some (DicO w a xs) /\ abm K H xs /\ vt d /\ Rep K H d (.ref b) /\ atKey xs d = some p /\ RelV v p.2 /\ Q v H
theorem amG {X : Cx} (hu : X.A.units + 64 < cLine) : IxR X (afa X.w X.K) := by
 intro value slice pins s σ H x y v u Q I rx ry h hs
 obtain ⟨a, b, d, xs, p, z, rfl, rfl, hS, ks, kd, rd, hp, rz, q⟩ := h
 cases rx
 cases ry
 obtain ⟨hm, ns⟩ := ae9 I hS ks
 have hu1 : X.A.in1.units = X.A.units + 1 := rfl
 refine subscriptTail_builtinR (x := p.2) hm.typeIs arz.lookup ?_ hs
 exact wpAny_getItem_heap (by show _ + 40 < cLine; omega) (qi I kd rd) hm hp ⟨rfl, z, H, I.tok _, rz, q⟩
theorem akC {X : Cx} {K : anS} {w : World} (hw : X.w = w) (hK : X.K = K) (hu : X.A.units + 64 < cLine) : IxR X (afa w K) := hw ▸ hK ▸ amG hu
def afb (w : World) (K : anS) (neg : Bool) : R2 := fun x y H Q => ∃ a b d xs, x = .ref b /\ y = .ref a /\ H a = some (DicO w a xs) /\ abm K H xs /\ vt d /\ Rep K H d (.ref b) /\ Q (.bl (if neg then !(atKey xs d).isSome else (atKey xs d).isSome)) H
theorem ai3 {X : Cx} (hu : X.A.units + 64 < cLine) : OpR X (compareOp .In) (afb X.w X.K false) := by
 intro pins s σ H x y v u Q I rx ry h
 obtain ⟨a, b, d, xs, rfl, rfl, hS, ks, kd, rd, q⟩ := h
 cases rx
 cases ry
 obtain ⟨hm, ns⟩ := ae9 I hS ks
 have hu1 : X.A.in1.units = X.A.units + 1 := rfl
 exact wpAny_in_heap (by show _ + 40 < cLine; omega) (qi I kd rd) ns hm ⟨.bl _, H, I.tok _, rfl, q⟩
noncomputable def dput (k v : PyData) (kvs : List (PyData × PyData)) : List (PyData × PyData) := if k ∈ kvs.map (·.1) then kvs.map (fun p => if p.1 = k then (p.1, v) else p) else kvs ++ [(k, v)]
noncomputable def vK (k : PyData) (kvs : List (PyData × PyData)) : Option PyData := (kvs.find? fun p => decide (p.1 = k)).map (·.2)
section
variable {K : anS} {Hh : Hp}
theorem ac7 : ∀ {xs : List (PyData × Addr × Value)} {kvs : List (PyData × PyData)}, Paired (EntR K Hh) xs kvs -> xs.length = kvs.length
 | _, _, .nil => rfl
 | _, _, .cons _ t => by rw [aoe, aoe, ac7 t]
theorem jD : ∀ {xs : List (PyData × Addr × Value)} {kvs : List (PyData × PyData)}, Paired (EntR K Hh) xs kvs -> abm K Hh xs
 | _, _, .nil => fun z hz => nomatch hz
 | _, _, .cons h t => fun z hz => by
  rcases aoa.mp hz with rfl | hz
  ·exact ⟨h.2.1, h.2.2.1⟩
  ·exact jD t z hz
theorem aaM (k : PyData) : ∀ {xs : List (PyData × Addr × Value)} {kvs : List (PyData × PyData)}, Paired (EntR K Hh) xs kvs -> (atKey xs k = none /\ vK k kvs = none /\ k ∉ kvs.map (·.1)) \/ ∃ p d v, atKey xs k = some p /\ vK k kvs = some d /\ Rep K Hh d v /\ RelV v p.2 /\ k ∈ kvs.map (·.1)
 | _, _, .nil => .inl ⟨rfl, rfl, fun z => nomatch z⟩
 | x :: xs, p :: kvs, .cons ⟨h1, h2, h3, v, h4, h5⟩ t => by
  by_cases e : x.1 = k
  ·refine .inr ⟨x.2, p.2, v, ?_, ?_, h4, h5, ?_⟩
   ·unfold atKey; rw [arc, decide_eq_true e]; rfl
   ·unfold vK; rw [arc, decide_eq_true (h1 ▸ e)]; rfl
   ·rw [aor]; exact aoa.mpr (.inl (h1 ▸ e).symm)
  ·have e' : ¬ p.1 = k := fun z => e (h1.trans z)
   have a1 : atKey (x :: xs) k = atKey xs k := by unfold atKey; rw [arc, decide_eq_false e]
   have a2 : vK k (p :: kvs) = vK k kvs := by unfold vK; rw [arc, decide_eq_false e']
   rw [a1, a2, aor]
   rcases aaM k t with ⟨b1, b2, b3⟩ | ⟨q, d, u, b1, b2, b3, b4, b5⟩
   ·exact .inl ⟨b1, b2, fun z => (aoa.mp z).elim (fun z => e' z.symm) b3⟩
   ·exact .inr ⟨q, d, u, b1, b2, b3, b4, anY _ b5⟩
theorem agl (k : PyData) {d : PyData} {v : V} {u : Value} (rd : Rep K Hh d v) (rv : RelV v u) : ∀ {xs : List (PyData × Addr × Value)} {kvs : List (PyData × PyData)}, Paired (EntR K Hh) xs kvs -> Paired (EntR K Hh) (xs.map (putAt k u)) (kvs.map fun p => if p.1 = k then (p.1, d) else p)
 | _, _, .nil => .nil
 | x :: xs, p :: kvs, .cons ⟨h1, h2, h3, w, h4, h5⟩ t => by
  rw [aor, aor]
  refine .cons ?_ (agl k rd rv t)
  unfold putAt
  by_cases e : x.1 = k
  ·rw [if_pos e, if_pos (h1 ▸ e)]
   exact ⟨h1, h2, h3, v, rd, rv⟩
  ·rw [if_neg e, if_neg (fun z => e (h1.trans z))]
   exact ⟨h1, h2, h3, w, h4, h5⟩
theorem agm {x : PyData × Addr × Value} {p : PyData × PyData} (h : EntR K Hh x p) : ∀ {xs : List (PyData × Addr × Value)} {kvs : List (PyData × PyData)}, Paired (EntR K Hh) xs kvs -> Paired (EntR K Hh) (xs ++ [x]) (kvs ++ [p])
 | _, _, .nil => .cons h .nil
 | _, _, .cons h' t => .cons h' (agm h t)
theorem akD {k d : PyData} {b : Addr} {v : V} {u : Value} (kk : vt k) (rk : Rep K Hh k (.ref b)) (rd : Rep K Hh d v) (rv : RelV v u) {xs : List (PyData × Addr × Value)} {kvs : List (PyData × PyData)} (t : Paired (EntR K Hh) xs kvs) : Paired (EntR K Hh) (storedH xs k b u) (dput k d kvs) := by
 unfold storedH dput
 rcases aaM k t with ⟨b1, b2, b3⟩ | ⟨q, d', v', b1, b2, b3, b4, b5⟩
 ·rw [b1, if_neg (by simp), if_neg b3]
  exact agm ⟨rfl, kk, rk, v, rd, rv⟩ t
 ·rw [b1, if_pos (show (some q).isSome = true from rfl), if_pos b5]
  exact agl k rd rv t
end
section
variable {w : World} {K : anS} {f : Fx} {Ds : List Addr} {ρ : zy} {cs : List OC} {te tk : TE} {O : MEnds} {i j : Nat} {kvs : List (PyData × PyData)}
theorem afc {P : OC -> Prop} (p : P (.dic [])) : ae7 w K f (agk w) ρ P := fun σ H Q e q =>
 fun a hn => q (.dic []) a _ (.of_same (zZ hn _) e.fd) hn ⟨[], zA, .nil⟩ p
theorem agn (hi : ρ[i]? = some (some (.own (f.M.length + j)))) (hc : cs[j]? = some (.dic kvs)) (hl : kvs.length <= 1000)
  (h : PEd K (f.withs Ds) te ρ fun v => PEd K (f.withs Ds) tk ρ fun k => abN k /\ O.nx ρ (cs.set j (.dic (dput k v kvs)))) :
  PSm w K f Ds (jE te (aaW (yb i) tk (ac6 w K))) ρ cs O := fun se σ H H2 E x n r b k => by
 have hj : j < Ds.length := by rw [<- x.len]; exact (anT.mp hc).1
 have hD : Ds[j]? = some Ds[j] := anP hj
 refine h σ H _ x.env fun v vv H1 g1 r1 p1 => ?_
 have x1 := x.go g1 (x.env.mono g1)
 refine ⟨_, yz hi x1 hD, ?_⟩
 refine p1 σ H1 _ x1.env fun kd kv H3 g3 r3 ⟨kt, p3⟩ => ?_
 have x3 := x1.go g3 (x1.env.mono g3)
 obtain ⟨b', rfl⟩ := qQ kt r3
 obtain ⟨xs, h1, h2⟩ := x3.own j _ _ hD hc
 have rv := Rep.mono g3.sm _ _ r1
 refine ⟨Ds[j], b', kd, xs, rfl, rfl, h1, fun z hz => ⟨(jD h2 z hz).1, Rep.mono (zo _ _) _ _ (jD h2 z hz).2⟩, kt.1, Rep.mono (zo _ _) _ _ r3, by rw [ac7 h2]; exact hl, fun u ru => ?_⟩
 exact n _ _ _ _ (x3.put se hD (c' := .dic (dput kd v kvs)) ⟨_, zA, akD kt.1 r3 rv ru h2⟩) p3
theorem anv {P : PyData -> Prop} (hi : ρ[i]? = some (some (.own (f.M.length + j)))) (hc : cs[j]? = some (.dic kvs)) (h : PEm w K f Ds tk ρ cs fun k => abN k /\ ∃ d, vK k kvs = some d /\ P d) : PEm w K f Ds (tOp (afa w K) (yb i) tk) ρ cs P := fun se σ H H2 Q x q => by
 have hj : j < Ds.length := by rw [<- x.len]; exact (anT.mp hc).1
 have hD : Ds[j]? = some Ds[j] := anP hj
 refine ⟨_, yz hi x hD, ?_⟩
 refine h se σ H H2 _ x fun k v H1 g1 r1 ⟨kt, d, hd, p⟩ => ?_
 have x1 := x.go g1 (x.env.mono g1)
 obtain ⟨b, rfl⟩ := qQ kt r1
 obtain ⟨xs, h1, h2⟩ := x1.own j _ _ hD hc
 rcases aaM k h2 with ⟨b1, b2, b3⟩ | ⟨pp, d', v', b1, b2, b3, b4, b5⟩
 ·rw [b2] at hd; cases hd
 ·rw [b2] at hd
  cases hd
  exact ⟨Ds[j], b, k, xs, pp, v', rfl, rfl, h1, fun z hz => ⟨(jD h2 z hz).1, Rep.mono (zo _ _) _ _ (jD h2 z hz).2⟩, kt.1, Rep.mono (zo _ _) _ _ r1, b1, b4, q _ _ H1 g1 b3 p⟩
theorem anw (h : PEm w K f Ds te ρ cs O.rt) : PSm w K f Ds (aeJ te) ρ cs O := fun se σ H H2 E x n r b k =>
 h se σ H H2 _ x fun d v H' g' r' p => r d v ρ cs σ H' (x.go g' (x.env.mono g')) (Rep.mono same_withs d v r') p
end
def akE (K : anS) (ns : List Int) (v : Value) : Bool := match v with
 | .ref t => (match K.lookup t with
  | some o => o.cls == .type "tuple" && (match o.data with
   | .seq its _ => KTD.intsLook its.toList ns && decide (its.size <= 1000)
   | _ => false)
  | none => false)
 | _ => false
def ahy (K : anS) (a : Addr) (D : List (Str × List Int)) : Bool := !(a == sysModules) && (match K.lookup a with
 | some o => o.cls == .type "dict" && o.dict.isNone && o.slots.isEmpty && (match o.data with
  | .dict es _ => KTD.rowsLook (akE K) es.toList D
  | _ => false)
 | none => false)
theorem ach : ∀ {vs : List Value} {ns : List Int}, IntsAre vs ns -> Vals (ns.map V.int) vs
 | _, _, .nil => .nil
 | _, _, .cons n t h => .cons ⟨t, rfl⟩ (ach h)
theorem amH {K : anS} {ns : List Int} {v : Value} (h : akE K ns v = true) : ∃ t, v = .ref t /\ ∀ H, SqT K H t (ns.map V.int) := by
 unfold akE at h
 split at h
 ·rename_i t
  split at h
  ·rename_i o ho
   rw [anZ] at h
   obtain ⟨h1, h2⟩ := h
   split at h2
   ·rename_i its n hd
    rw [anZ] at h2
    exact ⟨t, rfl, fun H => .inr ⟨o, its, n, ho, beq_iff_eq.mp h1, hd, apj (yg (of_decide_eq_true h2.2)), ach (KTD.ints_of_look h2.1)⟩⟩
   ·cases h2
  ·cases h
 ·cases h
def anx (K : anS) (D : List (Str × List Int)) (tk : TE) : TE := fun σ H Q => tk σ H fun y H1 => ∃ x ns, y = .str x /\ asj x D = some ns /\ ∀ t, (∀ H', SqT K H' t (ns.map V.int)) -> Q (.ref t) H1
theorem ai4 {X : Cx} {K : anS} {x : Str} {a : Addr} {D : List (Str × List Int)} {key : Expr} {tk : TE} {p pos : Pos} (hK : X.K = K) (hg : Gl X x) (hm : X.mg x = some (.ref a)) (hT : ahy K a D = true) (hk : PE X key tk) (hs : afR key) (hd : (x == ("__debug__" : Str)) = false := by decide) :
  PE X (.Subscript (.Name x p) key pos) (anx K D tk) := by
 subst hK
 intro pins s σ H Q I h
 unfold ahy at hT
 rw [anZ] at hT
 obtain ⟨h0, hT⟩ := hT
 split at hT
 case h_2 => cases hT
 case h_1 o ho =>
  simp only [anZ] at hT
  obtain ⟨⟨⟨e1, e2⟩, e3⟩, e4⟩ := hT
  split at e4
  case h_2 => cases e4
  case h_1 es ep hdat =>
   have rows : KTD.Rows (fun ns v => akE X.K ns v = true) es.toList D := KTD.rows_of_look (fun _ _ z => z) e4
   refine Subscript_ (acB I hg hm ?_ hd)
   refine thn (hk pins s σ H _ I h) fun u s1 ⟨y, H1, I1, ry, z, ns, ey, dat, q⟩ => ?_
   subst ey
   obtain ⟨tk', rfl⟩ := ry
   have ho1 : s1.heap.get? a = some o := I1.kIn a o ho
   have hT1 : s1.TypeIs (.ref a) "dict" := ⟨o, ho1, beq_iff_eq.mp e1⟩
   obtain ⟨v, hv, hr⟩ := rows.find_some dat
   obtain ⟨t, rfl, sq⟩ := amH hr
   refine subscriptTail_builtinR (x := .ref t) hT1 arz.lookup ?_ (hs _ _)
   unfold getItem
   try with_reducible refine wpAny_holding ?_
   apply wpAny_bind; refine wpAny_sequenceKey hT1 (by decide) ?_
   apply wpAny_bind
   refine wpAny_callSpecial?_slot (name := apE "__getitem__") hT1 slot_dict_getitem (wpAny_call_entry slot_dict_getitem hT1 entry_dict_getitem ?_ (args_dict_getitem _ _))
   show wpAny _ _ (dictGet a (.str z tk') >>= _) _ _ s1
   apply wpAny_bind
   unfold dictGet
   try with_reducible refine wpAny_holding ?_
   apply wpAny_bind; apply wpAny_pyHash_str
   apply wpAny_bind
   refine KTD.kt_dictFind_strs (s := { s1 with toks := s1.toks + 1 }) ho1 hdat (by obtain ⟨l⟩ := es; simpa using rows.exact) ?_
   cases hi : es.findIdx? fun e => e.key.isStr z with
   | none =>
    exfalso
    have hn : es.toList.find? (fun e => e.key.isStr z) = none := by
     rw [List.find?_eq_none]
     intro e he
     have := Array.findIdx?_eq_none_iff.mp hi e (aqq.mp he)
     simpa using this
    rw [hn] at hv
    cases hv
   | some i =>
    obtain ⟨hlt, hi1, hi2⟩ := Array.findIdx?_eq_some_iff_getElem.mp hi
    have hval : es[i].val = .ref t := by
     have hf : es.toList.find? (fun e => e.key.isStr z) = some es[i] := by
      rw [List.find?_eq_some_iff_getElem]
      refine ⟨hi1, i, by simpa using hlt, by simp, fun j hj => ?_⟩
      have := hi2 j hj
      simpa using this
     rw [hf] at hv
     exact Option.some.inj hv
    apply wpAny_bind
    refine wpAny_dictEntries (s := { s1 with toks := s1.toks + 1 }) ho1 hdat (wpAny_pure ?_)
    rw [apP hlt]
    refine wpAny_pure ⟨es[i].val, rfl, wpAny_pure ?_⟩
    rw [hval]
    exact ⟨rfl, .ref t, H1, I1.tok _, rfl, q t sq⟩
section
variable {K : anS} {f : Fx} {ρ : zy} {P : PyData -> Prop} {tk : TE} {D : List (Str × List Int)}
theorem alI (h : PEd K f tk ρ fun y => ∃ x ns, y = .str x /\ asj x D = some ns /\ P (.tuple (ns.map .int))) : PEd K f (anx K D tk) ρ P := fun σ H Q e q =>
 h σ H _ e fun y v H1 g1 r1 ⟨x, ns, ey, hd, p⟩ => by
  subst ey
  exact ⟨x, ns, rep_str.mp r1, hd, fun t sq => q _ _ H1 g1 (rep_tuple.mpr ⟨t, ns.map V.int, rfl, sq _, Reps.ints' ns⟩) p⟩
end
abbrev Kp (h h' : Heap) : Prop := ∀ b o, h.get? b = some o -> h'.get? b = some o
structure MinAt (h0 : Heap) (its : List Value) (ds : List PyData) (as : List Addr) : Prop where
 ra : ReadsAll h0 its ds as
 pl : ∀ d ∈ ds, zE d = true
 cp : ∀ d ∈ ds, ∀ e ∈ ds, qH d e = true
 dp : ∀ d ∈ ds, d.depth <= 50
abbrev anz (v : Value) (c : Nat) : Obj := { cls := .type "list", dict := none, data := .seq #[v, v] c, slots := #[] }
def vL (ds : List PyData) (i b : Nat) : Prop := b < i /\ ∀ m, m < i -> ltD (ds.getD m .none) (ds.getD b .none) = false
theorem yF {ds : List PyData} {i : Nat} (h : i < ds.length) : ds.getD i .none ∈ ds := by
 rw [anU, anP h]
 exact aot h
theorem afd {ds : List PyData} (pl : ∀ d ∈ ds, zE d = true) {i b : Nat} (hi : i < ds.length) (L : vL ds i b) : vL ds (i + 1) (if ltD (ds.getD i .none) (ds.getD b .none) = true then i else b) := by
 obtain ⟨hb, hl⟩ := L
 have pi := pl _ (yF hi)
 have pb := pl _ (yF (aqP hb hi))
 by_cases h : ltD (ds.getD i .none) (ds.getD b .none) = true
 ·rw [if_pos h]
  refine ⟨aqv i, fun m hm => ?_⟩
  rcases ap5.mp hm with z | rfl
  ·rw [Bool.eq_false_iff]
   intro y
   have := ae5 _ _ _ (pl _ (yF (aqP z hi))) pi pb y h
   rw [hl m z] at this
   cases this
  ·exact ae4 _ pi
 ·rw [if_neg h]
  refine ⟨apa hb, fun m hm => ?_⟩
  rcases ap5.mp hm with z | rfl
  ·exact hl m z
  ·exact Bool.eq_false_iff.mpr h
section
variable {prog : Program} {w : World} {A : Around} {R : Result -> Shared -> Prop} {h0 : Heap} {its : List Value} {ds : List PyData} {as : List Addr} {I S T : Addr} {s0 : Shared}
theorem ai5 (M : MinAt h0 its ds as) (hu : A.units + 60 < cLine) (hh : A.handled = none) (tu : h0.IsTuple T its.toArray) (nI : h0.get? I = none) (nS : h0.get? S = none) (dif : S ≠ I)
  (fin : ∀ b h' tk, vL ds its.length b -> Kp h0 h' -> R (.ok (.ret (its.getD b Value.none))) { s0 with heap := h', toks := tk }) :
  ∀ (k i b : Nat) (h : Heap) (t c : Nat), i + k = its.length -> vL ds i b -> h.IsTupleIter I T i -> Kp h0 h -> h.get? S = some (anz (its.getD b Value.none) c) ->
   codeAny (model prog w) A (.builtin "min.loop" ⟨[.ref I, .none, .ref S], []⟩) R { s0 with heap := h, toks := t } := by
 have len := apv _ _ _ M.ra
 have nT : T ≠ I := fun z => by
  obtain ⟨o, ho, _⟩ := tu
  rw [z, nI] at ho
  cases ho
 have nK : ∀ {b : Addr} {o : Obj}, h0.get? b = some o -> b ≠ I /\ b ≠ S := fun {b o} e => ⟨(fun z => nomatch (nI.symm.trans (z ▸ e) : none = some o)), (fun z => nomatch (nS.symm.trans (z ▸ e) : none = some o))⟩
 intro k
 induction k with
 | zero =>
  intro i b h t c hk L it kp hS
  rw [show i = its.length from hk] at L it
  refine codeAny_builtin arO ?_
  rw [ap2 apI _]
  refine wpAny_bind (wpAny_seqItems hS rfl (wpAny_bind (wpAny_tryCatch (wpAny_pyNext_tuple_end hh it (tu.at fun o e => kp T o e) (by simp) fun h2 e2 => ?_))))
  refine wpAny_bind (wpAny_updateSeq (e2 S _ dif hS) rfl (wpAny_bind (wpAny_letGo (wpAny_pure (fin b _ t L fun a o e => ?_)))))
  obtain ⟨n1, n2⟩ := nK e
  exact (aoM _ _ n2.symm).trans (e2 a o n1 (kp a o e))
 | succ k ih =>
  intro i b h t c hk L it kp hS
  have hi : i < its.length := by omega
  have hid : i < ds.length := by omega
  have hbd : b < ds.length := aqP L.1 hid
  have L2 := afd M.pl hid L
  refine codeAny_builtin arO ?_
  rw [ap2 apI _]
  refine wpAny_bind (wpAny_seqItems hS rfl (wpAny_bind (wpAny_tryCatch (wpAny_pyNext_tuple_item it (tu.at fun o e => kp T o e) (x := its.getD i Value.none) (by rw [anU, anP hi]; simp [hi]) fun h2 it2 sb => ?_))))
  have e2 : ∀ a o, a ≠ I -> h.get? a = some o -> h2.get? a = some o := fun a o n e => sb.extBut a o n e
  have kp2 : Kp h0 h2 := fun a o e => e2 a o (nK e).1 (kp a o e)
  obtain ⟨b1, r1⟩ := ReadsAll.at (ReadsAll.keep kp2 M.ra) i hid
  obtain ⟨b2, r2⟩ := ReadsAll.at (ReadsAll.keep kp2 M.ra) b hbd
  have d1 := M.dp _ (yF hid)
  have d2 := M.dp _ (yF hbd)
  have lt := abh _ _ A.in1 { s0 with heap := h2, toks := t } _ _ _ _ r1 r2 (M.pl _ (yF hid)) (M.pl _ (yF hbd)) (M.cp _ (yF hid) _ (yF hbd)) (by show A.units + 1 + max _ _ < cLine; omega)
  refine wpAny_bind (wpAny_pure ?_)
  show wpAny _ A.in1 (tryCatch (holding _ (richCompare CmpOp.Lt (its.getD i Value.none) (its.getD b Value.none) >>= _)) _ >>= _) _ _ _
  refine wpAny_bind (wpAny_tryCatch (wpAny_holding (wpAny_bind (lt prog w _ _ (wpAny_bind (wpAny_holding (wpAny_truthy_bool (wpAny_bind (wpAny_letGo (wpAny_pure ?_))))))))))
  have nm : (toString "min" ++ toString ".loop" : String) = "min.loop" := by decide
  have hS2 := e2 S _ dif hS
  by_cases q : ltD (ds.getD i .none) (ds.getD b .none) = true
  ·rw [if_pos q] at L2
   rw [q]
   refine wpAny_bind (wpAny_updateSeq hS2 rfl (wpAny_bind (wpAny_letGo ?_)))
   rw [nm]
   refine wpAny_pure ⟨plainId_quiet apI _, ih (i + 1) i _ t _ (by omega) L2 (it2.at fun o e => (aoM _ _ dif).trans e) (fun a o e => (aoM _ _ (nK e).2.symm).trans (kp2 a o e)) (apb _ hS2 rfl)⟩
  ·rw [if_neg q] at L2
   rw [arN] at q
   rw [q]
   refine wpAny_bind (wpAny_letGo ?_)
   rw [nm]
   exact (wpAny_pure ⟨plainId_quiet apI _, ih (i + 1) b _ t c (by omega) L2 it2 kp2 hS2⟩)
theorem akF {Q : Value -> Shared -> Prop} {E : Value -> Shared -> Prop} {s : Shared} (M : MinAt s.heap its ds as) (hu : A.units + 61 < cLine) (hh : A.handled = none) (tu : s.heap.IsTuple T its.toArray) (ne : 0 < its.length)
  (q : ∀ b h' tk, vL ds its.length b -> Kp s.heap h' -> Q (its.getD b Value.none) { s with heap := h', toks := tk }) : wpAny (model prog w) A (call (.builtin "min") [.ref T]) Q E s := by
 have nm : (toString "min" ++ toString ".loop" : String) = "min.loop" := by decide
 have len := apv _ _ _ M.ra
 refine call_function_tree F.kind_min F.plain_min F.entry_min (F.args_min1 _) ?_
 show wpAny _ A.in1 (arn "min" ["key", "default"] 0 ⟨[], []⟩ >>= _) _ _ s
 refine wpAny_bind (wpAny_of_eq (show arn "min" ["key", "default"] 0 ⟨[], []⟩ = pure [none, none] from rfl) (wpAny_bind (wpAny_pure (wpAny_bind (wpAny_pyIter_tuple tu (wpAny_bind (wpAny_newObj_type ?_)))))))
 rw [nm]
 generalize hp1 : s.heap.push { cls := .type "tuple_iterator", data := .fields #[.ref T, .int 0 0] } = h1
 have z1 : h1.objs.size = s.heap.objs.size + 1 := by rw [<- hp1]; exact apc ..
 have i1 : h1.IsTupleIter s.heap.objs.size T 0 := by rw [<- hp1]; exact ⟨_, aoi _ rfl, rfl, rfl⟩
 have k1 : Kp s.heap h1 := fun b o e => by rw [<- hp1]; exact anV _ e
 have dif : h1.objs.size ≠ s.heap.objs.size := by omega
 have nI : s.heap.get? s.heap.objs.size = none := aq3 (anW _)
 have nS : s.heap.get? h1.objs.size = none := aq3 (by omega)
 refine wpAny_pure ⟨plainId_quiet apI _, codeAny_builtin arO ?_⟩
 rw [ap2 apI _]
 have kS : ∀ (u : Obj), Kp s.heap (h1.push u) := fun u b o e => anV _ (k1 b o e)
 refine wpAny_bind (wpAny_seqItems (aoi _ rfl) rfl (wpAny_bind (wpAny_tryCatch (wpAny_pyNext_tuple_item (i1.at fun o e => anV _ e) (tu.at fun o e => kS _ T o e) (x := its.getD 0 Value.none) (by rw [anU, anP ne]; simp [ne]) fun h2 it2 sb => ?_))))
 refine wpAny_bind (wpAny_pure ?_)
 have hS2 := sb.extBut _ _ dif (aoi h1 rfl)
 have kp2 : Kp s.heap h2 := fun a o e => sb.extBut a o (fun z => nomatch (nI.symm.trans (z ▸ e) : none = some o)) (kS _ a o e)
 refine wpAny_bind (wpAny_updateSeq hS2 rfl ?_)
 rw [nm]
 refine wpAny_pure ⟨plainId_quiet apI _, ai5 (s0 := s) (its := its) (T := T) M (by omega) hh tu nI nS dif ?_ (its.length - 1) 1 0 _ _ _ (by omega) ⟨Nat.one_pos, fun m hm => ?_⟩ (it2.at fun o e => (aoM _ _ dif).trans e) (fun a o e => (aoM _ _ (fun (z : h1.objs.size = a) => nomatch (nS.symm.trans (z ▸ e) : none = some o))).trans (kp2 a o e)) (apb _ hS2 rfl)⟩
 ·intro b h' tk L k
  exact q b h' tk L k
 ·rw [show m = 0 by omega]
  exact ae4 _ (M.pl _ (yF (by omega)))
end
section
variable {X : Cx}
def ai6 (K : anS) : List V -> Hp -> VK -> Prop := fun xs H Q => ∃ ds a zs, xs = [.ref a] /\ SqT K H a zs /\ Reps K H ds zs /\ ds ≠ [] /\ (∀ d ∈ ds, zE d = true) /\ (∀ d ∈ ds, ∀ e ∈ ds, qH d e = true) /\ (∀ d ∈ ds, d.depth <= 50) /\ ∀ b v, b < ds.length -> zs[b]? = some v -> (∀ e ∈ ds, ltD e (ds.getD b .none) = false) -> Q v H
theorem ad7 : ∀ {xs : List V} {us : List Value}, Vals xs us -> ∀ b, b < xs.length -> ∃ v, xs[b]? = some v /\ RelV v (us.getD b Value.none)
 | _, _, .nil, b, hb => absurd hb (apu _)
 | _, _, .cons a c, 0, _ => ⟨_, rfl, a⟩
 | _, _, .cons a c, b + 1, hb => ad7 c b (aqQ hb)
theorem abn {K : anS} {H : Hp} : ∀ {ds : List PyData} {xs : List V}, Reps K H ds xs -> xs.length = ds.length /\ ∀ b v, xs[b]? = some v -> Rep K H (ds.getD b .none) v
 | [], _, r => by
  cases reps_nil.mp r
  exact ⟨rfl, fun b v h => nomatch h⟩
 | d :: ds, xs, r => by
  obtain ⟨x, xs', rfl, h1, h2⟩ := reps_cons.mp r
  obtain ⟨h3, h4⟩ := abn h2
  refine ⟨by rw [aoe, aoe, h3], fun b v h => ?_⟩
  match b, h with
  | 0, h => cases h; exact h1
  | b + 1, h => exact h4 b v h
theorem ahz (hc : X.calm = true) (hu : X.A.units + 64 < cLine) : z6 X (.builtin "min") (ai6 X.K) := by
 intro pins s σ H xs us Q I r h
 obtain ⟨ds, a, zs, rfl, hq, hr, ne, pl, cp, dp, q⟩ := h
 obtain ⟨u, rfl, r1⟩ := vals1 r
 cases r1
 obtain ⟨its, rv, p, _⟩ := I.tuple hq
 obtain ⟨as, ra⟩ := ji I ds zs its hr rv
 have len := apv _ _ _ ra
 have pos : 0 < ds.length := apt.mpr ne
 refine akF ⟨ra, pl, cp, dp⟩ (by omega) (I.ok.hd hc) p (by omega) fun b h' tk L k => ?_
 have hb : b < ds.length := by have := L.1; omega
 obtain ⟨v, hv, rel⟩ := ad7 rv b (by rw [(abn hr).1]; exact hb)
 refine ⟨v, H, I.kept (t' := tk) k, rel, q b v hb hv fun e he => ?_⟩
 obtain ⟨m, hm, rfl⟩ := apD he
 have := L.2 m (by omega)
 rw [anU, anP hm] at this
 exact this
theorem afe {K : anS} (hK : X.K = K) (hc : X.calm = true) (hu : X.A.units + 64 < cLine) : z6 X (.builtin "min") (ai6 K) := hK ▸ ahz hc hu
end
section
variable {K : anS} {f : Fx} {ρ : zy} {P : PyData -> Prop} {te ta tb : TE}
theorem amI (h : PEd K f te ρ fun x => ∃ ds, x = .tuple ds /\ ds ≠ [] /\ (∀ d ∈ ds, zE d = true) /\ (∀ d ∈ ds, ∀ e ∈ ds, qH d e = true) /\ (∀ d ∈ ds, d.depth <= 50) /\ ∀ d, d ∈ ds -> (∀ e ∈ ds, ltD e d = false) -> P d) : PEd K f (tCB (ai6 K) (zW te yP)) ρ P := fun σ H Q e q =>
 h σ H _ e fun x v H1 g1 r1 ⟨ds, ex, ne, pl, cp, dp, p⟩ => by
  subst ex
  obtain ⟨a, zs, rfl, h1, h2⟩ := rep_tuple.mp r1
  refine ⟨ds, a, zs, rfl, (zo _ _).seqT h1, Reps.mono (zo _ _) _ _ h2, ne, pl, cp, dp, fun b u hb hu le => ?_⟩
  exact q (ds.getD b .none) u H1 g1 ((abn h2).2 b u hu) (p _ (yF hb) le)
end
section
variable {w : World} {K : anS} {f : Fx} {Ds : List Addr} {ρ : zy} {cs : List OC} {O : MEnds} {tt : TT} {te : TE} {i j n : Nat}
theorem aag {H H' H2 : Hp} {σ : St} (se : Sep f Ds) (x : CM w K f Ds H2 ρ cs σ H) (g : Goes f H H') : Goes (f.withs Ds) H H' := by
 have kp : ∀ D ∈ Ds, H' D = H D := fun D hD => by
  obtain ⟨o, ho⟩ := x.env.fd.mm D (jx hD)
  have h1 : hide H f D = some o := zD (fun z => z.elim (se.nf D hD) (se.nm D hD)) ho
  rw [ho, (zO (g.sm D o h1)).2]
 refine ⟨fun b o hb => ?_, ⟨fun p e => ?_, fun b hb => ?_, x.env.fd.nm⟩, fun b hb => ?_⟩
 ·obtain ⟨n1, n2⟩ := zO hb
  have h1 : hide H f b = some o := zD (fun z => n1 (z.elim .inl fun z => .inr (aon _ z))) n2
  exact zD n1 (zO (g.sm b o h1)).2
 ·exact g.2.fd p e
 ·rcases aop.mp hb with h | h
  ·rw [kp b (apx.mp h)]
   exact x.env.fd.mm b hb
  ·exact g.2.mm b h
 ·rcases aop.mp hb with h | h
  ·exact kp b (apx.mp h)
  ·exact g.kp b h
theorem aaN {B : Bool -> Prop} (h : PTd K f tt (ρ.map (freed f.M.length cs)) B) : PTm w K f Ds tt ρ cs B := fun se σ H H2 Q x q =>
 h σ H Q (x.free se) fun b H' g p => q b H' (aag se x g) p
abbrev ago (K : anS) : List V -> Hp -> VK -> Prop := fun xs H Q => ∃ p ys, xs = [V.ref p] /\ (SqL K H p ys \/ SqT K H p ys) /\ ∀ l, H l = none -> Q (V.ref l) (upd H l (HO.lst ys))
theorem amJ {es : List PyData} (hi : ρ[i]? = some (some (.own (f.M.length + j)))) (hc : cs[j]? = some (.lst es)) (hn : n < ρ.length) (h : O.nx (ρ.set n (some (.dat (.list es)))) cs) : PSm w K f Ds (jE (tCB (ago K) (zW (yb i) yP)) (jy n)) ρ cs O := fun se σ H H2 E x nn r b k => by
 have hj : j < Ds.length := by
  rw [<- x.len]
  exact (anT.mp hc).1
 have hD : Ds[j]? = some Ds[j] := anP hj
 have hs := yz hi x hD
 obtain ⟨vs, h1, h2⟩ := x.own j _ _ hD hc
 refine ⟨_, hs, Ds[j], vs, rfl, .inl (.inl (.inl h1)), fun l hl => ?_⟩
 have g2 : Goes (f.withs Ds) H (upd H l (.lst vs)) := .of_same (zZ hl _) x.env.fd
 refine nn _ cs _ _ (x.go g2 ?_) h
 refine (x.env.mono g2).set n (x := .dat (.list es)) ?_
 show Rep K (hide (upd H l (.lst vs)) (f.withs Ds)) (.list es) (.ref l)
 refine rep_list.mpr ⟨l, vs, rfl, .inl (.inl ?_), Reps.mono g2.sm _ _ h2⟩
 refine zD (fun z => ?_) zA
 obtain ⟨o, ho⟩ : ∃ o, H l = some o := z.elim (fun e => let ⟨a, b, h3, _⟩ := x.env.fd.fd l e; ⟨_, h3⟩) fun e => x.env.fd.mm l e
 rw [hl] at ho
 cases ho
end
end L2
end
section
namespace L2
open PySem PySem.Spec PyProof.Rows
structure TM (K : anS) (f : Fx) (a : Addr) (as : List Addr) (H2 : Hp) (ρ : zy) (rows : List (List Int)) (σ : St) (H : Hp) : Prop where
 env : EnvOk K (f.withs (a :: as)) ρ σ H
 sm : Same (hide H2 (f.withs (a :: as))) (hide H (f.withs (a :: as)))
 kp : ∀ b ∈ f.M, H b = H2 b
 tab : TabAt H a as rows
theorem aci {X : Cx} {K : anS} {w : World} (hw : X.w = w) (hK : X.K = K) (hu : X.A.units + 64 < cLine) : OpR X (compareOp .In) (afb w K false) := hw ▸ hK ▸ ai3 hu
section
variable {K : anS} {f : Fx} {ρ : zy} {ts tu : TS} {O : DEnds} {te : TE} {i : Nat}
theorem ad8 (J : zy -> Prop) (h1 : PSd K f ts ρ { O with nx := J }) (h2 : ∀ ρ', J ρ' -> PSd K f tu ρ' O) : PSd K f (vj ts tu) ρ O :=
 z9 fun σ H E e n r b k => h1 σ H E e (fun ρ' σ' H' g' e' p => n ρ' σ' H' g' e' (h2 ρ' p)) r b k
theorem acj {w : World} {Ds : List Addr} {cs : List OC} {O : MEnds} (J : zy -> List OC -> Prop) (h1 : PSm w K f Ds ts ρ cs { O with nx := J }) (h2 : ∀ ρ' cs', J ρ' cs' -> PSm w K f Ds tu ρ' cs' O) : PSm w K f Ds (vj ts tu) ρ cs O :=
 yD fun se σ H H2 E x n r b k => h1 se σ H H2 E x (fun ρ' cs' σ' H' x' p => n ρ' cs' σ' H' x' (h2 ρ' cs' p)) r b k
end
end L2
end
section
namespace L2
open PySem PySem.Spec PyProof.Rows
def ac8 (w : World) (K : anS) (kvs : List (PyData × PyData)) : Hp -> V -> Prop := fun Hh v => ∃ a xs, v = .ref a /\ Hh a = some (DicO w a xs) /\ Paired (EntR K Hh) xs kvs
def PEv (K : anS) (f : Fx) (te : TE) (ρ : zy) (P : DV -> Prop) : Prop := ∀ (σ : St) (H : Hp) (Q : VK), EnvOk K f ρ σ H -> (∀ x v H', Goes f H H' -> RepV K f H' x v -> P x -> Q v H') -> te σ H Q
section
variable {w : World} {K : anS} {f : Fx} {ρ : zy} {Ds : List Addr} {cs : List OC} {te ta tk : TE} {ts tu : TS} {t : TA} {O : DEnds} {i j : Nat} {R : OC -> Prop}
theorem v_var {P : DV -> Prop} {x : DV} (h : ρ[i]? = some (some x)) (p : P x) : PEv K f (yb i) ρ P := fun σ H Q e q => by
 obtain ⟨v, h1, h2⟩ := e.get i x h
 exact ⟨v, h1, q x v H (.refl e.fd) h2 p⟩
theorem anA {R : List DV -> Prop} {u : TA} (h : PEv K f te ρ fun x => PAd K f u ρ fun xs => R (x :: xs)) : PAd K f (zW te u) ρ R := fun σ H Q e q =>
 h σ H _ e fun x v H1 g1 r1 p => p σ H1 _ (e.mono g1) fun xs vs H2 g2 r2 p2 => q (x :: xs) (v :: vs) H2 (g1.trans g2) (.cons (RepV.mono g2 r1) r2) p2
end
end L2
end
section
namespace L2
open PySem PySem.Spec PyProof.Rows
end L2
end
section
namespace L2
open PySem PySem.Spec PyProof.Rows
open PySem.SeqAt
open PySem.AutoSeq1 (wpAny_loadPart')
def anN (A : Around) (s : Shared) (y x : Value) (b : Bool) : Prop :=
 ∀ (prog : Program) (w : World) (E : Value -> Shared -> Prop) (Q : Value -> Shared -> Prop), Q (.bool b) s -> wpAny (model prog w) A (richCompare .GtE y x) Q E s
inductive Gex (A : Around) (s : Shared) : List Value -> List Value -> Bool -> Prop where
 | nn : Gex A s [] [] true
 | eq {v w vs ws b} : EqAt A s v w true -> Gex A s vs ws b -> Gex A s (v :: vs) (w :: ws) b
 | ge {v w vs ws b} : EqAt A s v w false -> anN A s v w b -> vs.length = ws.length -> Gex A s (v :: vs) (w :: ws) b
def anO (o : Obj) : Option Value := match o.data with
 | .fields vs => vs[2]?
 | _ => none
local macro_rules | `(tactic| walk_at "kd") => `(tactic| with_reducible first
  | assumption
  | exact kd_pure _
  | exact kd_uns _
  | exact kd_load _
  | exact kd_loadPart _ _
  | exact kd_stack
  | exact kd_alloc _
  | exact kd_reg _
  | apply kd_ite
  | apply kd_bind
  | intro _
  | split)
def Dct (a : Addr) (o : Option Addr) (h : Heap) : Prop := ∃ u, h.get? a = some u /\ anO u = some .none /\ ∀ dx, o = some dx -> u.dict = some dx
def CXf (P : Program) (w : World) : CXT := fun outer H s E e s' => ∃ a C o H', e = .ref a /\ XLie P w outer H s a C H' s' /\ Dct a o s'.heap /\ E C o H'
def alJ (a : Addr) (C : Value) (o : Option Addr) (h : Heap) : Prop := ∃ t, h.get? a = some { cls := C, dict := o, data := .fields #[.ref t, .none, .none, .none, .bool false, .none] }
end L2
end
section
namespace L2
open PySem PySem.Spec PyProof.Rows PySem.Builtin Builtin Builtin.ObjectAttr
def ai7 (K : anS) (C f : Addr) (bmB : List Value) (newId : String) : Bool :=
 match K.lookup C with
 | some ⟨c0, _, .cls cd, sl⟩ => c0 == .type "type" && cd.mro.head? == some (.ref C) && cd.hasDel == false && cd.hasDict && PySem.W.tailIn K bmB cd.mro.tail && PySem.W.nsOkIn K cd.ns && aoD K cd.ns "__init__" == some (some (.ref f))
   && sl.toList.length == 6 && sl.toList[4]? == some (some (.builtin newId))
 | _ => false
structure XCls (h : Heap) (C f : Addr) (bmB : List Value) (newId : String) : Prop where
 ex : ∃ nm q N bs bm sn sub ab col dd k0 k1 k2 k3 k5 mN, h.get? C = some (excClassObj nm q C N bs bm true sn sub ab col dd k0 k1 k2 k3 k5 newId) /\ h.Ns N mN /\ mN "__init__" = some (.ref f) /\ OwnTail h bmB bm
end L2
end
section
namespace L2
open PySem PySem.Spec PySem.W PyProof.Rows PySem.Calls PySem.Builtin Builtin Builtin.ObjectAttr
abbrev bare (C : Addr) (o : Option Addr) (t : Addr) : Obj := { cls := .ref C, dict := o, data := .fields #[.ref t, .none, .none, .none, .bool false, .none] }
abbrev bmV : List Value := [.type "ValueError", .type "Exception", .type "BaseException", .type "object"]
structure FldC (K : anS) (C f D : Addr) (name : Str) : Prop where
 wi : ai7 K C f bmV "ValueError.__new__" = true
 fn : PySem.W.typeIn K (.ref f) = some (.type "function")
 ob : PySem.W.mroIn K C (.type "object") = some true
 sa : aqb K (.ref C) "__setattr__" = some (some (.builtin "object.__setattr__"))
 na : aqb K (.ref C) name = some none
 rd : PySem.W.readsIn K D (.type "type") = true
 sp : arB K (.ref D) "__getattribute__" = some (some (.builtin "type.__getattribute__"))
 kp : ao3 K (.ref C) = true
 fi : PySem.W.findCls K (.ref D) (.type "type") "__init__" = some (.val (.builtin "ValueError.__init__"))
section
variable {X : Cx} {pins : List (Addr × Obj)} {σ : St} {H H' : Hp} {s s' : Shared} {h' : Heap} {a b dx C D f : Addr} {o : HO} {t' : Nat} {name : Str}
def amK (C : Addr) (name : Str) : Sp := fun vs H Q _ => ∃ a y, vs = [.ref a, y] /\ H a = some (.ext (alJ a (.ref C) none)) /\ ∀ dx, H dx = none -> dx ≠ a -> Q .non (upd (upd H dx (.xd [(name, y)])) a (.ext (alJ a (.ref C) (some dx))))
end
end L2
end
section
namespace L2
open PySem PySem.Spec PyProof.Rows
end L2
end
section
namespace L2
open PySem PySem.Spec PySem.W PyProof.Rows PySem.Calls PySem.Builtin Builtin Builtin.ObjectAttr Builtin.Getset_descriptor
abbrev XD := Option (Str × PyData)
structure FnInF (P : Program) (w : World) (K : anS) (mg : Str -> Option Value) (base : Heap) (k : Nat) (x : Str) (ps : List Str) (sp : Sp) : Prop where
 ex : ∃ (f : Addr) (fd : FuncData), FnOk P w K mg base (CXf P w) k f fd ps sp /\ mg x = some (.ref f) /\ ao3 K (.ref f) = true /\ Binds K fd ps []
structure FCls (K : anS) (mg : Str -> Option Value) (x base : Str) (C : Addr) (name : Str) (st : Stmt) (ps : List Str) : Prop where
 ex : ∃ (f D : Addr) (fd : FuncData), FldC K C f D name /\ mg x = some (.ref C) /\ mg base = some (.ref D) /\ Fun K "__init__" (x ++ ".__init__") st f fd /\ Binds K fd ps []
structure InitOk (P : Program) (w : World) (K : anS) (mg : Str -> Option Value) (base : Heap) (k : Nat) (C : Addr) (name : Str) : Prop where
 ex : ∃ (f D : Addr) (fd : FuncData) (ps : List Str), FldC K C f D name /\ FnOk P w K mg base CX0 k f fd ps (amK C name) /\ Binds K fd ps []
theorem Reps.set {K : anS} {H : Hp} : ∀ {ds : List PyData} {xs : List V}, Reps K H ds xs -> ∀ (n : Nat) {d : PyData} {x : V}, Rep K H d x -> Reps K H (ds.set n d) (xs.set n x)
 | [], xs, t, n, d, x, h => by rw [reps_nil.mp t]; exact .nil'
 | e :: ds, xs, t, n, d, x, h => by
  obtain ⟨y, r, rfl, h2, h3⟩ := reps_cons.mp t
  cases n with
  | zero => exact .cons' h h3
  | succ n => exact .cons' h2 (Reps.set h3 n h)
theorem qw {K : anS} {f : Fx} {ρ : zy} {D : DEnds} {tt : TT} {ts tu : TS} (p : Prop) [Decidable p] (h : PTd K f tt ρ fun b => b = decide p) (h1 : p -> PSd K f ts ρ D) (h2 : ¬ p -> PSd K f tu ρ D) : PSd K f (agW tt ts tu) ρ D := aeW fun σ H Q e q => h σ H Q e fun b H' g z => q b H' g (by
 subst z
 by_cases hp : p
 ·rw [decide_eq_true hp, if_pos rfl]; exact h1 hp
 ·rw [decide_eq_false hp, if_neg anR]; exact h2 hp)
section
variable {w : World} {K : anS} {f : Fx} {Ds : List Addr} {ts : TS} {te tk : TE} {ρ : zy} {cs : List OC} {O : MEnds} {i j n : Nat}
theorem vM {P : PyData -> Prop} (h : PEd K f te (ρ.map (freed f.M.length cs)) fun d => ∃ i, d = .int i /\ P (.int i)) : PEm w K f Ds te ρ cs P := fun se σ H H2 Q x q =>
 h σ H Q (x.free se) fun d v H' g r ⟨i, ed, p⟩ => by
  subst ed
  exact q (.int i) v H' (aag se x g) (rep_int.mpr (rep_int.mp r)) p
theorem ai8 (h : PEm w K f Ds te ρ cs fun d => O.nx (ρ.set n (some (.dat d))) cs) : PSm w K f Ds (jE te (jy n)) ρ cs O := fun se σ H H2 E x nn r b k =>
 h se σ H H2 _ x fun d v H1 g1 r1 p1 => by
  have x1 := x.go g1 (x.env.mono g1)
  exact nn _ cs _ H1 ⟨x1.env.set n (x := .dat d) r1, x1.sm, x1.kp, x1.len, x1.own⟩ p1
theorem ai9 {es : List PyData} (hi : ρ[i]? = some (some (.own (f.M.length + j)))) (hc : cs[j]? = some (.lst es)) (h : PEm w K f Ds te ρ cs fun d => PEm w K f Ds tk ρ cs fun y => ∃ k q, y = .int k /\ ixN es.length k = some q /\ O.nx ρ (cs.set j (.lst (es.set q d)))) :
  PSm w K f Ds (jE te (aaW (yb i) tk vd)) ρ cs O := fun se σ H H2 E x n r b k => by
 have hj : j < Ds.length := by rw [<- x.len]; exact (anT.mp hc).1
 have hD : Ds[j]? = some Ds[j] := anP hj
 refine h se σ H H2 _ x fun d v H1 g1 r1 p1 => ?_
 have x1 := x.go g1 (x.env.mono g1)
 refine ⟨_, yz hi x1 hD, ?_⟩
 refine p1 se σ H1 H2 _ x1 fun y u H3 g3 r3 ⟨k, q, ey, hq, p3⟩ => ?_
 subst ey
 have x3 := x1.go g3 (x1.env.mono g3)
 obtain ⟨vs, h1, h2⟩ := x3.own j _ _ hD hc
 refine ⟨_, vs, k, q, rfl, rep_int.mp r3, h1, by rw [h2.length]; exact hq, n _ _ _ _ (x3.put se hD (o := .lst (vs.set q v)) (c' := .lst (es.set q d)) ⟨vs.set q v, zA, Reps.set h2 q (Rep.mono g3.1 d v r1)⟩) p3⟩
end
structure RoomM (k : Nat) (A : Around) : Prop where
 dp : A.depth + 3 * k + 5 < recursionLimit
 un : A.units + 16 * k + 200 < cLine
structure FnOkM (P : Program) (w : World) (K : anS) (mg : Str -> Option Value) (base : Heap) (k : Nat) (f : Addr) (fd : FuncData) (ps : List Str) (sp : Addr -> Sp) : Prop where
 len : ∀ a vs H Q E, sp a vs H Q E -> vs.length = ps.length
 run : ∀ (A : Around) (outer : List Env) (s : Shared) (H : Hp) (args : Args) (us : List Value) (vs : List V) (Q : VK) (a : Addr), A.handled = some (.ref a) -> RoomM k A -> Env0 P w K mg base A outer s H -> BindsTo s fd args (ps.zip us) -> Vals vs us -> sp a vs H Q E0 ->
  codeAny (model P w) A (.call (.ref f) args) (CR CX0 outer P w H s Q E0) s
structure FnInM (P : Program) (w : World) (K : anS) (mg : Str -> Option Value) (base : Heap) (k : Nat) (x : Str) (ps : List Str) (sp : Addr -> Sp) : Prop where
 ex : ∃ (f : Addr) (fd : FuncData), FnOkM P w K mg base k f fd ps sp /\ mg x = some (.ref f) /\ ao3 K (.ref f) = true /\ Binds K fd ps []
structure TN (K : anS) (f : Fx) (a : Addr) (as : List Addr) (H2 : Hp) (ρ : zy) (R : Option (List (List Int))) (σ : St) (H : Hp) : Prop where
 env : EnvOk K (f.withs (a :: as)) ρ σ H
 sm : Same (hide H2 (f.withs (a :: as))) (hide H (f.withs (a :: as)))
 kp : ∀ b ∈ f.M, H b = H2 b
 tab : ∀ rows, R = some rows -> TabAt H a as rows
end L2
end
section
namespace L2
open PySem PySem.Spec PyProof.Rows
structure GoesW (f : Fx) (As : List Addr) (H2 H' : Hp) : Prop where
 sm : Same (hide H2 (f.withs As)) (hide H' f)
 ok : FOk f H'
 kp : ∀ b ∈ f.M, H' b = H2 b
structure FnAt (P : Program) (w : World) (K : anS) (mg : Str -> Option Value) (base : Heap) (CX : CXT) (k : Nat) (a : Addr) (sp : Sp) : Prop where
 ex : ∃ (fd : FuncData) (ps : List Str), FnOk P w K mg base CX k a fd ps sp /\ ao3 K (.ref a) = true /\ Binds K fd ps []
end L2
namespace L2
open PySem PySem.Spec PyProof.Rows
end L2
end
section
namespace L2
open PySem PySem.Spec PyProof.Rows
def aja (ds es : List PyData) : List PyData := ass (fun d e => .tuple [d, e]) ds es
structure Src (prog : Program) (w : World) (j : Addr) (xs : Array Value) (dep : List Addr) (St : Nat -> Heap -> Prop) : Prop where
 own : j ∈ dep
 keep : ∀ {k : Nat} {h h' : Heap}, St k h -> (∀ c ∈ dep, ∀ o, h.get? c = some o -> h'.get? c = some o) -> St k h'
 there : ∀ {k : Nat} {h : Heap}, St k h -> ∃ o, h.get? j = some o
 item : ∀ {A : Around} {E : Value -> Shared -> Prop} {s : Shared} {k : Nat} {x : Value} {Q : Value -> Shared -> Prop}, St k s.heap -> xs[k]? = some x -> (∀ h', St (k + 1) h' -> apX j s.heap h' -> Q x { s with heap := h' }) -> wpAny (model prog w) A (aoP (.ref j)) Q E s
 stop : ∀ {A : Around} {E : Value -> Shared -> Prop} {s : Shared} {k : Nat} {Q : Value -> Shared -> Prop}, A.handled = none -> St k s.heap -> xs[k]? = none -> (∀ h' e, asv j s.heap h' -> (∃ o, h'.get? e = some o /\ o.cls = .type "StopIteration") -> E (.ref e) { s with heap := h' }) -> wpAny (model prog w) A (aoP (.ref j)) Q E s
section
variable {prog : Program} {w : World} {A : Around} {E : Value -> Shared -> Prop} {s : Shared}
theorem nextT {j t : Addr} {k : Nat} {xs : Array Value} {Q : Value -> Shared -> Prop} (hj : s.heap.IsTupleIter j t k) (ht : s.heap.IsTuple t xs)
  (hi : ∀ x, xs[k]? = some x -> ∀ h', h'.IsTupleIter j t (k + 1) -> apX j s.heap h' -> Q x { s with heap := h' })
  (he : xs[k]? = none -> A.handled = none /\ ∀ h' e, asv j s.heap h' -> (∃ o, h'.get? e = some o /\ o.cls = .type "StopIteration") -> E (.ref e) { s with heap := h' }) :
  wpAny (model prog w) A (aoP (.ref j)) Q E s := by
 obtain ⟨oj, gj, cj, dj⟩ := id hj
 obtain ⟨ot, gt, _, nt, dt⟩ := ht
 unfold aoP
 refine wpAny_bind (wpAny_callSpecial?_slot (name := apE "__next__") hj.typeIs arx (wpAny_call_entry arx hj.typeIs F.entry_tuple_iterator_next ?_ (F.args_tuple_iterator_next_1 _)))
 show wpAny _ _ (field (.ref j) 0 >>= _) _ _ s
 refine wpAny_bind (wpAny_field gj dj (x := .ref t) rfl ?_)
 show wpAny _ _ (if (Value.ref t == Value.none) = true then _ else _) _ _ s
 have nn : ¬ ((Value.ref t == Value.none) = true) := anR
 rw [if_neg nn]
 show wpAny _ _ (field (.ref j) 1 >>= _) _ _ s
 refine wpAny_bind (wpAny_field gj dj (x := .int k 0) rfl ?_)
 show wpAny _ _ (seqItems? (.ref t) >>= _) _ _ s
 refine wpAny_bind (wpAny_seqItems gt dt ?_)
 cases hx : xs[k]? with
 | some x =>
  simp only [apm, hx]
  have up := apb (Obj.mapFields fun v => v.setIfInBounds 1 (rawInt ((k : Int) + 1))) gj (Obj.isFreed_of_fields (Obj.data_mapFields dj _))
  refine wpAny_bind (wpAny_setField gj dj (by simp) (wpAny_pure ⟨x, rfl, wpAny_pure (hi x hx _ ⟨_, up, (Obj.cls_mapFields ..).trans cj, ?_⟩ (aqB ..))⟩))
  rw [Obj.data_mapFields dj]
  simp [rawInt]
 | none =>
  obtain ⟨hh, hE⟩ := he hx
  simp only [apm, hx]
  refine wpAny_bind (wpAny_rule (wpAny_bind (wpAny_setField gj dj (by simp) (wpAny_bind ?_))))
  simp only [newExc, newTuple]
  refine wpAny_bind (wpAny_newObj_type (wpAny_bind (m := firstArgMember _ _) (wpAny_of_eq (a := Value.none) (by first | rfl | (simp only [firstArgMember]; rfl)) (wpAny_newObj_type ?_ (by size_fits)))) (by size_fits))
  simp only [raiseNew]
  refine wpAny_bind (wpAny_handled ?_)
  first | rw [show A.in1.handled = none from hh] | rw [hh]
  exact wpAny_bind (wpAny_pure (wpAny_throw (hE _ _ (((aqB ..).extBut.push _).push _) ⟨_, aoi _ rfl, rfl⟩)))
theorem src_tuple (j t : Addr) (xs : Array Value) : Src prog w j xs [j, t] fun k h => h.IsTupleIter j t k /\ h.IsTuple t xs /\ j ≠ t where
 own := by simp
 keep := fun ⟨a, b, c⟩ kp => ⟨a.at fun o e => kp j (by simp) o e, b.at fun o e => kp t (by simp) o e, c⟩
 there := fun ⟨⟨o, e, _⟩, _⟩ => ⟨o, e⟩
 item := fun ⟨a, b, c⟩ hx hQ => nextT a b (fun x' hx' h' p sb => by
  rw [hx] at hx'
  cases hx'
  exact hQ h' ⟨p, b.at fun o e => sb.extBut _ _ (fun z => c z.symm) e, c⟩ sb) fun z => by rw [hx] at z; cases z
 stop := fun hh ⟨a, b, c⟩ hx hE => nextT a b (fun x' hx' => by rw [hx] at hx'; cases hx') fun _ => ⟨hh, hE⟩
structure Far (z q1 q2 j1 j2 : Addr) (e1 e2 : List Addr) : Prop where
 q1z : q1 ≠ z
 q2z : q2 ≠ z
 q12 : q1 ≠ q2
 j12 : j1 ≠ j2
 q1j1 : q1 ≠ j1
 q1j2 : q1 ≠ j2
 z1 : z ∉ e1
 z2 : z ∉ e2
 o1 : q2 ∉ e1
 o2 : q2 ∉ e2
 d12 : j2 ∉ e1
 d21 : j1 ∉ e2
theorem Src.off {j b : Addr} {xs : Array Value} {dep : List Addr} {St : Nat -> Heap -> Prop} (S : Src prog w j xs dep St) {k : Nat} {h h' : Heap} (hs : St k h) (hb : b ∉ dep) (e : asv b h h') : St k h' :=
 S.keep hs fun c hc o g => e c o (fun z => hb (z ▸ hc)) g
theorem ahA {z q1 q2 j1 j2 : Addr} {xs ys : Array Value} {e1 e2 : List Addr} {S1 S2 : Nat -> Heap -> Prop} {k : Nat} {x y u v : Value} {Q : Value -> Shared -> Prop} (F1 : Src prog w j1 xs e1 S1) (F2 : Src prog w j2 ys e2 S2) (D : Far z q1 q2 j1 j2 e1 e2)
  (hz : IsZip s.heap z q1 q2 .none) (hq1 : IsPair s.heap q1 (.ref j1) (.ref j2)) (hq2 : IsPair s.heap q2 u v) (h1 : S1 k s.heap) (h2 : S2 k s.heap) (hx : xs[k]? = some x) (hy : ys[k]? = some y)
  (hQ : ∀ h', IsZip h' z q1 q2 (rawInt s.heap.objs.size) -> IsPair h' q2 x y -> S1 (k + 1) h' -> S2 (k + 1) h' -> IsPair h' s.heap.objs.size x y -> h'.objs.size = s.heap.objs.size + 1 -> (∀ c o, c ≠ z -> c ≠ q2 -> c ≠ j1 -> c ≠ j2 -> s.heap.get? c = some o -> h'.get? c = some o) -> Q (.ref s.heap.objs.size) { s with heap := h' }) :
  wpAny (model prog w) A (Builtin.«zip.__next__» ⟨[.ref z], []⟩) (fun fin s' => ∃ r, fin = .done (.ret r) /\ Q r s') E s := by
 have j1z : z ≠ j1 := fun e => D.z1 (e ▸ F1.own)
 have j2z : z ≠ j2 := fun e => D.z2 (e ▸ F2.own)
 have q2j1 : q2 ≠ j1 := fun e => D.o1 (e ▸ F1.own)
 have q2j2 : q2 ≠ j2 := fun e => D.o2 (e ▸ F2.own)
 show wpAny _ _ (field (.ref z) 2 >>= _) _ _ _
 refine wpAny_bind (wpAny_field hz rfl (x := .bool false) rfl (show wpAny _ _ (field (.ref z) 3 >>= _) _ _ _ from wpAny_bind (wpAny_field hz rfl (x := .ref q1) rfl (wpAny_bind (wpAny_seqItems hq1 rfl ?_)))))
 show wpAny _ _ (apd (.ref z) >>= _) _ _ _
 unfold apd
 refine wpAny_bind (wpAny_bind (wpAny_field hz rfl (x := .none) rfl (wpAny_pure ?_)))
 simp only [if_true]
 refine wpAny_bind (wpAny_rule (wpAny_bind (wpAny_field hz rfl (x := .ref q2) rfl (wpAny_bind (wpAny_setField_rec hz (by simp) fun ha za sa => ?_)))))
 have za : IsZip ha z q1 q2 .ellipsis := za
 refine wpAny_bind ?_
 simp only [List.zipIdx_cons, List.zipIdx_nil, apV, aqd]
 refine wpAny_bind (wpAny_bind (wpAny_onRaise (show wpAny _ _ (aoP (.ref j1) >>= _) _ _ _ from wpAny_bind (F1.item (F1.off h1 D.z1 sa.extBut) hx fun hb p1 sb => wpAny_pure ?_))))
 have tb : IsPair hb q2 u v := sb.extBut _ _ q2j1 (sa.extBut _ _ D.q2z hq2)
 refine wpAny_bind (wpAny_seqItems tb rfl (wpAny_bind (wpAny_updateSeq_pair tb fun hc tc sc => wpAny_bind (wpAny_letGo (wpAny_pure ?_)))))
 have tc : IsPair hc q2 x v := tc
 have p2 : S2 k hc := F2.off (F2.off (F2.off h2 D.z2 sa.extBut) D.d21 sb.extBut) D.o2 sc.extBut
 refine wpAny_bind (wpAny_bind (wpAny_onRaise (show wpAny _ _ (aoP (.ref j2) >>= _) _ _ _ from wpAny_bind (F2.item p2 hy fun hd p3 sd => wpAny_pure ?_))))
 have td : IsPair hd q2 x v := sd.extBut _ _ q2j2 tc
 refine wpAny_bind (wpAny_seqItems td rfl (wpAny_bind (wpAny_updateSeq_pair td fun he te se => wpAny_bind (wpAny_letGo (wpAny_pure (wpAny_pure ?_))))))
 have te : IsPair he q2 x y := te
 refine wpAny_bind (wpAny_seqItems te rfl (wpAny_bind (wpAny_newTuple ?_)))
 have size : he.objs.size = s.heap.objs.size := by rw [se.1, sd.1, sc.1, sb.1, sa.1]
 have ze : IsZip he z q1 q2 .ellipsis := se.extBut _ _ D.q2z.symm (sd.extBut _ _ j2z (sc.extBut _ _ D.q2z.symm (sb.extBut _ _ j1z za)))
 have ke : ∀ c o, c ≠ z -> c ≠ q2 -> c ≠ j1 -> c ≠ j2 -> s.heap.get? c = some o -> he.get? c = some o := fun c o n1 n2 n3 n4 g =>
  se.extBut _ _ n2 (sd.extBut _ _ n4 (sc.extBut _ _ n2 (sb.extBut _ _ n3 (sa.extBut _ _ n1 g))))
 have f1 : S1 (k + 1) he := F1.off (F1.off (F1.off p1 D.o1 sc.extBut) D.d12 sd.extBut) D.o1 se.extBut
 have f2 : S2 (k + 1) he := F2.off p3 D.o2 se.extBut
 have zl : z < he.objs.size := aoc ze
 show wpAny _ _ (aqC (.ref z) (.ref he.objs.size) >>= _) _ _ _
 unfold aqC
 have zf : IsZip (he.push { cls := .type "tuple", data := .seq #[x, y] }) z q1 q2 .ellipsis := anV _ ze
 refine wpAny_bind (wpAny_bind (wpAny_setField_rec zf (by simp) fun hg zg sg => ?_))
 have zg : IsZip hg z q1 q2 (rawInt he.objs.size) := zg
 refine wpAny_setField_rec zg (by simp) fun hk zk sk => ?_
 have zk : IsZip hk z q1 q2 (rawInt he.objs.size) := zk
 have up : ∀ c o, c ≠ z -> he.get? c = some o -> hk.get? c = some o := fun c o n g => sk.extBut _ _ n (sg.extBut _ _ n (anV _ g))
 have tk : IsPair hk he.objs.size x y := sk.extBut _ _ (apZ zl) (sg.extBut _ _ (apZ zl) (aoi _ rfl))
 have sz : hk.objs.size = he.objs.size + 1 := by rw [sk.1, sg.1, apc]
 rw [size] at zk tk sz
 refine wpAny_pure ⟨_, rfl, ?_⟩
 show Q (.ref he.objs.size) _
 rw [size]
 exact hQ hk zk (up _ _ D.q2z te) (F1.keep f1 fun c hc o g => up c o (fun e => D.z1 (e ▸ hc)) g) (F2.keep f2 fun c hc o g => up c o (fun e => D.z2 (e ▸ hc)) g) tk sz fun c o n1 n2 n3 n4 g => up c o n1 (ke c o n1 n2 n3 n4 g)
theorem ajb {z q1 q2 j1 j2 : Addr} {xs ys : Array Value} {e1 e2 : List Addr} {S1 S2 : Nat -> Heap -> Prop} {k : Nat} {u v : Value} {Q : Fin -> Shared -> Prop} (hh : A.handled = none) (F1 : Src prog w j1 xs e1 S1) (F2 : Src prog w j2 ys e2 S2) (D : Far z q1 q2 j1 j2 e1 e2)
  (hz : IsZip s.heap z q1 q2 .none) (hq1 : IsPair s.heap q1 (.ref j1) (.ref j2)) (hq2 : IsPair s.heap q2 u v) (h1 : S1 k s.heap) (h2 : S2 k s.heap) (hend : xs[k]? = none \/ ys[k]? = none)
  (hE : ∀ h' e, (∀ c o, c ≠ z -> c ≠ q2 -> c ≠ j1 -> c ≠ j2 -> s.heap.get? c = some o -> h'.get? c = some o) -> (∃ o, h'.get? e = some o /\ o.cls = .type "StopIteration") -> E (.ref e) { s with heap := h' }) :
  wpAny (model prog w) A (Builtin.«zip.__next__» ⟨[.ref z], []⟩) Q E s := by
 have j1z : z ≠ j1 := fun e => D.z1 (e ▸ F1.own)
 have j2z : z ≠ j2 := fun e => D.z2 (e ▸ F2.own)
 have q2j1 : q2 ≠ j1 := fun e => D.o1 (e ▸ F1.own)
 show wpAny _ _ (field (.ref z) 2 >>= _) _ _ _
 refine wpAny_bind (wpAny_field hz rfl (x := .bool false) rfl (show wpAny _ _ (field (.ref z) 3 >>= _) _ _ _ from wpAny_bind (wpAny_field hz rfl (x := .ref q1) rfl (wpAny_bind (wpAny_seqItems hq1 rfl ?_)))))
 show wpAny _ _ (apd (.ref z) >>= _) _ _ _
 unfold apd
 refine wpAny_bind (wpAny_bind (wpAny_field hz rfl (x := .none) rfl (wpAny_pure ?_)))
 simp only [if_true]
 refine wpAny_bind (wpAny_rule (wpAny_bind (wpAny_field hz rfl (x := .ref q2) rfl (wpAny_bind (wpAny_setField_rec hz (by simp) fun ha za sa => ?_)))))
 have za : IsZip ha z q1 q2 .ellipsis := za
 refine wpAny_bind ?_
 simp only [List.zipIdx_cons, List.zipIdx_nil, apV, aqd]
 have p1 := F1.off h1 D.z1 sa.extBut
 cases hx : xs[k]? with
 | none =>
  refine wpAny_bind (wpAny_bind (wpAny_onRaise (show wpAny _ _ (aoP (.ref j1) >>= _) _ _ _ from wpAny_bind (F1.stop hh p1 hx fun hb e sb he => ?_))))
  obtain ⟨oe, ge, ce⟩ := he
  have zb : IsZip hb z q1 q2 .ellipsis := sb _ _ j1z za
  have ez : e ≠ z := fun y => by subst y; rw [zb] at ge; cases ge; simp at ce
  exact wpAny_setField_rec zb (by simp) fun hc _ sc => hE hc e (fun c o n1 _ n3 _ g => sc.extBut _ _ n1 (sb _ _ n3 (sa.extBut _ _ n1 g))) ⟨oe, sc.extBut _ _ ez ge, ce⟩
 | some x =>
  have hy : ys[k]? = none := hend.elim (fun h => by rw [hx] at h; cases h) id
  refine wpAny_bind (wpAny_bind (wpAny_onRaise (show wpAny _ _ (aoP (.ref j1) >>= _) _ _ _ from wpAny_bind (F1.item p1 hx fun hb r1 sb => wpAny_pure ?_))))
  have tb : IsPair hb q2 u v := sb.extBut _ _ q2j1 (sa.extBut _ _ D.q2z hq2)
  refine wpAny_bind (wpAny_seqItems tb rfl (wpAny_bind (wpAny_updateSeq_pair tb fun hc tc sc => wpAny_bind (wpAny_letGo (wpAny_pure ?_)))))
  have p2 : S2 k hc := F2.off (F2.off (F2.off h2 D.z2 sa.extBut) D.d21 sb.extBut) D.o2 sc.extBut
  refine wpAny_bind (wpAny_bind (wpAny_onRaise (show wpAny _ _ (aoP (.ref j2) >>= _) _ _ _ from wpAny_bind (F2.stop hh p2 hy fun hd e sd he => ?_))))
  obtain ⟨oe, ge, ce⟩ := he
  have zd : IsZip hd z q1 q2 .ellipsis := sd _ _ j2z (sc.extBut _ _ D.q2z.symm (sb.extBut _ _ j1z za))
  have ez : e ≠ z := fun y => by subst y; rw [zd] at ge; cases ge; simp at ce
  exact wpAny_setField_rec zd (by simp) fun hf _ sf => hE hf e (fun c o n1 n2 n3 n4 g => sf.extBut _ _ n1 (sd _ _ n4 (sc.extBut _ _ n2 (sb.extBut _ _ n3 (sa.extBut _ _ n1 g))))) ⟨oe, sf.extBut _ _ ez ge, ce⟩
theorem aff {z q1 q2 j1 j2 : Addr} {xs ys : Array Value} {e1 e2 : List Addr} {S1 S2 : Nat -> Heap -> Prop} {k : Nat} {x y u v : Value} {Q : Option Value -> Shared -> Prop} (F1 : Src prog w j1 xs e1 S1) (F2 : Src prog w j2 ys e2 S2) (D : Far z q1 q2 j1 j2 e1 e2)
  (hz : IsZip s.heap z q1 q2 .none) (hq1 : IsPair s.heap q1 (.ref j1) (.ref j2)) (hq2 : IsPair s.heap q2 u v) (h1 : S1 k s.heap) (h2 : S2 k s.heap) (hx : xs[k]? = some x) (hy : ys[k]? = some y)
  (hQ : ∀ h', IsZip h' z q1 q2 (rawInt s.heap.objs.size) -> IsPair h' q2 x y -> S1 (k + 1) h' -> S2 (k + 1) h' -> IsPair h' s.heap.objs.size x y -> h'.objs.size = s.heap.objs.size + 1 -> (∀ c o, c ≠ z -> c ≠ q2 -> c ≠ j1 -> c ≠ j2 -> s.heap.get? c = some o -> h'.get? c = some o) -> Q (some (.ref s.heap.objs.size)) { s with heap := h' }) :
  wpAny (model prog w) A (pyNext (.ref z)) Q E s := by
 have ty : s.TypeIs (.ref z) "zip" := ⟨_, hz, rfl⟩
 unfold pyNext
 exact wpAny_bind (wpAny_attempt (wpAny_callSpecial?_slot (name := apE "__next__") ty ard (wpAny_call_entry ard ty F.entry_zip_next (ahA F1 F2 D hz hq1 hq2 h1 h2 hx hy fun h' r1 r2 r3 r4 r5 r6 r7 => wpAny_pure (hQ h' r1 r2 r3 r4 r5 r6 r7)) (F.args_zip_next_1 _))))
theorem ahB {z q1 q2 j1 j2 : Addr} {xs ys : Array Value} {e1 e2 : List Addr} {S1 S2 : Nat -> Heap -> Prop} {k : Nat} {u v : Value} {Q : Option Value -> Shared -> Prop} (hh : A.handled = none) (F1 : Src prog w j1 xs e1 S1) (F2 : Src prog w j2 ys e2 S2) (D : Far z q1 q2 j1 j2 e1 e2)
  (hz : IsZip s.heap z q1 q2 .none) (hq1 : IsPair s.heap q1 (.ref j1) (.ref j2)) (hq2 : IsPair s.heap q2 u v) (h1 : S1 k s.heap) (h2 : S2 k s.heap) (hend : xs[k]? = none \/ ys[k]? = none)
  (hQ : ∀ h', (∀ c o, c ≠ z -> c ≠ q2 -> c ≠ j1 -> c ≠ j2 -> s.heap.get? c = some o -> h'.get? c = some o) -> Q none { s with heap := h' }) : wpAny (model prog w) A (pyNext (.ref z)) Q E s := by
 have ty : s.TypeIs (.ref z) "zip" := ⟨_, hz, rfl⟩
 unfold pyNext
 refine wpAny_bind (wpAny_attempt (wpAny_callSpecial?_slot (name := apE "__next__") ty ard (wpAny_call_entry ard ty F.entry_zip_next (ajb hh F1 F2 D hz hq1 hq2 h1 h2 hend fun h' e kp ⟨o, g, c⟩ => ?_) (F.args_zip_next_1 _))))
 exact wpAny_bind (wpAny_isInstance (T := "StopIteration") (b := true) ⟨o, g, c⟩ isSubtype_stop (wpAny_pure (hQ _ kp)))
end
abbrev zt1 (h : Heap) (a : Addr) : Heap := h.push { cls := .type "tuple_iterator", data := .fields #[.ref a, .int 0 0] }
abbrev zt2 (h : Heap) (a b : Addr) : Heap := (zt1 h a).push { cls := .type "tuple_iterator", data := .fields #[.ref b, .int 0 0] }
abbrev zt3 (h : Heap) (a b : Addr) : Heap := (zt2 h a b).push { cls := .type "tuple", data := .seq #[.ref h.objs.size, .ref (zt1 h a).objs.size] }
abbrev zt4 (h : Heap) (a b : Addr) : Heap := (zt3 h a b).push { cls := .type "tuple", data := .seq #[.none, .none] }
abbrev zt5 (h : Heap) (a b : Addr) : Heap := (zt4 h a b).push { cls := .type "zip", data := .fields #[.none, .bool false, .bool false, .ref (zt2 h a b).objs.size, .ref (zt3 h a b).objs.size] }
theorem afg (a b : Addr) (xs ys : Array Value) : Meets (Builtin.«zip.__new__» ⟨[.type "zip", .ref a, .ref b], []⟩) (fun _ R s => s.heap.IsTuple a xs /\ s.heap.IsTuple b ys /\ R (.ok (.ret (.ref (zt4 s.heap a b).objs.size))) { s with heap := zt5 s.heap a b }) :=
 .of_wp fun prog w A R s ⟨ha, hb, h⟩ => by
  obtain ⟨hp, g, d, tk, os⟩ := s
  have hsub := sub_zip
  have hA : Heap.IsTuple (Shared.heap ⟨hp, g, d, tk, os⟩) a xs := ha
  have hB : Heap.IsTuple (Shared.heap ⟨hp.push { cls := .type "tuple_iterator", data := .fields #[.ref a, .int 0 0] }, g, d, tk, os⟩) b ys := hb.at fun o e => anV _ e
  wp_walk using wpAny_pyIter_tuple hA, wpAny_pyIter_tuple hB
  exact ⟨_, rfl, h⟩
section
variable {prog : Program} {w : World} {A : Around} {E : Value -> Shared -> Prop} {s : Shared}
theorem ahD {a b : Addr} {xs ys : Array Value} {Q : Value -> Shared -> Prop} (ha : s.heap.IsTuple a xs) (hb : s.heap.IsTuple b ys)
  (h : ∀ h', IsZip h' (s.heap.objs.size + 4) (s.heap.objs.size + 2) (s.heap.objs.size + 3) .none -> IsPair h' (s.heap.objs.size + 2) (.ref s.heap.objs.size) (.ref (s.heap.objs.size + 1)) -> IsPair h' (s.heap.objs.size + 3) .none .none ->
   h'.IsTupleIter s.heap.objs.size a 0 -> h'.IsTupleIter (s.heap.objs.size + 1) b 0 -> (∀ c o, s.heap.get? c = some o -> h'.get? c = some o) -> Q (.ref (s.heap.objs.size + 4)) { s with heap := h' }) :
  wpAny (model prog w) A (call (.type "zip") [.ref a, .ref b]) Q E s := by
 refine callType_new F.called_zip (by decide) (F.typeCall_zip_2 _ _) (F.newCall_zip_2 _ _) (fun obj => F.args_object_init_3 obj _ _) F.entry_zip_new (afg a b xs ys) ⟨ha, hb, ?_⟩
 have n1 : (zt1 s.heap a).objs.size = s.heap.objs.size + 1 := apc ..
 have n2 : (zt2 s.heap a b).objs.size = s.heap.objs.size + 2 := by rw [apc, n1]
 have n3 : (zt3 s.heap a b).objs.size = s.heap.objs.size + 3 := by rw [apc, n2]
 have n4 : (zt4 s.heap a b).objs.size = s.heap.objs.size + 4 := by rw [apc, n3]
 have up : ∀ {hh : Heap} {c : Addr} {o p : Obj}, hh.get? c = some o -> (hh.push p).get? c = some o := fun e => anV _ e
 have k5 : (zt5 s.heap a b).get? (zt4 s.heap a b).objs.size = some _ := aoi _ rfl
 have k4 : (zt5 s.heap a b).get? (zt3 s.heap a b).objs.size = some _ := up (aoi _ rfl)
 have k3 : (zt5 s.heap a b).get? (zt2 s.heap a b).objs.size = some _ := up (up (aoi _ rfl))
 have k2 : (zt5 s.heap a b).get? (zt1 s.heap a).objs.size = some _ := up (up (up (aoi _ rfl)))
 have k1 : (zt5 s.heap a b).get? s.heap.objs.size = some _ := up (up (up (up (aoi _ rfl))))
 show _ /\ _
 rw [n2, n3, n4] at k5
 rw [n1, n2] at k3
 rw [n3] at k4
 rw [n1] at k2
 rw [n4]
 exact ⟨⟨_, k5, rfl⟩, h _ k5 k3 k4 ⟨_, k1, rfl, rfl⟩ ⟨_, k2, rfl, rfl⟩ fun c o e => up (up (up (up (up e))))⟩
theorem akG {n a b : Nat} (ha : a < n) (hb : b < n) : Far (show Addr from n + 4) (show Addr from n + 2) (show Addr from n + 3) (show Addr from n) (show Addr from n + 1) [show Addr from n, show Addr from a] [show Addr from n + 1, show Addr from b] := by
 have l1 : ∀ {x y z : Nat}, x ≠ y -> x ≠ z -> x ∉ [y, z] := fun h1 h2 h => (aoa.mp h).elim h1 fun h => h2 (aom.mp h)
 exact ⟨fun (h : n + 2 = n + 4) => by omega, fun (h : n + 3 = n + 4) => by omega, fun (h : n + 2 = n + 3) => by omega, fun (h : n = n + 1) => by omega, fun (h : n + 2 = n) => by omega, fun (h : n + 2 = n + 1) => by omega,
  l1 (x := n + 4) (y := n) (z := a) (by omega) (by omega), l1 (x := n + 4) (y := n + 1) (z := b) (by omega) (by omega), l1 (x := n + 3) (y := n) (z := a) (by omega) (by omega), l1 (x := n + 3) (y := n + 1) (z := b) (by omega) (by omega), l1 (x := n + 1) (y := n) (z := a) (by omega) (by omega), l1 (x := n) (y := n + 1) (z := b) (by omega) (by omega)⟩
end
def anB (K : anS) (a b : Addr) : It :=
 ⟨fun i H => ∃ xs ys x y, SqT K H a xs /\ SqT K H b ys /\ xs[i]? = some x /\ ys[i]? = some y, fun i H v H' => ∃ t x y, v = .ref t /\ H t = none /\ H' = upd H t (.tup [x, y]) /\ (∀ xs, SqT K H a xs -> xs[i]? = some x) /\ ∀ ys, SqT K H b ys -> ys[i]? = some y,
  fun i H => ∃ xs ys, SqT K H a xs /\ SqT K H b ys /\ (xs.length <= i \/ ys.length <= i)⟩
theorem ahE {P : Program} {w : World} {K : anS} {es : List Expr} {k : Nat} {pos : Pos} (a b z q1 q2 c1 c2 : Addr) (D : Far z q1 q2 c1 c2 [c1, a] [c2, b]) (n1 : c1 ≠ a) (n2 : c2 ≠ b) :
  Turn P w K (.Tuple es k pos) (anB K a b) [z, q1, q2, c1, c2] z (fun i h => IsZip h z q1 q2 .none /\ IsPair h q1 (.ref c1) (.ref c2) /\ (∃ u v, IsPair h q2 u v) /\ h.IsTupleIter c1 a i /\ h.IsTupleIter c2 b i) where
 mem := by simp
 obj := fun i h ⟨s1, s2, ⟨u, v, s3⟩, ⟨o4, e4, _, d4⟩, ⟨o5, e5, _, d5⟩⟩ x hx => by
  simp only [aoa, aoS, or_false] at hx
  rcases hx with rfl | rfl | rfl | rfl | rfl
  ·exact ⟨_, s1, fun y e => by have e' : Data.fields _ = Data.cell y := e; cases e'⟩
  ·exact ⟨_, s2, fun y e => by have e' : Data.seq _ = Data.cell y := e; cases e'⟩
  ·exact ⟨_, s3, fun y e => by have e' : Data.seq _ = Data.cell y := e; cases e'⟩
  ·exact ⟨o4, e4, fun y e => by rw [d4] at e; cases e⟩
  ·exact ⟨o5, e5, fun y e => by rw [d5] at e; cases e⟩
 keep := fun i h h' ⟨s1, s2, ⟨u, v, s3⟩, s4, s5⟩ kk => ⟨kk z (by simp) _ s1, kk q1 (by simp) _ s2, ⟨u, v, kk q2 (by simp) _ s3⟩, s4.at fun o e => kk c1 (by simp) o e, s5.at fun o e => kk c2 (by simp) o e⟩
 item := by
  intro X hP hw hK hc i pins s σ H E I hf st hg
  subst hP hw hK
  obtain ⟨xs, ys, x, y, hq, hp, hx, hy⟩ := hg
  obtain ⟨its, rv, p, _⟩ := I.tuple hq
  obtain ⟨u, hu, ru⟩ := rv.get hx
  obtain ⟨its', rv', p', _⟩ := I.tuple hp
  obtain ⟨v, hv, rv2⟩ := rv'.get hy
  obtain ⟨s1, s2, ⟨u0, v0, s3⟩, s4, s5⟩ := st
  have zc1 : c1 ≠ z := fun e => D.z1 (e ▸ an0 ..)
  have zc2 : c2 ≠ z := fun e => D.z2 (e ▸ an0 ..)
  refine aff (src_tuple c1 a its.toArray) (src_tuple c2 b its'.toArray) D s1 s2 s3 ⟨s4, p, n1⟩ ⟨s5, p', n2⟩ (x := u) (y := v) (by simpa using hu) (by simpa using hv) fun h' m1 m3 m4 m5 tp sz kp => ⟨_, rfl, ?_⟩
  refine wpAny_letOwnedTupleGo_zip (s := { s with heap := h' }) m1 fun h2 l1 sb => ?_
  have old : ∀ c ∈ [z, q1, q2, c1, c2], c < s.heap.objs.size := fun c hc => by
   obtain ⟨o4, e4, _, _⟩ := s4
   obtain ⟨o5, e5, _, _⟩ := s5
   simp only [aoa, aoS, or_false] at hc
   rcases hc with rfl | rfl | rfl | rfl | rfl
   ·exact aoc s1
   ·exact aoc s2
   ·exact aoc s3
   ·exact aoc e4
   ·exact aoc e5
  have kk : ∀ c o, c ∉ [z, q1, q2, c1, c2] -> s.heap.get? c = some o -> h2.get? c = some o := fun c o hc e => by
   simp only [aoa, aoS, or_false, not_or] at hc
   exact (sb.2 c hc.1).trans (kp c o hc.1 hc.2.2.1 hc.2.2.2.1 hc.2.2.2.2 e)
  have hlt : z < s.heap.objs.size := old z (by simp)
  have I2 : Inv X pins σ (upd H s.heap.objs.size (.tup [x, y])) { s with heap := h2, toks := s.toks } := I.turnedNew (t' := s.toks) hf kk (anW _) ⟨by show 2 <= sizeLine; decide, [u, v], .cons ru (.cons rv2 .nil), ⟨_, (sb.2 _ (apZ hlt)).trans tp, rfl, _, rfl⟩⟩
  refine ⟨.ref s.heap.objs.size, _, I2, rfl, ⟨_, x, y, rfl, I.fresh, rfl, fun zs hz => by rw [I.tuple_inj hz hq]; exact hx, fun zs hz => by rw [I.tuple_inj hz hp]; exact hy⟩, ⟨l1, ?_, ⟨u, v, ?_⟩, ?_, ?_⟩, fun c hc => ?_⟩
  ·exact (sb.2 q1 D.q1z).trans (kp q1 _ D.q1z D.q12 D.q1j1 D.q1j2 s2)
  ·exact (sb.2 q2 D.q2z).trans m3
  ·exact m4.1.at fun o eo => (sb.2 c1 zc1).trans eo
  ·exact m5.1.at fun o eo => (sb.2 c2 zc2).trans eo
  ·rw [zI (aoB (old c hc))]
   exact (hf c hc).1
 done := by
  intro X hP hw hK hc i pins s σ H E I hf st hg
  subst hP hw hK
  obtain ⟨xs, ys, hq, hp, hx⟩ := hg
  obtain ⟨its, rv, p, _⟩ := I.tuple hq
  obtain ⟨its', rv', p', _⟩ := I.tuple hp
  obtain ⟨s1, s2, ⟨u0, v0, s3⟩, s4, s5⟩ := st
  have hl := rv.length
  have hl' := rv'.length
  refine ahB (I.ok.hd hc) (src_tuple c1 a its.toArray) (src_tuple c2 b its'.toArray) D s1 s2 s3 ⟨s4, p, n1⟩ ⟨s5, p', n2⟩ (hx.imp (fun h => by simp; omega) fun h => by simp; omega) fun h' eb => ⟨rfl, I.turnedAll (t' := s.toks) hf fun c o hb e' => ?_⟩
  simp only [aoa, aoS, or_false, not_or] at hb
  exact eb c o hb.1 hb.2.2.1 hb.2.2.2.1 hb.2.2.2.2 e'
 self := fun _ _ _ _ _ st h => wpAny_pyIter_zip st.1 h
section
variable {X : Cx} {es : List Expr} {k : Nat} {tpos : Pos}
def ajc (K : anS) (ta : TA) : TI := fun σ H R => ta σ H fun vs H1 => ∃ a b, vs = [.ref a, .ref b] /\ (∃ xs, SqT K H1 a xs) /\ (∃ ys, SqT K H1 b ys) /\ R (anB K a b) H1
theorem akH {a b : Expr} {ta : TA} {p pos : Pos} (hg : Gl X "zip") (hm : X.mg "zip" = none) (ha : PA X [a, b] ta) (hs : starEach [a, b] X.env = (false, eval a X.env) :: starEach [b] X.env := by rfl) (hl : (backTo pos (starEach [b] X.env)).any (·.1) = false := by rfl) : PI X (.Tuple es k tpos) (.Call (.Name "zip" p) [a, b] [] pos) (ajc X.K ta) := by
 intro pins s σ H R I h
 refine Call_ (qc I hg hm boot_zip (ao0 (thn (ha pos pins s σ H _ I h) fun us s1 ⟨vs, H1, I1, r1, l, l', e, ⟨xs, hq⟩, ⟨ys, hp⟩, q⟩ => ?_) hs hl))
 subst e
 cases r1 with
 | cons r rr =>
  cases rr with
  | cons r' rr' =>
   cases rr'
   cases r
   cases r'
   obtain ⟨its, rv, p, _⟩ := I1.tuple hq
   obtain ⟨its', rv', p', _⟩ := I1.tuple hp
   obtain ⟨o1, e1, _⟩ := id p
   obtain ⟨o2, e2, _⟩ := id p'
   refine ahD p p' fun h' m1 m2 m3 m4 m5 kp => wpAny_pyIter_zip m1 ?_
   have b1 : l < s1.heap.objs.size := aoc e1
   have b2 : l' < s1.heap.objs.size := aoc e2
   refine ⟨_, [s1.heap.objs.size + 4, s1.heap.objs.size + 2, s1.heap.objs.size + 3, s1.heap.objs.size, s1.heap.objs.size + 1], _, _, H1, rfl, I1.kept (t' := s1.toks) kp, ahE l l' _ _ _ _ _ (akG b1 b2) (fun e => ao5 _ (e ▸ b1)) (fun e => by have : s1.heap.objs.size + 1 < s1.heap.objs.size := e ▸ b2; omega), ⟨m1, m2, ⟨_, _, m3⟩, m4, m5⟩, fun c hc => ?_, q⟩
   have hle : s1.heap.objs.size <= c := by
    simp only [aoa, aoS, or_false] at hc
    rcases hc with rfl | rfl | rfl | rfl | rfl <;> omega
   exact I1.fpOk hle (I1.hok.fresh hle)
theorem ajd {K : anS} {a b : Expr} {ta : TA} {p pos : Pos} (hK : X.K = K) (hg : Gl X "zip") (hm : X.mg "zip" = none) (ha : PA X [a, b] ta) (hs : starEach [a, b] X.env = (false, eval a X.env) :: starEach [b] X.env := by rfl) (hl : (backTo pos (starEach [b] X.env)).any (·.1) = false := by rfl) : PI X (.Tuple es k tpos) (.Call (.Name "zip" p) [a, b] [] pos) (ajc K ta) := hK ▸ akH hg hm ha hs hl
end
section
variable {K : anS} {f : Fx} {ρ : zy} {t : TA} {R : List PyData -> Prop}
theorem amL (h : PAd K f t ρ fun xs => ∃ ds es, xs = [.dat (.tuple ds), .dat (.tuple es)] /\ R (aja ds es)) : PId K f (ajc K t) ρ R := fun σ H C e q => h σ H _ e fun xs vs H1 g1 r1 ⟨ds, es, ex, p⟩ => by
 subst ex
 cases r1 with
 | cons rx r' =>
  cases r' with
  | cons ry r'' =>
   cases r''
   obtain ⟨a, xs, rfl, h1, h2⟩ := rep_tuple.mp rx
   obtain ⟨b, ys, rfl, k1, k2⟩ := rep_tuple.mp ry
   have l1 := h2.length
   have l2 := k2.length
   refine ⟨a, b, rfl, ⟨xs, (zo _ _).seqT h1⟩, ⟨ys, (zo _ _).seqT k1⟩, q (aja ds es) _ H1 g1 ⟨fun f' H' i d fo sm hd => ?_, fun f' H' _ sm => ⟨xs, ys, (zo _ _).seqT (sm.seqT h1), (zo _ _).seqT (sm.seqT k1), ?_⟩⟩ p⟩
   ·unfold aja at hd
    rw [aqW] at hd
    cases e1 : ds[i]? with
    | none => rw [e1] at hd; cases hd
    | some d1 =>
     cases e2 : es[i]? with
     | none => rw [e1, e2] at hd; cases hd
     | some d2 =>
      rw [e1, e2] at hd
      cases hd
      obtain ⟨z1, hz1, rz1⟩ := h2.get e1
      obtain ⟨z2, hz2, rz2⟩ := k2.get e2
      have s1 : SqT K H' a xs := (zo _ _).seqT (sm.seqT h1)
      have s2 : SqT K H' b ys := (zo _ _).seqT (sm.seqT k1)
      refine ⟨⟨xs, ys, z1, z2, s1, s2, hz1, hz2⟩, fun x H3 hy => ?_⟩
      obtain ⟨tp, y1, y2, rfl, hn, rfl, hy1, hy2⟩ := hy
      have q1 := hy1 xs s1
      rw [hz1] at q1
      cases q1
      have q2 := hy2 ys s2
      rw [hz2] at q2
      cases q2
      have gn : Goes f' H' (upd H' tp (.tup [z1, z2])) := .of_same (zZ hn _) fo
      exact ⟨gn, rep_tuple.mpr ⟨tp, _, rfl, .of (zD (fresh_ne fo hn) zA), .cons' (Rep.mono gn.1 _ _ (Rep.mono sm _ _ rz1)) (.cons' (Rep.mono gn.1 _ _ (Rep.mono sm _ _ rz2)) .nil')⟩⟩
   ·unfold aja
    rw [List.length_zipWith]
    omega
end
abbrev aaE (led : Bool) : Obj := { cls := .type "set", dict := none, data := .set #[] 0 (.fresh 0 0 led) }
def vN (w : World) (h0 h : Heap) (S : Addr) (ds : List PyData) : Prop := ∃ xs o es ep t, SetObj w h S xs o es ep t /\ (∀ x ∈ xs, KeyAt h0 x.1 x.2) /\ (xs.map (·.1)).Nodup /\ (∀ d, d ∈ xs.map (·.1) ↔ d ∈ ds)
def Keeps (h0 h : Heap) : Prop := ∀ b o, h0.get? b = some o -> h.get? b = some o
section
variable {prog : Program} {w : World} {A : Around} {R : Result -> Shared -> Prop} {I S : Addr} {fp wr : List Addr} {G : Array GenState -> Array GenState -> Prop} {n : Nat} {Pv : Nat -> Value -> Prop} {St : Nat -> Shared -> Prop} {h0 : Heap} {ds : List PyData}
theorem aje (W : WalksS prog w A.in1 I fp wr G n Pv St) (hSf : S ∉ fp) (hI : ∀ b ∈ wr, h0.get? b = none) (hS0 : h0.get? S = none) (hn : n = ds.length) (hv : ∀ i v, Pv i v -> ∃ d b, ds[i]? = some d /\ v = .ref b /\ KeyAt h0 d b) (few : ∀ us : List PyData, us.Nodup -> (∀ x ∈ us, x ∈ ds) -> us.length < 300) (hu : A.units + 70 < cLine) :
  ∀ (k i : Nat) (s : Shared), i + k = n -> St i s -> Keeps h0 s.heap -> vN w h0 s.heap S (ds.take i) -> (∀ s', Moved (S :: wr) G s s' -> Keeps h0 s'.heap -> vN w h0 s'.heap S ds -> R (.ok (.ret .none)) s') ->
   codeAny (model prog w) A (.builtin "set.update.loop" ⟨[.ref S, .ref I], []⟩) R s := by
 have nw : S ∉ wr := fun h => hSf (W.sub _ h)
 have up : ∀ b ∈ wr, b ∈ S :: wr := fun b hb => anY _ hb
 have kp : ∀ {s s' : Shared}, Moved wr G s s' -> Keeps h0 s.heap -> Keeps h0 s'.heap := fun {s s'} m K b o e => m.heap b o (fun z => by rw [hI b z] at e; cases e) (K b o e)
 have mv : ∀ {s s' : Shared} {ds : List PyData}, Moved wr G s s' -> vN w h0 s.heap S ds -> vN w h0 s'.heap S ds := fun {s s' ds} m ⟨xs, o, es, ep, t, q, r⟩ => ⟨xs, o, es, ep, t, ⟨m.heap S _ nw q.ob, q.ex, q.da, q.el, q.ok⟩, r⟩
 intro k
 induction k with
 | zero =>
  intro i s hi st K U hR
  refine codeAny_builtin aqD ?_
  rw [ap2 ao9 _]
  show wpAny _ A.in1 (pyNext (.ref I) >>= _) _ _ s
  have e : i = n := hi
  subst e
  refine wpAny_bind (W.done s _ _ st fun s' m => wpAny_pure (hR s' (m.mono up) (kp m K) ?_))
  have := mv m U
  rw [apF (by omega)] at this
  exact this
 | succ k ih =>
  intro i s hi st K U hR
  refine codeAny_builtin aqD ?_
  rw [ap2 ao9 _]
  show wpAny _ A.in1 (pyNext (.ref I) >>= _) _ _ s
  refine wpAny_bind (W.item i s _ _ (by omega) st fun v s' hP st' m => ?_)
  obtain ⟨d, b, hd, rfl, kb⟩ := hv i v hP
  have K' := kp m K
  obtain ⟨xs, o, es, ep, t, q, ks, nd, mm⟩ := mv m U
  have kx : ∀ {d b}, KeyAt h0 d b -> KeyAt s'.heap d b := fun z => z.keep fun b o e _ _ => K' b o e
  have lx : xs.length < 300 := by
   have := few _ nd fun x hx => aqs ((mm x).mp hx)
   rwa [anQ] at this
  have tk : ds.take (i + 1) = ds.take i ++ [d] := by rw [apo, hd]; rfl
  show wpAny _ A.in1 (holding [Value.ref b] (setAdd S (.ref b)) >>= _) _ _ s'
  have hu1 : A.in1.units = A.units + 1 := rfl
  refine wpAny_bind (wpAny_holding (agi (Q := fun s2 => wpAny (model prog w) A.in1 (again (.builtin "set.update.loop" ⟨[.ref S, .ref I], []⟩)) _ _ s2) q (fun x hx => kx (ks x hx)) (kx kb) (by omega) lx (fun hm => ?_) fun hm xs' o' es' ep' t' h' pm sb q' => ?_))
  ·refine wpAny_pure ⟨plainId_quiet ao9 _, ih (i + 1) _ (by omega) (W.frame _ s' _ _ st' (aq0 _ _) fun _ _ _ e => e) K' ⟨xs, o, es, ep, t, q, ks, nd, fun e => ?_⟩ fun s2 m2 K2 U2 => ?_⟩
   ·rw [tk, aop, mm e]
    refine ⟨.inl, fun z => z.elim id fun z => ?_⟩
    rw [aom.mp z]
    exact (mm d).mp hm
   ·exact hR s2 (Moved.trans W.gtrans ((m.mono up).then_heap (aq0 _ _) fun _ _ _ e => e) m2) K2 U2
  ·refine wpAny_pure ⟨plainId_quiet ao9 _, ih (i + 1) _ (by omega) (W.frame _ s' _ _ st' (aq0 _ _) fun c hc o e => ?_) (fun c o e => ?_) ⟨xs', o', es', ep', t', q', fun x hx => ?_, ?_, fun e => ?_⟩ fun s2 m2 K2 U2 => ?_⟩
   ·exact (sb.2 c fun z : c = S => hSf (z ▸ hc)).trans e
   ·exact (sb.2 c fun z : c = S => by rw [z, hS0] at e; cases e).trans (K' c o e)
   ·rcases aoa.mp (pm.mem_iff.mp hx) with z | z
    ·rw [z]; exact kb
    ·exact ks x z
   ·rw [(pm.map (·.1)).nodup_iff, aor]
    exact aoY.mpr ⟨hm, nd⟩
   ·rw [(pm.map (·.1)).mem_iff, aor, aoa, tk, aop, mm e, aom, Or.comm]
   ·exact hR s2 (Moved.trans W.gtrans ((m.mono up).then_heap (aq0 _ _) fun c o hc e => (sb.2 c fun z : c = S => hc (z ▸ an0)).trans e) m2) K2 U2
end
section
variable {prog : Program} {w : World} {A : Around} {E : Value -> Shared -> Prop} {s : Shared}
theorem ad9 : isSubtype (.type "tuple") (.type "set") = pure false := by rw [isSubtype_type]; kernel_rfl
theorem aea : isSubtype (.type "tuple") (.type "frozenset") = pure false := by rw [isSubtype_type]; kernel_rfl
theorem ajf {t : Addr} {items : Array Value} {ds : List PyData} {led : Bool} {Q : Value -> Shared -> Prop} (hh : A.handled = none) (ht : s.heap.IsTuple t items) (hv : ∀ (i : Nat) (v : Value), items[i]? = some v -> ∃ d b, ds[i]? = some d /\ v = .ref b /\ KeyAt s.heap d b) (hn : items.size = ds.length) (few : ∀ us : List PyData, us.Nodup -> (∀ x ∈ us, x ∈ ds) -> us.length < 300) (hu : A.units + 80 < cLine)
  (h : ∀ h' tk, Keeps s.heap h' -> vN w s.heap h' s.heap.objs.size ds -> Q .none { s with heap := h', toks := tk }) :
  wpAny (model prog w) A.in1 (Builtin.«set.__init__» ⟨[.ref s.heap.objs.size, .ref t], []⟩) (fun fin s' => ∃ r, fin = .done (.ret r) /\ Q r s') E { s with heap := s.heap.push (aaE led) } := by
 have pS : (s.heap.push (aaE led)).get? s.heap.objs.size = some (aaE led) := aoi _ rfl
 have hT : Shared.TypeIs { s with heap := s.heap.push (aaE led) } (.ref s.heap.objs.size) "set" := ⟨_, pS, rfl⟩
 have t1 : (s.heap.push (aaE led)).IsTuple t items := ht.at fun o e => anV _ e
 obtain ⟨oc, go, kc, nl, kd⟩ := t1
 obtain ⟨c1, c2, c3, c4⟩ := oc
 simp only at kc kd
 subst kc
 subst kd
 have q1 := ad9
 have q2 := aea
 have q3 : (Value.type "tuple" == Value.type "dict") = false := by decide
 unfold Builtin.«set.__init__» noKeywords Builtin.Frozenset.updateFrom
 generalize hP : pyIter = PI
 wp_walk
 subst hP
 refine wpAny_pyIter_tuple ⟨_, go, rfl, nl, rfl⟩ (wpAny_bind (wpAny_runValue ?_))
 have sz : (s.heap.push (aaE led)).objs.size = s.heap.objs.size + 1 := apc ..
 obtain ⟨ot, gt, _⟩ := ht
 have lt := aoc gt
 have u1 : A.in1.units = A.units + 1 := rfl
 have u2 : A.in1.in1.units = A.units + 1 + 1 := rfl
 have none_ : ∀ b, s.heap.objs.size <= b -> s.heap.get? b = none := fun b hb => by
  cases e : s.heap.get? b with
  | none => rfl
  | some o => exact absurd (aoc e) (arT.mpr hb)
 have pS2 : ∀ o, ((s.heap.push (aaE led)).push o).get? s.heap.objs.size = some (aaE led) := fun o => anV _ pS
 refine aje (h0 := s.heap) (ds := ds) ((Walks.tuple (by simp [hh]) _ t (by rw [sz]; exact aoB (apa lt)) items).toS) (S := s.heap.objs.size) ?_ ?_ (none_ _ (anW _)) hn hv few (by first | omega | (rw [u2]; omega)) items.size 0 _ (by omega) ⟨⟨_, aoi _ rfl, rfl, rfl⟩, ?_⟩ ?_ ?_ fun s' m K U => ?_
 ·rw [sz]
  simp only [aoa, aoS, or_false, not_or]
  exact ⟨aoB (aqv _), apZ lt⟩
 ·intro b hb
  rw [aom.mp hb, sz]
  exact none_ _ (aqN _)
 ·exact ⟨_, anV _ go, rfl, nl, rfl⟩
 ·exact fun b o e => anV _ (anV _ e)
 ·exact ⟨[], _, _, _, _, ⟨pS2 _, ⟨rfl, rfl, rfl⟩, rfl, rfl, acg led⟩, fun x hx => (nomatch hx), ao4, fun d => by rw [aqt]; exact Iff.rfl⟩
 ·obtain ⟨h', g', d', tk', os'⟩ := s'
  have e1 : g' = s.gens := m.gens
  have e2 : d' = s.drawn := m.drawn
  have e3 : os' = s.os := m.os
  subst e1
  subst e2
  subst e3
  exact wpAny_pure (wpAny_pure ⟨_, rfl, h h' tk' K U⟩)
theorem ahF {t : Addr} {items : Array Value} {ds : List PyData} {Q : Value -> Shared -> Prop} (hh : A.handled = none) (ht : s.heap.IsTuple t items) (hv : ∀ (i : Nat) (v : Value), items[i]? = some v -> ∃ d b, ds[i]? = some d /\ v = .ref b /\ KeyAt s.heap d b) (hn : items.size = ds.length) (few : ∀ us : List PyData, us.Nodup -> (∀ x ∈ us, x ∈ ds) -> us.length < 300) (hu : A.units + 90 < cLine)
  (h : ∀ h' tk, Keeps s.heap h' -> vN w s.heap h' s.heap.objs.size ds -> Q (.ref s.heap.objs.size) { s with heap := h', toks := tk }) :
  wpAny (model prog w) A (call (.type "set") [.ref t]) Q E s := by
 obtain ⟨c, tl, m1⟩ := aqk.mro
 have m2 := aqk.made
 have m3 := aqk.sub
 have m4 := aqk.notType
 have m5 := aqk.canCreate
 have m6 := F.typeCall_set_1 (.ref t)
 refine wpAny_call (codeAny_of_tree (wpAny_pure ⟨Code.quiet_builtin _ (by decide +kernel), codeAny_builtin F.entry_type_call ?_⟩))
 rw [Around.under_plain (weight_type_call_type "set" [.ref t] []) rfl]
 repeat (any_goals (first | assumption | wp_step))
 refine codeAny_mono (code_set_new_1 (.ref t) (E := E) (Q₁ := fun v s1 => ∃ led : Bool, v = .ref s.heap.objs.size /\ s1 = { s with heap := s.heap.push (aaE led) }) fun led => ⟨led, rfl, rfl⟩) fun r s1 hr => ?_
 match r, hr with
 | .error e, hr => exact hr
 | .ok (.ret v), ⟨led, e1, e2⟩ =>
  subst e1
  subst e2
  have pS : (s.heap.push (aaE led)).get? s.heap.objs.size = some (aaE led) := aoi _ rfl
  have hT : Shared.TypeIs { s with heap := s.heap.push (aaE led) } (.ref s.heap.objs.size) "set" := ⟨_, pS, rfl⟩
  have m7 := aqk.init.lookup
  have m8 := aqk.init.bind (.ref s.heap.objs.size)
  repeat (any_goals (first | assumption | wp_step))
  have hi := fun (R : Value -> Shared -> Prop) (hR : ∀ h' tk, Keeps s.heap h' -> vN w s.heap h' s.heap.objs.size ds -> R .none { s with heap := h', toks := tk }) => ajf (prog := prog) (w := w) (A := A.in1) (E := E) (led := led) (Q := R) (by simp [hh]) ht hv hn few (show A.units + 1 + 80 < cLine by omega) hR
  refine codeAny_mono (codeAny_call_builtin (R := wants (fun r s2 => r = .none /\ ∃ h' tk, s2 = { s with heap := h', toks := tk } /\ Keeps s.heap h' /\ vN w s.heap h' s.heap.objs.size ds) E) aqk.init.plain F.entry_set_init (check_set_init_1 hT ?_)) fun r2 s2 hr2 => ?_
  ·refine wpAny_mono (hi (fun r s2 => r = .none /\ ∃ h' tk, s2 = { s with heap := h', toks := tk } /\ Keeps s.heap h' /\ vN w s.heap h' s.heap.objs.size ds) fun h' tk k u => ⟨rfl, h', tk, rfl, k, u⟩) (fun fin s' z => ?_) fun e s' z => z
   obtain ⟨r, rfl, z⟩ := z
   exact z
  ·match r2, hr2 with
   | .error e, z => exact z
   | .ok (.ret v), ⟨e1, h', tk, e2, k, u⟩ =>
    subst e1
    subst e2
    repeat (any_goals (first | assumption | wp_step))
    exact h _ _ k u
def afh (w : World) (K : anS) : List V -> Hp -> VK -> Prop := fun xs H Q => ∃ p ys ds, xs = [.ref p] /\ SqT K H p ys /\ Reps K H ds ys /\ (∀ d ∈ ds, abN d) /\ (∀ us : List PyData, us.Nodup -> (∀ x ∈ us, x ∈ ds) -> us.length < 300) /\ ∀ a zs, H a = none -> (zs.map (·.1)).Nodup -> (∀ d, d ∈ zs.map (·.1) ↔ d ∈ ds) -> Q (.ref a) (upd H a (SetO w a zs))
end
section
variable {prog : Program} {w : World} {A : Around} {E : Value -> Shared -> Prop} {s : Shared}
theorem akI {d : Addr} {o : Obj} {es : Array DictEntry} {ep : Nat} {Q : Value -> Shared -> Prop} (nd : (d == sysModules) = false) (ho : s.heap.get? d = some o) (hx : o.ExactDict) (hd : o.data = .dict es ep) (hz : es.size < 2 ^ 60)
  (h : Q (.int es.size (s.toks + 1)) { s with toks := s.toks + 1 + 1 }) : wpAny (model prog w) A (call (.builtin "len") [.ref d]) Q E s := by
 have hT : s.TypeIs (.ref d) "dict" := ⟨o, ho, hx.1⟩
 refine call_len_slot (n := es.size) hT ar2 (fun Q' q' => ?_) (by omega) (by omega) h
 refine wpAny_call_entry ar2 hT PySem.F.entry_dict_len ?_ (PySem.F.args_dict_len_1 _)
 unfold Builtin.«dict.__len__»
 obtain ⟨c1, c2, c3, c4⟩ := o
 simp only at hd
 subst hd
 wp_walk
 exact ⟨_, rfl, by simpa using q'⟩
end
theorem Room.units100 {k : Nat} {A : Around} (r : Room k A) : A.units + 100 < cLine := by have := r.un; omega
theorem afi {X : Cx} (hc : X.calm = true) (hu : X.A.units + 100 < cLine) : z6 X (.type "set") (afh X.w X.K) := by
 intro pins s σ H xs us Q I r h
 obtain ⟨p, ys, ds, rfl, hT, rs, kt, hl, q⟩ := h
 obtain ⟨u, rfl, rx⟩ := vals1 r
 cases rx
 obtain ⟨its, rv, pl, hz⟩ := I.tuple hT
 have l1 := rv.length
 have l2 := rs.length
 have sz : its.toArray.size = ds.length := by rw [aod]; omega
 refine ahF (ds := ds) (I.ok.hd hc) pl (fun i v hv => ?_) sz hl (by omega) fun h' tk k u => ?_
 ·have hi : i < ds.length := by
   rw [<- sz]
   exact (aru.mp hv).1
  have e1 := acT rs i
  have e2 := acS rv i
  have hv' : its[i]? = some v := by simpa using hv
  rw [anU, anP hi, arP] at e1
  rw [anU (l := its), hv', arP] at e2
  have km := kt _ (aot hi)
  obtain ⟨b, eb⟩ := qQ km e1
  rw [eb] at e1 e2
  refine ⟨ds[i], b, anP hi, by cases e2; rfl, qi I km.1 e1⟩
 ·obtain ⟨zs, o, es, ep, t, S, _, nd, mm⟩ := u
  exact ⟨.ref s.heap.objs.size, _, I.laid (t' := tk) k (anW _) (SetO.ok S), rfl, q _ zs (I.hok.fresh (anW _)) nd mm⟩
theorem aeb {X : Cx} {K : anS} {w : World} (hc : X.calm = true) (hw : X.w = w) (hK : X.K = K) (hu : X.A.units + 100 < cLine) : z6 X (.type "set") (afh w K) := hw ▸ hK ▸ afi hc hu
def ajg (w : World) : List V -> Hp -> VK -> Prop := fun xs H Q => ∃ p zs, xs = [.ref p] /\ H p = some (SetO w p zs) /\ zs.length <= 1000 /\ Q (.int zs.length) H
theorem ahG {X : Cx} : z6 X (.builtin "len") (ajg X.w) := by
 intro pins s σ H xs us Q I r h
 obtain ⟨p, zs, rfl, hS, hl, q⟩ := h
 obtain ⟨u, rfl, rx⟩ := vals1 r
 cases rx
 obtain ⟨⟨o, es, ep, t, S⟩, _⟩ := I.hok p _ hS
 exact call_len_set S.ob S.ex S.da S.fits (by rw [S.size]; omega) ⟨.int zs.length, H, I.tok _, ⟨_, by rw [S.size]⟩, q⟩
theorem afj {X : Cx} {w : World} (hw : X.w = w) : z6 X (.builtin "len") (ajg w) := hw ▸ ahG
def ac9 (w : World) : List V -> Hp -> VK -> Prop := fun xs H Q => ∃ p zs, xs = [.ref p] /\ H p = some (DicO w p zs) /\ zs.length <= 1000 /\ Q (.int zs.length) H
theorem aec {X : Cx} : z6 X (.builtin "len") (ac9 X.w) := by
 intro pins s σ H xs us Q I r h
 obtain ⟨p, zs, rfl, hS, hl, q⟩ := h
 obtain ⟨u, rfl, rx⟩ := vals1 r
 cases rx
 obtain ⟨⟨o, es, ep, S⟩, _⟩ := I.hok p _ hS
 have sz : es.size = zs.length := by rw [<- aok, S.el, anQ]
 exact akI S.ns S.ob S.ex S.da (by omega) ⟨.int zs.length, H, I.tok _, ⟨_, by rw [sz]⟩, q⟩
theorem vO {X : Cx} {w : World} (hw : X.w = w) : z6 X (.builtin "len") (ac9 w) := hw ▸ aec
theorem Reps.erase {K : anS} {H : Hp} : ∀ {ds : List PyData} {xs : List V}, Reps K H ds xs -> ∀ n : Nat, Reps K H (ds.eraseIdx n) (xs.eraseIdx n)
 | [], xs, t, n => by rw [reps_nil.mp t]; exact .nil'
 | e :: ds, xs, t, n => by
  obtain ⟨y, r, rfl, h2, h3⟩ := reps_cons.mp t
  cases n with
  | zero => exact h3
  | succ n => exact .cons' h2 (Reps.erase h3 n)
section
variable {w : World} {K : anS} {f : Fx} {Ds : List Addr} {ρ : zy} {cs : List OC} {te : TE} {O : MEnds} {i j n : Nat} {kvs : List (PyData × PyData)}
theorem ajh {P : PyData -> Prop} (h : PEd K f te ρ fun d => ∃ ds, d = .tuple ds /\ (∀ x ∈ ds, abN x) /\ (∀ us : List PyData, us.Nodup -> (∀ x ∈ us, x ∈ ds) -> us.length < 300) /\ ∀ us : List PyData, us.Nodup -> (∀ x, x ∈ us ↔ x ∈ ds) -> P (.int us.length)) :
  PEd K f (tCB (ajg w) (zW (tCB (afh w K) (zW te yP)) yP)) ρ P := fun σ H Q e q =>
 h σ H _ e fun d v H1 g1 r1 ⟨ds, ed, kt, hl, p⟩ => by
  subst ed
  obtain ⟨a, ys, rfl, hT, rs⟩ := rep_tuple.mp (Rep.mono (zo H1 f) _ _ r1)
  refine ⟨a, ys, ds, rfl, hT, rs, kt, hl, fun b zs hn nd mm => ?_⟩
  have lz : zs.length < 300 := by
   have := hl _ nd fun x hx => (mm x).mp hx
   rwa [anQ] at this
  refine ⟨b, zs, rfl, zA, by omega, ?_⟩
  have := p (zs.map (·.1)) nd mm
  rw [anQ] at this
  exact q (.int zs.length) _ _ (g1.trans (.of_same (zZ hn _) g1.2)) (rep_int.mpr rfl) this
def yA (w : World) (K : anS) (n : Nat) (cs : List OC) : Option DV -> Option DV
 | some (.own k) => if k < n then some (.own k) else match cs[k - n]? with
  | some (.lst es) => some (.dat (.list es))
  | some (.dic kvs) => some (.mon (ac8 w K kvs))
  | _ => none
 | x => x
theorem CM.freeD {σ : St} {H H2 : Hp} (se : Sep f Ds) (x : CM w K f Ds H2 ρ cs σ H) : EnvOk K f (ρ.map (yA w K f.M.length cs)) σ H := by
 have e0 := x.free se
 refine ⟨by rw [anQ]; exact x.env.len, fun q z hz => ?_, e0.fd⟩
 rw [aob] at hz
 cases e : ρ[q]? with
 | none => rw [e] at hz; cases hz
 | some z0 =>
  rw [e] at hz
  have old : ∀ z', freed f.M.length cs z0 = some z' -> ∃ v, σ[q]? = some (some v) /\ RepV K f H z' v := fun z' h => e0.get q z' (by rw [aob, e]; exact congrArg some h)
  cases z0 with
  | none => cases hz
  | some z0 =>
   cases z0 with
   | dat d => cases hz; exact old _ rfl
   | feed => cases hz; exact old _ rfl
   | exc C => cases hz; exact old _ rfl
   | mon φ => cases hz; exact old _ rfl
   | own k =>
    have hz' : (if k < f.M.length then some (DV.own k) else match cs[k - f.M.length]? with | some (.lst es) => some (.dat (.list es)) | some (.dic kvs) => some (.mon (ac8 w K kvs)) | _ => none) = some z := Option.some.inj hz
    have hold : freed f.M.length cs (some (.own k)) = (if k < f.M.length then some (DV.own k) else match cs[k - f.M.length]? with | some (.lst es) => some (.dat (.list es)) | _ => none) := rfl
    by_cases hk : k < f.M.length
    ·rw [if_pos hk] at hz' hold
     cases hz'
     exact old _ hold
    ·rw [if_neg hk] at hz' hold
     cases ec : cs[k - f.M.length]? with
     | none => rw [ec] at hz'; cases hz'
     | some c =>
      rw [ec] at hz' hold
      cases c with
      | lst es => cases hz'; exact old _ hold
      | set ks => cases hz'
      | dic kvs =>
       cases hz'
       obtain ⟨v, a1, b, h3, h4⟩ := x.env.get q _ e
       subst h4
       have h3' : (Ds.reverse ++ f.M).reverse[k]? = some b := h3
       rw [aqa, aq4, aol (by simpa using arT.mp hk), apC] at h3'
       obtain ⟨xs, h5, h6⟩ := x.own _ _ _ h3' ec
       have hb := aof h3'
       exact ⟨_, a1, fun H' s => ⟨b, xs, rfl, s b _ (zD (fun z => z.elim (se.nf b hb) (se.nm b hb)) h5), EntR.mono (same_withs.trans s) h6⟩⟩
theorem abo {tt : TT} {B : Bool -> Prop} (h : PTd K f tt (ρ.map (yA w K f.M.length cs)) B) : PTm w K f Ds tt ρ cs B := fun se σ H H2 Q x q =>
 h σ H Q (x.freeD se) fun b H' g p => q b H' (aag se x g) p
theorem alK {ta : TE} {P : PyData -> Prop} (h : PEd K f ta ρ fun k => abN k /\ ∃ kvs, ρ[i]? = some (some (.mon (ac8 w K kvs))) /\ P (.bool (decide (k ∈ kvs.map (·.1))))) : PEd K f (tOp (afb w K false) ta (yb i)) ρ P := fun σ H Q e q =>
 h σ H _ e fun k kv H1 g1 r1 ⟨kt, kvs, hi, p⟩ => by
  obtain ⟨b, rfl⟩ := qQ kt r1
  have e1 := e.mono g1
  obtain ⟨v, a1, a2⟩ := e1.get i _ hi
  obtain ⟨a, xs, rfl, h3, h4⟩ := a2 (hide H1 f) (Same.refl _)
  refine ⟨_, a1, a, b, k, xs, rfl, rfl, (zO h3).2, fun z hz => ⟨(jD h4 z hz).1, Rep.mono (zo _ _) _ _ (jD h4 z hz).2⟩, kt.1, Rep.mono (zo _ _) _ _ r1, ?_⟩
  have : (atKey xs k).isSome = decide (k ∈ kvs.map (·.1)) := by
   rcases aaM k h4 with ⟨a1, _, a3⟩ | ⟨p', d', v', a1, _, _, _, a5⟩
   ·rw [a1, decide_eq_false a3]; rfl
   ·rw [a1, decide_eq_true a5]; rfl
  simp only [aoF, if_false]
  rw [this]
  exact q _ _ H1 g1 (rep_bool.mpr rfl) p
theorem aji {a b : Nat} {es fs : List PyData} {tk : TE} (hi : ρ[i]? = some (some (.own (f.M.length + a)))) (hn : ρ[n]? = some (some (.own (f.M.length + b)))) (ha : cs[a]? = some (.lst es)) (hb : cs[b]? = some (.lst fs)) (ab : a ≠ b) (hl : es.length < 1000) (hlf : fs.length < 1000)
  (h : PEm w K f Ds tk ρ cs fun y => ∃ k : Nat, y = .int k /\ ∃ d, fs[k]? = some d /\ O.nx ρ ((cs.set b (.lst (fs.eraseIdx k))).set a (.lst (es ++ [d])))) :
  PSm w K f Ds (aaV (tBM K "list" acJ (yb i) (zW (tBM K "list" aeS (yb n) (zW tk yP)) yP))) ρ cs O := fun se σ H H2 E x nn r bk k => by
 have ja : a < Ds.length := by rw [<- x.len]; exact (anT.mp ha).1
 have jb : b < Ds.length := by rw [<- x.len]; exact (anT.mp hb).1
 have hA : Ds[a]? = some Ds[a] := anP ja
 have hB : Ds[b]? = some Ds[b] := anP jb
 obtain ⟨va, h0, _⟩ := x.own a _ _ hA ha
 obtain ⟨vb, h0b, _⟩ := x.own b _ _ hB hb
 refine ⟨_, yz hi x hA, Or.inl ⟨rfl, va, .of h0⟩, _, yz hn x hB, Or.inl ⟨rfl, vb, .of h0b⟩, ?_⟩
 refine h se σ H H2 _ x fun y u H1 g1 r1 ⟨c, ey, d, hd, p1⟩ => ?_
 subst ey
 rw [rep_int.mp r1]
 have x1 := x.go g1 (x.env.mono g1)
 obtain ⟨vs, h1, h2⟩ := x1.own b _ _ hB hb
 have hc := (anT.mp hd).1
 obtain ⟨v, hv, rv⟩ := h2.get hd
 have l2 := h2.length
 have x2 := x1.put se hB (o := .lst (vs.eraseIdx c)) (c' := .lst (fs.eraseIdx c)) ⟨vs.eraseIdx c, zA, Reps.erase h2 c⟩
 have hD1 : hide (upd H1 Ds[b] (.lst (vs.eraseIdx c))) (f.withs Ds) = hide H1 (f.withs Ds) := yi (aof hB)
 refine ⟨Ds[b], vs, (c : Int), c, v, rfl, rfl, h1, by omega, by omega, ?_, hv, ?_⟩
 ·unfold seqIndex?
  simp
  omega
 ·have ha2 : (cs.set b (.lst (fs.eraseIdx c)))[a]? = some (.lst es) := by rw [apY (ape ab)]; exact ha
  obtain ⟨ws, h3, h4⟩ := x2.own a _ _ hA ha2
  refine ⟨_, ws, v, rfl, rfl, h3, yg (by rw [h4.length]; omega), ?_⟩
  exact nn _ _ _ _ (x2.put se hA (o := .lst (ws ++ [v])) (c' := .lst (es ++ [d])) ⟨ws ++ [v], zA, h4.snoc (by rw [hD1]; exact rv)⟩) p1
theorem akJ {b : Nat} {fs : List PyData} {tk : TE} (hn : ρ[n]? = some (some (.own (f.M.length + b)))) (hb : cs[b]? = some (.lst fs)) (hlf : fs.length < 1000)
  (h : PEm w K f Ds tk ρ cs fun y => ∃ k : Nat, y = .int k /\ k < fs.length /\ O.nx ρ (cs.set b (.lst (fs.eraseIdx k)))) :
  PSm w K f Ds (aaV (tBM K "list" aeS (yb n) (zW tk yP))) ρ cs O := fun se σ H H2 E x nn r bk k => by
 have jb : b < Ds.length := by rw [<- x.len]; exact (anT.mp hb).1
 have hB : Ds[b]? = some Ds[b] := anP jb
 obtain ⟨vb, h0b, _⟩ := x.own b _ _ hB hb
 refine ⟨_, yz hn x hB, Or.inl ⟨rfl, vb, .of h0b⟩, ?_⟩
 refine h se σ H H2 _ x fun y u H1 g1 r1 ⟨c, ey, hc, p1⟩ => ?_
 subst ey
 rw [rep_int.mp r1]
 have x1 := x.go g1 (x.env.mono g1)
 obtain ⟨vs, h1, h2⟩ := x1.own b _ _ hB hb
 obtain ⟨v, hv, rv⟩ := h2.get (anP hc)
 have l2 := h2.length
 refine ⟨Ds[b], vs, (c : Int), c, v, rfl, rfl, h1, by omega, by omega, ?_, hv, ?_⟩
 ·unfold seqIndex?
  simp
  omega
 ·exact nn _ _ _ _ (x1.put se hB (o := .lst (vs.eraseIdx c)) (c' := .lst (fs.eraseIdx c)) ⟨vs.eraseIdx c, zA, Reps.erase h2 c⟩) p1
end
end L2
namespace L2
open PySem PySem.Spec PyProof.Rows
section
variable {K : anS} {f : Fx} {ρ : zy} {R : List DV -> Prop} {i j m n : Nat} {d0 d1 d2 d3 : PyData}
theorem aaF (h0 : ρ[i]? = some (some (.dat d0))) (h : R [.dat d0]) : PAd K f (zW (yb i) yP) ρ R := zS (zw h0 (yB h))
theorem amM (h0 : ρ[i]? = some (some (.dat d0))) (h1 : ρ[j]? = some (some (.dat d1))) (h : R [.dat d0, .dat d1]) : PAd K f (zW (yb i) (zW (yb j) yP)) ρ R := zS (zw h0 (aaF h1 h))
theorem afk (h0 : ρ[i]? = some (some (.dat d0))) (h1 : ρ[j]? = some (some (.dat d1))) (h2 : ρ[m]? = some (some (.dat d2))) (h : R [.dat d0, .dat d1, .dat d2]) : PAd K f (zW (yb i) (zW (yb j) (zW (yb m) yP))) ρ R := zS (zw h0 (amM h1 h2 h))
end
end L2
namespace L2
open PySem PySem.Spec PyProof.Rows
section
variable {w : World} {K : anS} {f : Fx} {Ds : List Addr} {ts : TS} {ρ : zy} {cs : List OC} {O : MEnds} {i : Nat}
theorem akK (h : PSd K f ts (ρ.map (yA w K f.M.length cs)) { nx := fun _ => False, rt := O.rt }) : PSm w K f Ds ts ρ cs O := fun se σ H H2 E x n r b k =>
 h σ H E (x.freeD se) (fun _ _ _ _ _ z => z.elim) (fun d v H' g' r' p => r d v ρ cs σ H' (x.goF se g') r' p) (fun _ _ _ _ _ z => z.elim) (fun _ _ _ _ _ z => z.elim)
theorem ajj {P : PyData -> Prop} {kvs : List (PyData × PyData)} (hi : ρ[i]? = some (some (.mon (ac8 w K kvs)))) (hl : kvs.length <= 1000) (p : P (.int kvs.length)) : PEd K f (tCB (ac9 w) (zW (yb i) yP)) ρ P := fun σ H Q e q => by
 obtain ⟨v, a1, a2⟩ := e.get i _ hi
 obtain ⟨a, xs, rfl, h3, h4⟩ := a2 (hide H f) (Same.refl _)
 have el := ac7 h4
 exact ⟨_, a1, a, xs, rfl, (zO h3).2, by omega, q (.int kvs.length) _ H (.refl e.fd) (by rw [el]; exact rep_int.mpr rfl) p⟩
theorem ajk {α : Type} {F : α -> PyData} {rs : List α} {n : Nat} {d : PyData} (h : (aas (rs.map F))[n]? = some d) : ∃ r, rs[n]? = some r /\ d = .tuple [.int n, F r] := by
 unfold aas at h
 rw [asb, aob] at h
 cases e : rs[n]? with
 | none => rw [e] at h; cases h
 | some r =>
  rw [e] at h
  cases h
  exact ⟨r, rfl, rfl⟩
theorem ahH (ds : List PyData) : (aas ds).length = ds.length := by
 unfold aas
 simp
end
def akL (w : World) (K : anS) (f : Fx) (Ds : List Addr) (ts : TS) (ρ : zy) (cs : List OC) (j : Nat) (R : List PyData -> Prop) : Prop := Sep f Ds -> ∀ (σ : St) (H H2 : Hp) (E : Ends), CM w K f Ds H2 ρ cs σ H ->
 (∀ D es ρ' cs' σ' H', CM w K f Ds H2 ρ' cs' σ' H' -> Ds[j]? = some D -> cs'[j]? = some (.lst es) -> R es -> E.rt (.ref D) H') -> ts E σ H
def akM (w : World) (K : anS) (f : Fx) (Ds : List Addr) (ts : TS) (ρ : zy) (cs : List OC) (R : List PyData -> Prop) : Prop := Sep f Ds -> ∀ (σ : St) (H H2 : Hp) (E : Ends), CM w K f Ds H2 ρ cs σ H ->
 (∀ es D vs ρ' cs' σ' H', CM w K f Ds H2 ρ' cs' σ' H' -> H2 D = none -> H' D = some (.lst vs) -> Reps K (hide H' (f.with D)) es vs -> R es -> E.rt (.ref D) H') -> ts E σ H
section
variable {w : World} {K : anS} {f : Fx} {Ds : List Addr} {ρ : zy} {cs : List OC} {ts tu : TS} {tt : TT} {te : TE} {R : List PyData -> Prop} {i j : Nat}
theorem amN (h : PSm w K f Ds ts ρ cs { nx := fun ρ' cs' => akL w K f Ds tu ρ' cs' j R, rt := fun _ => False }) : akL w K f Ds (vj ts tu) ρ cs j R := fun se σ H H2 E x q =>
 h se σ H H2 _ x (fun ρ' cs' σ' H' x' p => p se σ' H' H2 E x' q) (fun _ _ _ _ _ _ _ _ z => z.elim) (fun _ _ _ _ _ z => z.elim) (fun _ _ _ _ _ z => z.elim)
theorem amO {es : List PyData} (hi : ρ[i]? = some (some (.own (f.M.length + j)))) (hc : cs[j]? = some (.lst es)) (h : R es) : akL w K f Ds (aeJ (yb i)) ρ cs j R := fun se σ H H2 E x q => by
 have hj : j < Ds.length := by rw [<- x.len]; exact (anT.mp hc).1
 have hD : Ds[j]? = some Ds[j] := anP hj
 exact ⟨_, yz hi x hD, q _ es ρ cs σ H x hD hc h⟩
theorem akN (h : akM w K f [] ts ρ [] R) : PSn K f ts ρ R := fun σ H E e q =>
 h ⟨ao4, (fun _ z => nomatch z), (fun _ z => nomatch z)⟩ σ H H E ⟨e, Same.refl _, fun _ _ => rfl, rfl, (fun i D c z => nomatch z)⟩ fun es D vs ρ' cs' σ' H' x hn h1 rs p =>
  q es D vs H' ⟨x.sm, x.env.fd, x.kp⟩ hn h1 rs p
theorem CM.was {σ : St} {H H2 : Hp} {D : Addr} (x : CM w K f Ds H2 ρ cs σ H) (hn : H D = none) : H2 D = none := by
 cases e : H2 D with
 | none => rfl
 | some o =>
  by_cases hh : (f.withs Ds).f = some D \/ D ∈ (f.withs Ds).M
  ·have : ∃ o, H D = some o := hh.elim (fun z => let ⟨a, b, h3, _⟩ := x.env.fd.fd D z; ⟨_, h3⟩) fun z => x.env.fd.mm D z
   obtain ⟨o', h⟩ := this
   rw [hn] at h
   cases h
  ·have := (zO (x.sm D o (zD hh e))).2
   rw [hn] at this
   cases this
theorem ajl {H H1 : Hp} {D : Addr} (fo : FOk f H) (g : Goes f H H1) (hn : H1 D = none) : H D = none := by
 cases e : H D with
 | none => rfl
 | some o =>
  by_cases hh : f.f = some D \/ D ∈ f.M
  ·have : ∃ o, H1 D = some o := hh.elim (fun z => let ⟨a, b, h3, _⟩ := g.ok.fd D z; ⟨_, h3⟩) fun z => g.ok.mm D z
   obtain ⟨o', h⟩ := this
   rw [hn] at h
   cases h
  ·have := (zO (g.sm D o (zD hh e))).2
   rw [hn] at this
   cases this
theorem amP (h : ae7 w K (f.withs Ds) te ρ fun c => i < ρ.length /\ ∀ D, akM w K f (Ds ++ [D]) ts (ρ.set i (some (.own (f.M.length + Ds.length)))) (cs ++ [c]) R) :
  akM w K f Ds (vj (jE te (jy i)) ts) ρ cs R := fun se σ H H2 E x q =>
 h σ H _ x.env fun c D H1 g1 hn ho ⟨hi, p⟩ =>
  p D (se.more x.env.fd hn) _ H1 H1 E (x.more g1 hn ho hi) fun es D' vs ρ' cs' σ' H' y hn' h1 rs pr => q es D' vs _ _ σ' H' (x.less g1 hn y) (x.was (ajl x.env.fd g1 hn')) h1 rs pr
theorem akO (h : ae7 w K (f.withs Ds) te ρ fun c => i < ρ.length /\ ∀ D, akL w K f (Ds ++ [D]) ts (ρ.set i (some (.own (f.M.length + Ds.length)))) (cs ++ [c]) Ds.length R) :
  akM w K f Ds (vj (jE te (jy i)) ts) ρ cs R := fun se σ H H2 E x q =>
 h σ H _ x.env fun c D H1 g1 hn ho ⟨hi, p⟩ =>
  p D (se.more x.env.fd hn) _ H1 H1 E (x.more g1 hn ho hi) fun D' es ρ' cs' σ' H' y h1 h2 pr => by
   have h1' := h1
   rw [aol (anW _), aqj] at h1'
   cases h1'
   obtain ⟨vs, h3, h4⟩ := y.own _ _ _ h1 h2
   refine q es D vs _ _ σ' H' (x.less g1 hn y) (x.was hn) h3 (Reps.mono (fun b o hb => ?_) es vs h4) pr
   obtain ⟨n1, n2⟩ := zO hb
   refine zD (fun z => n1 ?_) n2
   rw [yn]
   rcases z with z | z
   ·exact .inl z
   ·rcases aoa.mp z with z | z
    ·exact .inr (aoa.mpr (.inl z))
    ·exact .inr (anY _ (aon _ z))
theorem aed (h : PEd K f te ρ fun x => ∃ ds, (x = .list ds \/ x = .tuple ds) /\ R ds) : PEdO K f (tCB (ago K) (zW te yP)) ρ R := fun σ H Q e q =>
 h σ H _ e fun x v H1 g1 r1 ⟨ds, hx, p⟩ => by
  have key : ∃ a xs, v = .ref a /\ (SqL K H1 a xs \/ SqT K H1 a xs) /\ Reps K (hide H1 f) ds xs := by
   rcases hx with rfl | rfl
   ·obtain ⟨a, xs, rfl, h1, h2⟩ := rep_list.mp r1
    exact ⟨a, xs, rfl, .inl ((zo _ _).seq h1), h2⟩
   ·obtain ⟨a, xs, rfl, h1, h2⟩ := rep_tuple.mp r1
    exact ⟨a, xs, rfl, .inr ((zo _ _).seqT h1), h2⟩
  obtain ⟨a, xs, rfl, h1, h2⟩ := key
  refine ⟨a, xs, rfl, h1, fun l hn => ?_⟩
  have g2 : Goes f H1 (upd H1 l (.lst xs)) := .of_same (zZ hn _) g1.ok
  refine q ds l xs _ (g1.trans g2) (g1.free e.fd hn) zA (Reps.mono (fun b o hb => ?_) ds xs h2) p
  obtain ⟨n1, n2⟩ := zO hb
  have nl : b ≠ l := fun z => by rw [z, hn] at n2; cases n2
  refine zD (fun z => ?_) (by rw [zI nl]; exact n2)
  rcases z with z | z
  ·exact n1 (.inl z)
  ·rcases aoa.mp z with z | z
   ·exact nl z
   ·exact n1 (.inr z)
theorem akP {γ : Type} {n : Nat} {pre : γ -> List DV -> Prop} {post : γ -> List PyData -> Prop} {E : XK} {t : TA} (h : PAd K f t ρ fun xs => ∃ c, xs.length = n /\ pre c xs /\ ∀ es, post c es -> R es) : PEdO K f (aa2 (spN K n pre post) [] E t) ρ R := fun σ H Q e q =>
 h σ H _ e fun xs vs H1 g1 r1 ⟨c, hl, hp, k⟩ => ⟨f, xs, c, by rw [aoN]; exact r1, hl, g1.2, hp, fun es D us H2 g2 hn h1 rs p => q es D us H2 (g1.trans g2) (g1.free e.fd hn) h1 rs (k es p)⟩
end
theorem perm_map_inv {α β : Type} {F : α -> β} {l : List β} {m : List α} (h : l.Perm (m.map F)) : ∃ m' : List α, m'.Perm m /\ l = m'.map F := by
 generalize e : m.map F = k at h
 induction h generalizing m with
 | nil => exact ⟨m, .refl _, e.symm⟩
 | cons x _ ih =>
  cases m with
  | nil => cases e
  | cons a m =>
   injection e with e1 e2
   obtain ⟨m', p, r⟩ := ih e2
   exact ⟨a :: m', p.cons a, by rw [aor, e1, r]⟩
 | swap x y l =>
  cases m with
  | nil => cases e
  | cons a m =>
   cases m with
   | nil => injection e with _ e; cases e
   | cons b m =>
    injection e with e1 e2
    injection e2 with e2 e3
    exact ⟨b :: a :: m, .swap a b m, by rw [aor, aor, e1, e2, e3]⟩
 | trans _ _ ih1 ih2 =>
  obtain ⟨m', p, r⟩ := ih2 e
  obtain ⟨m'', p', r'⟩ := ih1 r.symm
  exact ⟨m'', p'.trans p, r'⟩
abbrev FD (K : anS) (x : Str) (st : Stmt) (f : Addr) (od an : Option Addr) (sl : Array (Option Value)) (oc kV dc pm cd ct : Value) : Prop := aoD K mainGlobals x = some (some (.ref f)) /\ K.lookup f = some ⟨oc, od, .func (ap0 x x (qf st) (yS st) (zr st) .none kV dc pm an cd ct), sl⟩ /\ arq K cd x = true /\ ao3 K (.ref f) = true
theorem yu {K : anS} {h : Heap} {mg : Str -> Option Value} {x : Str} {st : Stmt} {f : Addr} {od an : Option Addr} {sl : Array (Option Value)} {oc kV dc pm cd ct : Value} (X : K.In h) (G : h.Ns mainGlobals mg) (a : FD K x st f od an sl oc kV dc pm cd ct) {ps : List Str}
  (hb : ∀ (kV doc pm : Value) (an : Option Addr) (cdv ct : Value) (us : List Value), us.length = ps.length -> bindArgs (ap0 x x (qf st) (yS st) (zr st) .none kV doc pm an cdv ct) ⟨us, []⟩ = pure (ps.zip us)) : Def K mg x st ps :=
 ⟨f, _, aeT a.2.1 a.2.2.1 a.2.2.2, (aeT (st := st) a.2.1 a.2.2.1 a.2.2.2).binds hb, apH X G a.1⟩
def agp : V -> List V -> Hp -> VK -> Prop := fun x vs H Q => ∃ l xs y k, x = .ref l /\ vs = [.int (k : Nat), y] /\ H l = some (.lst xs) /\ k <= xs.length /\ xs.length < 1000 /\ Q .non (upd H l (.lst (xs.take k ++ y :: xs.drop k)))
theorem ack {X : Cx} : MtM X "list.insert" agp := by
 intro pins s σ H x vs v us Q I rx rv h
 obtain ⟨l, xs, y, k, rfl, rfl, hH, hk, hl, q⟩ := h
 cases rx
 obtain ⟨u, v, rfl, ru, rw'⟩ := rv.two
 obtain ⟨t, rfl⟩ := ru
 obtain ⟨z, its, n, r, hl', e⟩ := I.lstM hH
 have sm := yg (apj hl)
 have fz : its.toArray.size <= sizeLine := by
  rw [aod, <- r.length]
  omega
 clear rv
 generalize hki : ((k : Nat) : Int) = i
 have fit : ¬ (!Builtin.List.listFitsIndex i) = true := by
  rw [fitsIndex_both (by omega) (by omega)]
  exact anR
 have M := @AutoListH.list_insert_list_int_val_1 l its.toArray n i t v fit fz
 refine call_meets F.slot_list_insert ⟨_, e, rfl⟩ F.entry_list_insert (F.args_list_insert_3 _ _ _) M ⟨e, ?_⟩
 refine ⟨.non, _, I.lset (its' := its.take k ++ v :: its.drop k) hH e ?_ (Vals.append (r.take k) (.cons rw' (r.drop k))) ?_, rfl, q⟩
 ·have e1 : (if i < 0 then (i + ((its.toArray.size : Nat) : Int)).toNat else min i.toNat its.toArray.size) = k := by
   rw [if_neg (by omega), <- hki, apm, aod, <- r.length]
   omega
  show ((its.toArray.extract 0 (if i < 0 then (i + ((its.toArray.size : Nat) : Int)).toNat else min i.toNat its.toArray.size)).push v ++ its.toArray.extract (if i < 0 then (i + ((its.toArray.size : Nat) : Int)).toNat else min i.toNat its.toArray.size)) = _
  rw [e1]
  simp [apF]
 ·simp
  omega
def PAm (w : World) (K : anS) (f : Fx) (Ds : List Addr) (t : TA) (ρ : zy) (cs : List OC) (R : List DV -> Prop) : Prop := Sep f Ds -> ∀ (σ : St) (H H2 : Hp) (Q : List V -> Hp -> Prop), CM w K f Ds H2 ρ cs σ H -> (∀ xs vs H', Goes (f.withs Ds) H H' -> RepVs K (f.withs Ds) H' xs vs -> R xs -> Q vs H') -> t σ H Q
section
variable {w : World} {K : anS} {f : Fx} {Ds : List Addr} {ρ : zy} {cs : List OC} {te tk : TE} {t : TA} {O : MEnds} {i j : Nat} {R : List DV -> Prop} {P : PyData -> Prop} {es : List PyData}
theorem afl (h : R []) : PAm w K f Ds yP ρ cs R := fun se σ H H2 Q x q => q [] [] H (.refl x.env.fd) .nil h
theorem aaO (h : PEm w K f Ds te ρ cs fun d => PAm w K f Ds t ρ cs fun xs => R (.dat d :: xs)) : PAm w K f Ds (zW te t) ρ cs R := fun se σ H H2 Q x q =>
 h se σ H H2 _ x fun d v H1 g1 r1 p1 => p1 se σ H1 H2 _ (x.go g1 (x.env.mono g1)) fun xs vs H3 g3 r3 p3 => q (.dat d :: xs) (v :: vs) H3 (g1.trans g3) (.cons (RepV.mono (x := .dat d) g3 r1) r3) p3
theorem agq (hi : ρ[i]? = some (some .feed)) (h : PAm w K f Ds t ρ cs fun xs => R (.feed :: xs)) : PAm w K f Ds (zW (yb i) t) ρ cs R := fun se σ H H2 Q x q => by
 obtain ⟨v, h1, h2⟩ := x.env.get i _ hi
 exact ⟨v, h1, h se σ H H2 _ x fun xs vs H3 g3 r3 p3 => q (.feed :: xs) (v :: vs) H3 g3 (.cons (RepV.mono (x := .feed) g3 h2) r3) p3⟩
theorem agr {γ : Type} {n : Nat} {pre : γ -> List DV -> Prop} {post : γ -> PyData -> Prop} {E : XK} (h : PAm w K f Ds t ρ cs fun xs => ∃ c, xs.length = n /\ pre c xs /\ ∀ r, post c r -> P r) : PEm w K f Ds (aa2 (spD K n pre post) [] E t) ρ cs P := fun se σ H H2 Q x q =>
 h se σ H H2 _ x fun xs vs H1 g1 r1 ⟨c, hl, hp, k⟩ => ⟨f.withs Ds, xs, c, by rw [aoN]; exact r1, hl, g1.2, hp, fun r v H' g' r' p' => q r v H' (g1.trans g') r' (k r p')⟩
theorem acm (hi : ρ[i]? = some (some (.own (f.M.length + j)))) (hc : cs[j]? = some (.lst es)) (h : PEm w K f Ds tk ρ cs fun y => ∃ k, y = .int k /\ ∃ d, atI es k = some d /\ P d) : PEm w K f Ds (tOp (aeQ K) (yb i) tk) ρ cs P := fun se σ H H2 Q x q => by
 have hj : j < Ds.length := by rw [<- x.len]; exact (anT.mp hc).1
 have hD : Ds[j]? = some Ds[j] := anP hj
 refine ⟨_, yz hi x hD, ?_⟩
 refine h se σ H H2 _ x fun y v H1 g1 r1 ⟨k, ey, d, hd, p⟩ => ?_
 subst ey
 have x1 := x.go g1 (x.env.mono g1)
 obtain ⟨vs, h1, h2⟩ := x1.own j _ _ hD hc
 have : ∃ u, atI vs k = some u /\ Rep K (hide H1 (f.withs Ds)) d u := by
  unfold atI at hd ⊢
  rw [h2.length]
  cases e : ixN es.length k with
  | none => rw [e] at hd; cases hd
  | some m =>
   rw [e] at hd
   exact h2.get hd
 obtain ⟨u, hu, ru⟩ := this
 exact ⟨Ds[j], vs, k, u, rfl, rep_int.mp r1, .inl (.inl h1), hu, q d u H1 g1 ru p⟩
theorem aee (hi : ρ[i]? = some (some (.own (f.M.length + j)))) (hc : cs[j]? = some (.lst es)) (hl : es.length < 1000) (h : PEm w K f Ds tk ρ cs fun y => ∃ k : Nat, y = .int k /\ k <= es.length /\ PEm w K f Ds te ρ cs fun d => O.nx ρ (cs.set j (.lst (es.take k ++ d :: es.drop k)))) :
  PSm w K f Ds (aaV (tBM K "list" agp (yb i) (zW tk (zW te yP)))) ρ cs O := fun se σ H H2 E x n r b k => by
 have hj : j < Ds.length := by rw [<- x.len]; exact (anT.mp hc).1
 have hD : Ds[j]? = some Ds[j] := anP hj
 obtain ⟨vs0, h0, _⟩ := x.own j _ _ hD hc
 refine ⟨_, yz hi x hD, Or.inl ⟨rfl, vs0, .of h0⟩, ?_⟩
 refine h se σ H H2 _ x fun y u H1 g1 r1 ⟨k, ey, hk, p1⟩ => ?_
 subst ey
 rw [rep_int.mp r1]
 have x1 := x.go g1 (x.env.mono g1)
 refine p1 se σ H1 H2 _ x1 fun d v H3 g3 r3 p3 => ?_
 have x3 := x1.go g3 (x1.env.mono g3)
 obtain ⟨vs, h1, h2⟩ := x3.own j _ _ hD hc
 have l2 := h2.length
 refine ⟨_, vs, v, k, rfl, rfl, h1, by omega, by omega, n _ _ _ _ (x3.put se hD (o := .lst (vs.take k ++ v :: vs.drop k)) (c' := .lst (es.take k ++ d :: es.drop k)) ⟨_, zA, Reps.append (h2.take k) (.cons' r3 (h2.drop k))⟩) p3⟩
theorem amQ (h : PAm w K f Ds t ρ cs fun xs => ∃ ds, jV xs = some ds /\ ds.length <= 1000 /\ P (.tuple ds)) : PEm w K f Ds (al7 t) ρ cs P := fun se σ H H2 Q x q =>
 h se σ H H2 _ x fun xs vs H1 g1 r1 ⟨ds, ea, hl, p⟩ => by
  have rs := qh r1 ea
  refine ⟨by rw [rs.length]; exact apj (yg hl), fun l hn => ?_⟩
  have g2 : Goes (f.withs Ds) H1 (upd H1 l (.tup vs)) := .of_same (zZ hn _) g1.2
  exact q (.tuple ds) _ _ (g1.trans g2) (rep_tuple.mpr ⟨l, vs, rfl, .of (zD (fresh_ne g1.2 hn) zA), Reps.mono g2.1 ds vs rs⟩) p
theorem amR {tk2 : TE} (hi : ρ[i]? = some (some (.own (f.M.length + j)))) (hc : cs[j]? = some (.lst es)) (h : PEm w K f Ds te ρ cs fun d => ∃ d1 d2, d = .tuple [d1, d2] /\ PEd K (f.withs Ds) tk ρ fun y1 => ∃ k1 q1, y1 = .int k1 /\ ixN es.length k1 = some q1 /\ PEd K (f.withs Ds) tk2 ρ fun y2 => ∃ k2 q2, y2 = .int k2 /\ ixN es.length k2 = some q2 /\ O.nx ρ (cs.set j (.lst ((es.set q1 d1).set q2 d2)))) :
  PSm w K f Ds (jE te (aj4 K 2 (afI (aaW (yb i) tk vd) (afI (aaW (yb i) tk2 vd) alZ)))) ρ cs O := fun se σ H H2 E x n r b k => by
 have hj : j < Ds.length := by rw [<- x.len]; exact (anT.mp hc).1
 have hD : Ds[j]? = some Ds[j] := anP hj
 refine h se σ H H2 _ x fun d v H1 g1 r1 ⟨d1, d2, ed, p1⟩ => ?_
 subst ed
 have x1 := x.go g1 (x.env.mono g1)
 obtain ⟨a, xs, rfl, h1, h2⟩ := rep_tuple.mp r1
 obtain ⟨v1, r', rfl, ra, rb⟩ := reps_cons.mp h2
 obtain ⟨v2, r'', rfl, rc, rd⟩ := reps_cons.mp rb
 rw [reps_nil.mp rd] at h1
 refine ⟨a, [v1, v2], rfl, (zo _ _).seqT h1, rfl, v1, [v2], rfl, _, yz hi x1 hD, ?_⟩
 refine p1 σ H1 _ x1.env fun y u H3 g3 r3 ⟨k1, q1, ey, hq1, p3⟩ => ?_
 subst ey
 have x3 := x1.go g3 (x1.env.mono g3)
 obtain ⟨vs, a1, a2⟩ := x3.own j _ _ hD hc
 have x4 := x3.put se hD (o := .lst (vs.set q1 v1)) (c' := .lst (es.set q1 d1)) ⟨vs.set q1 v1, zA, Reps.set a2 q1 (Rep.mono g3.1 d1 v1 ra)⟩
 refine ⟨Ds[j], vs, k1, q1, rfl, rep_int.mp r3, a1, by rw [a2.length]; exact hq1, v2, [], rfl, _, yz hi x4 hD, ?_⟩
 refine p3 σ _ _ x4.env fun y u H5 g5 r5 ⟨k2, q2, ey, hq2, p5⟩ => ?_
 subst ey
 have x5 := x4.go g5 (x4.env.mono g5)
 have hc5 : (cs.set j (.lst (es.set q1 d1)))[j]? = some (.lst (es.set q1 d1)) := apk (anT.mp hc).1
 obtain ⟨ws, b1, b2⟩ := x5.own j _ _ hD hc5
 have hm := aof hD
 have r2' : Rep K (hide H5 (f.withs Ds)) d2 v2 := Rep.mono g5.1 d2 v2 (by rw [yi hm]; exact Rep.mono g3.1 d2 v2 rc)
 have x6 := x5.put se hD (o := .lst (ws.set q2 v2)) (c' := .lst ((es.set q1 d1).set q2 d2)) ⟨ws.set q2 v2, zA, Reps.set b2 q2 r2'⟩
 rw [List.set_set] at x6
 refine ⟨Ds[j], ws, k2, q2, rfl, rep_int.mp r5, b1, by rw [b2.length, apf]; exact hq2, rfl, n _ _ _ _ x6 p5⟩
end
end L2
namespace L2
open PySem PySem.Spec PyProof.Rows
section
variable {w : World} {K : anS} {f : Fx} {Ds : List Addr} {ρ : zy} {cs : List OC} {O : MEnds} {i : Nat}
theorem j7 {tt : TT} {ts tu : TS} (p : Prop) [Decidable p] (h : PTm w K f Ds tt ρ cs fun b => b = decide p) (h1 : p -> PSm w K f Ds ts ρ cs O) (h2 : ¬ p -> PSm w K f Ds tu ρ cs O) : PSm w K f Ds (agW tt ts tu) ρ cs O := ahv fun se σ H H2 Q x q => h se σ H H2 Q x fun b H' g z => q b H' g (by
 subst z
 by_cases hp : p
 ·rw [decide_eq_true hp, if_pos rfl]; exact h1 hp
 ·rw [decide_eq_false hp, if_neg anR]; exact h2 hp)
theorem yZ {v k : Int} (hi : ρ[i]? = some (some (.dat (.int v)))) : PTd K f (afL (tOp (ag6 K false) (yb i) (tC (.int k)))) ρ fun b => b = decide (v = k) :=
 yw (yV (zw hi (jB ⟨rfl, rfl, by show min 0 0 <= 60; decide, _, rfl, rfl⟩)))
end
end L2
namespace L2
open PySem PySem.Spec PyProof.Rows
theorem akQ {K : anS} {f : Fx} {ρ : zy} {P : PyData -> Prop} {te : TE} {n : String} {b : Bool} (hk : apl K (.type "NoneType") (.type n) = some b) (h : PEd K f te ρ fun d => d = .none /\ P (.bool b)) : PEd K f (tCB (aiB K) (zW te (zW (tC (.ty n)) yP))) ρ P := fun σ H Q e q => h σ H _ e fun d v H1 g r ⟨ed, p⟩ => by
 subst ed
 rw [rep_none.mp r]
 exact ⟨_, n, b, rfl, .inr (.inr ⟨_, .non, hk⟩), q _ _ H1 g (rep_bool.mpr rfl) p⟩
end L2
end
section
namespace My
open PySem PySem.Spec PyProof.Rows L2
def top (i : Nat) : Stmt := PySem.Challenge.pw_heightrings_k15_looker_tells_the_first.main.body.getD i (.Pass ⟨0, 0, 0, 0⟩)
abbrev ada : Stmt := top 1
abbrev amS : List Str := ["rows"]
theorem akR : FnScope amS ["rows"] (zr ada) := ⟨rfl, rfl, rfl, by decide +kernel, rfl, by decide +kernel, by decide +kernel⟩
abbrev vP : Stmt := top 2
abbrev ajm : List Str := ["rows", "wide", "tall"]
theorem sc_points : FnScope ajm ["rows"] (zr vP) := ⟨rfl, rfl, rfl, by decide +kernel, rfl, by decide +kernel, by decide +kernel⟩
abbrev jJ : Stmt := top 3
abbrev aef : List Str := ["rows", "x", "y", "wide", "tall"]
theorem sc_has_point : FnScope aef ["rows", "x", "y"] (zr jJ) := ⟨rfl, rfl, rfl, by decide +kernel, rfl, by decide +kernel, by decide +kernel⟩
abbrev qj : Stmt := top 4
abbrev afm : List Str := ["rows", "x", "y"]
theorem aeg : FnScope afm ["rows", "x", "y"] (zr qj) := ⟨rfl, rfl, rfl, by decide +kernel, rfl, by decide +kernel, by decide +kernel⟩
abbrev qR : Stmt := top 5
abbrev ahI : List Str := ["x", "y"]
theorem afn : FnScope ahI ["x", "y"] (zr qR) := ⟨rfl, rfl, rfl, by decide +kernel, rfl, by decide +kernel, by decide +kernel⟩
abbrev jK : Stmt := top 14
abbrev aeh : List Str := ["rows", "at", "row"]
theorem sc_ask_table : FnScope aeh ["rows"] (zr jK) := ⟨rfl, rfl, rfl, by decide +kernel, rfl, by decide +kernel, by decide +kernel⟩
abbrev adb : Stmt := top 15
abbrev amT : List Str := ["things"]
theorem akS : FnScope amT ["things"] (zr adb) := ⟨rfl, rfl, rfl, by decide +kernel, rfl, by decide +kernel, by decide +kernel⟩
abbrev vQ : Stmt := top 16
abbrev ajn : List Str := ["row"]
theorem ahJ : FnScope ajn ["row"] (zr vQ) := ⟨rfl, rfl, rfl, by decide +kernel, rfl, by decide +kernel, by decide +kernel⟩
abbrev aaP : Stmt := top 20
abbrev akT : List Str := ["rows", "cut", "sides"]
theorem sc_gates : FnScope akT ["rows", "cut"] (zr aaP) := ⟨rfl, rfl, rfl, by decide +kernel, rfl, by decide +kernel, by decide +kernel⟩
abbrev jc : Stmt := top 21
abbrev abO : List Str := ["rows", "cut", "point", "x", "y"]
theorem sc_stands_high : FnScope abO ["rows", "cut", "point"] (zr jc) := ⟨rfl, rfl, rfl, by decide +kernel, rfl, by decide +kernel, by decide +kernel⟩
abbrev je : Stmt := top 22
abbrev abP : List Str := ["gate", "x", "y", "way"]
theorem sc_gate_points : FnScope abP ["gate"] (zr je) := ⟨rfl, rfl, rfl, by decide +kernel, rfl, by decide +kernel, by decide +kernel⟩
abbrev qk : Stmt := top 23
abbrev afo : List Str := ["rows", "gate"]
theorem aei : FnScope afo ["rows", "gate"] (zr qk) := ⟨rfl, rfl, rfl, by decide +kernel, rfl, by decide +kernel, by decide +kernel⟩
abbrev qS : Stmt := top 24
abbrev ahK : List Str := ["rows", "cut", "gate", "first", "second"]
theorem sc_is_open : FnScope ahK ["rows", "cut", "gate"] (zr qS) := ⟨rfl, rfl, rfl, by decide +kernel, rfl, by decide +kernel, by decide +kernel⟩
abbrev jq : Stmt := top 25
abbrev ade : List Str := ["cell", "x", "y"]
theorem sc_cell_gates : FnScope ade ["cell"] (zr jq) := ⟨rfl, rfl, rfl, by decide +kernel, rfl, by decide +kernel, by decide +kernel⟩
abbrev jr : Stmt := top 26
abbrev adf : List Str := ["rows", "cut", "cell"]
theorem abQ : FnScope adf ["rows", "cut", "cell"] (zr jr) := ⟨rfl, rfl, rfl, by decide +kernel, rfl, by decide +kernel, by decide +kernel⟩
abbrev yE : Stmt := top 27
abbrev vR : List Str := ["rows", "cut", "cell", "x", "y"]
theorem sc_has_high_middle : FnScope vR ["rows", "cut", "cell"] (zr yE) := ⟨rfl, rfl, rfl, by decide +kernel, rfl, by decide +kernel, by decide +kernel⟩
abbrev jL : Stmt := top 28
abbrev aej : List Str := ["rows", "cut", "cell", "through"]
theorem sc_cell_ties : FnScope aej ["rows", "cut", "cell"] (zr jL) := ⟨rfl, rfl, rfl, by decide +kernel, rfl, by decide +kernel, by decide +kernel⟩
abbrev yU : Stmt := top 29
abbrev abp : List Str := ["rows", "cut", "cell", "above", "left", "below", "right"]
theorem sc_crossed_ties : FnScope abp ["rows", "cut", "cell"] (zr yU) := ⟨rfl, rfl, rfl, by decide +kernel, rfl, by decide +kernel, by decide +kernel⟩
abbrev qT : Stmt := top 30
abbrev ahL : List Str := ["rows", "cut", "gate", "x", "y", "way", "near_is_high"]
theorem sc_heading : FnScope ahL ["rows", "cut", "gate"] (zr qT) := ⟨rfl, rfl, rfl, by decide +kernel, rfl, by decide +kernel, by decide +kernel⟩
abbrev jt : Stmt := top 31
abbrev adg : List Str := ["rows", "cut", "gate", "across", "down"]
theorem sc_cell_ahead : FnScope adg ["rows", "cut", "gate"] (zr jt) := ⟨rfl, rfl, rfl, by decide +kernel, rfl, by decide +kernel, by decide +kernel⟩
abbrev ql : Stmt := top 32
abbrev afp : List Str := ["rows", "cut", "gate", "across", "down"]
theorem sc_comes_in : FnScope afp ["rows", "cut", "gate"] (zr ql) := ⟨rfl, rfl, rfl, by decide +kernel, rfl, by decide +kernel, by decide +kernel⟩
abbrev ju : Stmt := top 33
abbrev adh : List Str := ["rows", "cut", "gate", "x", "y", "partners", "one", "other"]
theorem sc_gate_ahead : FnScope adh ["rows", "cut", "gate"] (zr ju) := ⟨rfl, rfl, rfl, by decide +kernel, rfl, by decide +kernel, by decide +kernel⟩
abbrev jf : Stmt := top 35
abbrev abR : List Str := ["rows", "cut", "some", "seen", "at", "line", "gate"]
theorem sc_first_wrong : FnScope abR ["rows", "cut", "some"] (zr jf) := ⟨rfl, rfl, rfl, by decide +kernel, rfl, by decide +kernel, by decide +kernel⟩
abbrev jg : Stmt := top 36
abbrev abS : List Str := ["line", "seen"]
theorem abq : FnScope abS ["line", "seen"] (zr jg) := ⟨rfl, rfl, rfl, by decide +kernel, rfl, by decide +kernel, by decide +kernel⟩
abbrev qU : Stmt := top 37
abbrev ahM : List Str := ["rows", "cut", "line", "word", "path"]
theorem sc_is_line : FnScope ahM ["rows", "cut", "line"] (zr qU) := ⟨rfl, rfl, rfl, by decide +kernel, rfl, by decide +kernel, by decide +kernel⟩
abbrev qm : Stmt := top 38
abbrev afq : List Str := ["rows", "cut", "path", "gate"]
theorem sc_all_open : FnScope afq ["rows", "cut", "path"] (zr qm) := ⟨rfl, rfl, rfl, by decide +kernel, rfl, by decide +kernel, by decide +kernel⟩
abbrev qV : Stmt := top 39
abbrev ahN : List Str := ["rows", "cut", "path"]
theorem afr : FnScope ahN ["rows", "cut", "path"] (zr qV) := ⟨rfl, rfl, rfl, by decide +kernel, rfl, by decide +kernel, by decide +kernel⟩
abbrev jM : Stmt := top 40
abbrev aek : List Str := ["rows", "cut", "path"]
theorem adi : FnScope aek ["rows", "cut", "path"] (zr jM) := ⟨rfl, rfl, rfl, by decide +kernel, rfl, by decide +kernel, by decide +kernel⟩
abbrev ye : Stmt := top 41
abbrev qo : List Str := ["rows", "cut", "path"]
theorem j8 : FnScope qo ["rows", "cut", "path"] (zr ye) := ⟨rfl, rfl, rfl, by decide +kernel, rfl, by decide +kernel, by decide +kernel⟩
abbrev aaQ : Stmt := top 43
abbrev akU : List Str := ["rows", "cut", "through", "starts", "told", "passed", "start", "line", "gate"]
theorem sc_lines : FnScope akU ["rows", "cut"] (zr aaQ) := ⟨rfl, rfl, rfl, by decide +kernel, rfl, by decide +kernel, by decide +kernel⟩
abbrev jN : Stmt := top 44
abbrev ael : List Str := ["rows", "cut", "start", "path", "gate"]
theorem sc_line_from : FnScope ael ["rows", "cut", "start"] (zr jN) := ⟨rfl, rfl, rfl, by decide +kernel, rfl, by decide +kernel, by decide +kernel⟩
abbrev qq : Stmt := top 46
abbrev vw : List Str := ["_law_script", "_law_k", "_law_cell"]
theorem sc_law_feed : FnScope vw ["_law_script", "_law_k"] (zr qq) := ⟨rfl, rfl, rfl, by decide +kernel, rfl, by decide +kernel, by decide +kernel⟩
abbrev qr : Stmt := top 47
abbrev afs : List Str := ["_law_feed_here", "_law_many", "_law_found"]
theorem sc_law_draw : FnScope afs ["_law_feed_here", "_law_many"] (zr qr) := ⟨rfl, rfl, rfl, by decide +kernel, rfl, by decide +kernel, by decide +kernel⟩
abbrev jv : Stmt := top 48
abbrev adj : List Str := ["_law_feed_here", "_law_far", "_law_base"]
theorem abT : FnScope adj ["_law_feed_here", "_law_far", "_law_base"] (zr jv) := ⟨rfl, rfl, rfl, by decide +kernel, rfl, by decide +kernel, by decide +kernel⟩
abbrev jO : Stmt := top 49
abbrev aem : List Str := ["_law_feed_here", "_law_wide", "_law_high", "_law_far", "_law_base"]
theorem sc_law_table : FnScope aem ["_law_feed_here"] (zr jO) := ⟨rfl, rfl, rfl, by decide +kernel, rfl, by decide +kernel, by decide +kernel⟩
abbrev qW : Stmt := top 50
abbrev ahO : List Str := ["_law_feed_here", "_law_rows", "_law_row"]
theorem sc_law_cut : FnScope ahO ["_law_feed_here", "_law_rows"] (zr qW) := ⟨rfl, rfl, rfl, by decide +kernel, rfl, by decide +kernel, by decide +kernel⟩
abbrev jP : Stmt := top 51
abbrev aen : List Str := ["_law_feed_here", "_law_some", "_law_left", "_law_found"]
theorem sc_law_dealt : FnScope aen ["_law_feed_here", "_law_some"] (zr jP) := ⟨rfl, rfl, rfl, by decide +kernel, rfl, by decide +kernel, by decide +kernel⟩
abbrev jQ : Stmt := top 52
abbrev aeo : List Str := ["_law_feed_here", "_law_gate", "_law_x", "_law_y", "_law_way", "_law_some"]
theorem sc_law_other : FnScope aeo ["_law_feed_here", "_law_gate"] (zr jQ) := ⟨rfl, rfl, rfl, by decide +kernel, rfl, by decide +kernel, by decide +kernel⟩
abbrev jh : Stmt := top 53
abbrev abU : List Str := ["_law_feed_here", "_law_line", "_law_word", "_law_path", "_law_some", "_law_at", "_law_way"]
theorem sc_law_spoiled : FnScope abU ["_law_feed_here", "_law_line"] (zr jh) := ⟨rfl, rfl, rfl, by decide +kernel, rfl, by decide +kernel, by decide +kernel⟩
abbrev qX : Stmt := top 54
abbrev ahP : List Str := ["_law_told", "_law_some", "_law_many", "_law_seen", "_law_at", "_law_gate"]
theorem sc_law_due : FnScope ahP ["_law_told", "_law_some", "_law_many"] (zr qX) := ⟨rfl, rfl, rfl, by decide +kernel, rfl, by decide +kernel, by decide +kernel⟩
abbrev aay : Stmt := top 55
abbrev ags : List Str := ["_law_script", "_law_k", "_law_feed_here", "_law_rows", "_law_cut_here", "_law_told", "_law_many", "_law_some", "_law_j", "_law_at", "_law_handed", "_law_found"]
theorem sc_law : FnScope ags ["_law_script"] (zr aay) := ⟨rfl, rfl, rfl, by decide +kernel, rfl, by decide +kernel, by decide +kernel⟩
def tab (rows : List (List Int)) : PyData := .list (rows.map fun r => .list (r.map .int))
structure Good (w : Nat) (rows : List (List Int)) : Prop where
 h1 : 2 <= rows.length
 h2 : rows.length <= 7
 w1 : 2 <= w
 w2 : w <= 7
 row : ∀ r ∈ rows, r.length = w
 hgt : ∀ r ∈ rows, ∀ n ∈ r, -1000000000 <= n /\ n <= 1000000000
theorem Good.ne {w : Nat} {rows : List (List Int)} (g : Good w rows) : ∃ r rs, rows = r :: rs := by
 cases rows with
 | nil => have := g.h1; simp at this
 | cons r rs => exact ⟨r, rs, rfl⟩
theorem yq {α β : Type} {F : α -> β} {xs : List α} {k : Int} {j : Nat} (hk : (j : Int) = k) (h : j < xs.length) : atI (xs.map F) k = some (F xs[j]) := by
 subst hk
 exact aaH (by rw [aob, anP h]; rfl)
local macro_rules | `(tactic| walk_at "dl") => `(tactic| first
 | (with_reducible show PSd _ _ (jE _ (aaW (yb _) (tC (V.int 0)) vd)) _ _; refine afY rfl ?_)
 | (with_reducible show PSd _ _ (jE _ (aaW (yb _) (tC (V.int 1)) vd)) _ _; refine afZ rfl ?_)
 | with_reducible refine z9 ?_ | with_reducible refine aeW ?_ | with_reducible refine ym ?_ | with_reducible refine ya ?_ | with_reducible refine aa9 ?_ | with_reducible refine yX ?_
 | with_reducible refine zv ?_ | with_reducible refine yY rfl ?_ | with_reducible refine zF ?_ | with_reducible refine yt ?_
 | with_reducible refine yw ?_ | with_reducible refine t_b ?_ | with_reducible refine air ?_ | with_reducible refine aeV ?_ | with_reducible refine vB ?_ | with_reducible refine yW ?_
 | with_reducible refine afX ?_ | with_reducible refine adL ?_ | with_reducible refine adK ?_ | with_reducible refine aiq ?_ | with_reducible refine yV ?_
 | with_reducible refine ais ?_ | with_reducible refine v3 ?_ | with_reducible refine d_orV ?_ | with_reducible refine ait ?_
 | with_reducible refine jB ?_ | with_reducible refine adJ ?_ | with_reducible refine afV ?_ | with_reducible refine afW ?_
 | (with_reducible show PEd _ _ (yb _) _ _; refine zw rfl ?_)
 | (with_reducible show PEd _ _ (tOp (aeQ _) (yb _) _) _ _; refine alx rfl ?_)
 | with_reducible refine aa8 ?_ | with_reducible refine qt ?_
 | (with_reducible show PAd _ _ (zW (yb _) _) _ _; refine qB rfl ?_)
 | with_reducible refine zS ?_ | with_reducible refine yB ?_
 | with_reducible refine aaq ?_ | with_reducible refine aap ?_ | with_reducible refine qC ?_ | with_reducible refine aiu ?_ | with_reducible refine aiv ?_ | with_reducible refine aiw ?_ | with_reducible refine aix ?_
 | (with_reducible show (∃ _, _) \/ (∃ _, _); refine Or.inl ⟨_, rfl, ?_⟩) | refine ⟨_, rfl, ?_⟩ | refine ⟨_, _, rfl, ?_⟩
 | (with_reducible show (_ = _ /\ ∀ _, _) \/ _; first | refine Or.inl ⟨rfl, fun a ha => ?_⟩ | refine Or.inr ⟨rfl, fun b hb hb' => ?_⟩)
 | refine ⟨rfl, ?_⟩
 | (refine And.intro ?side ?_; (case side => first | omega | exact Int.ediv_nonneg (by omega) (by omega) | exact ara _ (by omega) | exact apK _ (by omega) | decide | exact ⟨by decide, by decide, by decide⟩ | exact ⟨by omega, by omega⟩ | exact Or.inl ⟨by omega, by omega⟩ | exact Or.inr ⟨by omega, by omega⟩ | (refine aou (aqg (by rfl)) (show _ <= 1000 by decide)) | ((repeat' apply And.intro) <;> first | rfl | omega | decide | assumption) | (simp [asu]))))
section
variable {P : Program} {w : World} {K : anS} {mg : Str -> Option Value} {base : Heap} {k : Nat}
theorem akV (F : Def K mg "size" ada ["rows"]) (m_len : mg "len" = none) : FnIn P w K mg base (k + 1) "size" ["rows"] (spD K 1 (fun (c : List (List Int) × Nat) xs => xs = [.dat (tab c.1)] /\ Good c.2 c.1) fun c r => r = .tuple [.int c.2, .int c.1.length]) := by
 refine F.ok akR rfl fun fa cdv A outer s H E hr => ⟨_, (zp (zB (zR (zc (zC (zT (K := K) rfl) rfl m_len aoy (zc (zV (zH (K := K) rfl) (pv 0) zj (fun _ _ => rfl)) zh)) (zc (zC (zT (K := K) rfl) rfl m_len aoy (zc (pv 0) zh)) zh))))), ?_⟩
 rintro f xs ⟨rows, wd⟩ hl ⟨rfl, g⟩
 try dsimp only [yf, zq]
 obtain ⟨r, rs, rfl⟩ := g.ne
 repeat walk_at "dl"
 refine ⟨_, yq (j := 0) rfl (by simp), ?_⟩
 repeat walk_at "dl"
 have hw := g.row r an0
 show PyData.tuple [.int _, .int _] = _
 rw [anQ, anQ]
 show PyData.tuple [.int (r.length : Nat), _] = _
 rw [hw]
theorem akW (F : Def K mg "fits" adb ["things"]) (m_len : mg "len" = none) (m_FEWEST : ∃ t, mg "FEWEST" = some (.int 2 t)) (m_MOST : ∃ t, mg "MOST" = some (.int 7 t)) :
  FnIn P w K mg base (k + 1) "fits" ["things"] (spD K 1 (fun (c : List PyData) xs => xs = [.dat (.list c)]) fun c r => r = .bool (decide (2 <= c.length /\ c.length <= 7))) := by
 obtain ⟨_, m_FEWEST⟩ := m_FEWEST
 obtain ⟨_, m_MOST⟩ := m_MOST
 refine F.ok akS rfl fun fa cdv A outer s H E hr => ⟨_, (zp (zB (aaZ abY abY (vD rfl m_FEWEST) (zC (zT (K := K) rfl) rfl m_len aoy (zc (pv 0) zh)) (vD rfl m_MOST)))), ?_⟩
 rintro f xs ds hl rfl
 try dsimp only [yf, zq]
 repeat walk_at "dl"
 by_cases h : 2 <= ds.length
 ·rw [if_pos (by simp; omega)]
  repeat walk_at "dl"
  show PyData.bool _ = _
  congr 1
  by_cases h7 : ds.length <= 7 <;> simp [h, h7] <;> omega
 ·rw [if_neg (by simp; omega)]
  show PyData.bool _ = _
  congr 1
  simp [h]
theorem ahQ (F : Def K mg "is_row" vQ ["row"]) (m_min : mg "min" = none) (m_max : mg "max" = none) (m_LEAST : ∃ t, mg "LEAST" = some (.int (-1000000000) t)) (m_GREATEST : ∃ t, mg "GREATEST" = some (.int 1000000000 t))
  (G_fits : FnIn P w K mg base k "fits" ["things"] (spD K 1 (fun (c : List PyData) xs => xs = [.dat (.list c)]) fun c r => r = .bool (decide (2 <= c.length /\ c.length <= 7)))) :
  FnIn P w K mg base (k + 1) "is_row" ["row"] (spD K 1 (fun (c : List Int) xs => xs = [.dat (.list (c.map .int))]) fun c r => r = .bool (decide (2 <= c.length /\ c.length <= 7 /\ ∀ n ∈ c, -1000000000 <= n /\ n <= 1000000000))) := by
 obtain ⟨_, m_LEAST⟩ := m_LEAST
 obtain ⟨_, m_GREATEST⟩ := m_GREATEST
 refine F.ok ahJ rfl fun fa cdv A outer s H E hr => ⟨_, (zp (zB (vi (zm G_fits hr rfl (zc (pv 0) zh)) (vi (yR abY (vD rfl m_LEAST) (zC (ahd (K := K) rfl rfl) rfl m_min boot_min (zc (pv 0) zh)) (zN _)) (vV (yR abY (zC (ahe (K := K) rfl rfl) rfl m_max boot_max (zc (pv 0) zh)) (vD rfl m_GREATEST) (zN _))))))), ?_⟩
 rintro f xs c hl rfl
 try dsimp only [yf, zq]
 repeat walk_at "dl"
 refine zx (c.map .int) ?_
 repeat walk_at "dl"
 rintro r rfl
 rw [anQ]
 repeat walk_at "dl"
 by_cases h : 2 <= c.length /\ c.length <= 7
 ·have hne : c ≠ [] := by rintro rfl; simp at h
  rw [if_pos (by simpa using h)]
  repeat walk_at "dl"
  intro M hM hM'
  repeat walk_at "dl"
  by_cases h2 : -1000000000 <= M
  ·rw [if_pos (by simpa using h2)]
   repeat walk_at "dl"
   intro M' hN hN'
   repeat walk_at "dl"
   show PyData.bool _ = _
   congr 1
   rw [decide_eq_decide]
   refine ⟨fun q => ⟨h.1, h.2, fun n hn => ⟨Int.le_trans h2 (hM' n hn), Int.le_trans (hN' n hn) q⟩⟩, fun q => (q.2.2 M' hN).2⟩
  ·rw [if_neg (by simpa using h2)]
   show PyData.bool _ = _
   congr 1
   symm
   rw [decide_eq_false_iff_not]
   exact fun q => h2 (q.2.2 M hM).1
 ·rw [if_neg (by simpa using h)]
  show PyData.bool _ = _
  congr 1
  symm
  rw [decide_eq_false_iff_not]
  exact fun q => h ⟨q.1, q.2.1⟩
abbrev agt (K : anS) : Sp := spD K 1 (fun (c : List (List Int) × Nat) xs => xs = [.dat (tab c.1)] /\ Good c.2 c.1) fun _ r => r = .bool true
theorem amU (F : Def K mg "ask_table" jK ["rows"]) (m_len : mg "len" = none) (m_enumerate : mg "enumerate" = none)
  (G_fits : FnIn P w K mg base k "fits" ["things"] (spD K 1 (fun (c : List PyData) xs => xs = [.dat (.list c)]) fun c r => r = .bool (decide (2 <= c.length /\ c.length <= 7))))
  (G_is_row : FnIn P w K mg base k "is_row" ["row"] (spD K 1 (fun (c : List Int) xs => xs = [.dat (.list (c.map .int))]) fun c r => r = .bool (decide (2 <= c.length /\ c.length <= 7 /\ ∀ n ∈ c, -1000000000 <= n /\ n <= 1000000000)))) :
  FnIn P w K mg base (k + 1) "ask_table" ["rows"] (agt K) := by
 refine F.ok sc_ask_table rfl fun fa cdv A outer s H E hr => ⟨_, (zi (z8 (qd (yj (K := K) rfl (zm G_fits hr rfl (zc (pv 0) zh)) (fun _ => rfl))) (zp ady) zK) (zi (jz aoU rfl (adP (K := K) rfl rfl m_enumerate (zc (pv 0) zh)) (z4 (K := K) (n := 2) rfl rfl (zu (zt (i := 1) sc_ask_table.nd rfl (Or.inl rfl) (Or.inr rfl)) (zu (zt (i := 2) sc_ask_table.nd rfl (Or.inl rfl) (Or.inr rfl)) z3))) (zp (z8 (PW.pt (abX (zL (qE (K := K) rfl hr.units) (zC (zT (K := K) rfl) rfl m_len aoy (zc (pv 2) zh)) (zC (zT (K := K) rfl) rfl m_len aoy (zc (zV (zH (K := K) rfl) (pv 0) zj (fun _ _ => rfl)) zh)) (zN _)) (aaU (qd (yj (K := K) rfl (zm G_is_row hr rfl (zc (pv 2) zh)) (fun _ => rfl)))))) (zp ady) zK))) (zp (zB qy)))), ?_⟩
 rintro f xs ⟨rows, wd⟩ hl ⟨rfl, g⟩
 try dsimp only [yf, zq]
 have g1 := g.h1
 have g2 := g.h2
 repeat walk_at "dl"
 refine zx (rows.map fun r => .list (r.map .int)) ?_
 repeat walk_at "dl"
 rintro r rfl
 dsimp only at g1 g2
 refine ⟨_, rfl, ?_⟩
 rw [anQ, decide_eq_true ⟨g1, g2⟩, aoQ, if_neg anR]
 repeat walk_at "dl"
 refine aeX ?_
 repeat walk_at "dl"
 refine ⟨fun i ρ => ∃ a b, ρ = [some (.dat (tab rows)), a, b], ⟨_, _, rfl⟩, ?_, ?_⟩
 ·rintro i d ρ hd ⟨a, b, rfl⟩
  rw [aob] at hd
  cases hr : rows[i]? with
  | none => rw [hr] at hd; cases hd
  | some r =>
   rw [hr] at hd
   cases hd
   have hm := aof hr
   have hw := g.row r hm
   obtain ⟨r0, rs, hrs⟩ := g.ne
   dsimp only at hrs
   subst hrs
   have hw0 := g.row r0 an0
   repeat walk_at "dl"
   refine ⟨_, yq (j := 0) rfl (by simp), ?_⟩
   repeat walk_at "dl"
   dsimp only at hw hw0
   rw [if_pos rfl, anQ, anQ]
   show (if (!(((r.length : Nat) : Int) == ((r0.length : Nat) : Int))) = true then _ else _)
   rw [hw, hw0, beq_self_eq_true, aoQ, if_neg anR]
   repeat walk_at "dl"
   refine zx r ?_
   repeat walk_at "dl"
   rintro _ rfl
   refine ⟨_, rfl, ?_⟩
   have w1 := g.w1
   have w2 := g.w2
   dsimp only at w1 w2
   rw [decide_eq_true ⟨by omega, by omega, g.hgt r hm⟩, aoQ, if_neg anR]
   repeat walk_at "dl"
   exact ⟨_, _, rfl⟩
 ·rintro ρ ⟨a, b, rfl⟩
  repeat walk_at "dl"
  rfl
theorem akX (F : Def K mg "_law_draw" qr ["_law_feed_here", "_law_many"]) : FnIn P w K mg base (k + 1) "_law_draw" ["_law_feed_here", "_law_many"] (spD K 2 (fun (c : Int) xs => xs = [.feed, .dat (.int c)] /\ 0 < c /\ c < 1152921504606846976) fun c r => ∃ i : Int, r = .int i /\ 0 <= i /\ i < c) := by
 refine F.ok sc_law_draw rfl fun fa cdv A outer s H E hr => ⟨_, (zi (z8 (zL alu (zV (zH (K := K) rfl) (pv 0) zj (fun _ _ => rfl)) (zJ vX zj zj) (zN _)) (zi (zM (i := 2) sc_law_draw.nd rfl (Or.inl rfl) (zJ vW (zV (zH (K := K) rfl) (pv 0) zj (fun _ _ => rfl)) (pv 1))) (zi (yc (zJ adQ (zV (zH (K := K) rfl) (pv 0) zj (fun _ _ => rfl)) (pv 1)) (jT (pv 0) zj set_list)) (zp (zB (pv 2))))) zK) (zi (yc (zJ vW (zJ yd (zJ yd (zJ aaY (zV (zH (K := K) rfl) (pv 0) zj (fun _ _ => rfl)) zj) (zJ vW (zV (zH (K := K) rfl) (pv 0) zj (fun _ _ => rfl)) zj)) zj) zj) (jT (pv 0) zj set_list)) (zp (zB (zJ vW (zJ adQ (zJ vW (zJ aaY (zV (zH (K := K) rfl) (pv 0) zj (fun _ _ => rfl)) zj) zj) zj) (pv 1)))))), ?_⟩
 rintro f xs c hl ⟨rfl, c0, c1⟩
 try dsimp only [yf, zq]
 repeat walk_at "dl"
 split
 ·repeat walk_at "dl"
  exact apK _ c0
 ·repeat walk_at "dl"
  exact apK _ c0
abbrev vx (K : anS) : Sp := spD K 2 (fun (c : Int) xs => xs = [.feed, .dat (.int c)] /\ 0 < c /\ c < 1152921504606846976) fun c r => ∃ i : Int, r = .int i /\ 0 <= i /\ i < c
abbrev aep (K : anS) : Sp := spD K 3 (fun (c : Int × Int) xs => xs = [.feed, .dat (.int c.1), .dat (.int c.2)] /\ 0 <= c.1 /\ c.1 <= 10 /\ -1000000000 <= c.2 /\ c.2 <= 999999991) fun c r => ∃ i : Int, r = .int i /\ -1000000000 <= i /\ i <= 1000000000
theorem ahR (F : Def K mg "_law_height" jv ["_law_feed_here", "_law_far", "_law_base"]) (m_min : mg "min" = none) (G__law_draw : FnIn P w K mg base k "_law_draw" ["_law_feed_here", "_law_many"] (vx K)) :
  FnIn P w K mg base (k + 1) "_law_height" ["_law_feed_here", "_law_far", "_law_base"] (aep K) := by
 refine F.ok abT rfl fun fa cdv A outer s H E hr => ⟨_, (zi (z8 (zL aid (pv 1) zj (zN _)) (zp (zB (zJ yd (pv 2) (zm G__law_draw hr rfl (zc (pv 0) (zc (pv 1) zh)))))) zK) (zp (zB (zC (abZ rfl) rfl m_min boot_min (zc (zJ vX zj zj) (zc (zJ jk (zJ yd (zJ aaY (zm G__law_draw hr rfl (zc (pv 0) (zc zj zh))) zj) (zm G__law_draw hr rfl (zc (pv 0) (zc zj zh)))) (zJ vX zj zj)) zh)))))), ?_⟩
 rintro f xs ⟨far, bs⟩ hl ⟨rfl, c0, c1, c2, c3⟩
 dsimp only at c0 c1 c2 c3
 try dsimp only [yf, zq]
 repeat walk_at "dl"
 by_cases h : 0 < far
 ·rw [if_pos (by simpa using h)]
  repeat walk_at "dl"
  refine zx far ?_
  repeat walk_at "dl"
  rintro r ⟨i, rfl, h1, h2⟩
  repeat walk_at "dl"
  show bs + i <= 1000000000
  omega
 ·rw [if_neg (by simpa using h)]
  repeat walk_at "dl"
  refine zx 20001 ?_
  repeat walk_at "dl"
  rintro r ⟨i, rfl, h1, h2⟩
  repeat walk_at "dl"
  refine zx 100000 ?_
  repeat walk_at "dl"
  rintro r ⟨j, rfl, h3, h4⟩
  repeat walk_at "dl"
  have e9 : (10 : Int) ^ Int.toNat 9 = 1000000000 := by decide
  rw [e9]
  omega
end
open PySem PySem.Spec PyProof.Rows L2
section
variable {P : Program} {w : World} {K : anS} {mg : Str -> Option Value} {base : Heap} {k : Nat}
abbrev agu (K : anS) : Sp := spD K 1 (fun (_ : Unit) xs => xs = [.feed]) fun _ r => ∃ wd rows, r = tab rows /\ Good wd rows
theorem menu {ds : List PyData} {i n : Int} (h0 : 0 <= i) (h1 : i < n) (hn : n = (ds.length : Int)) : ∃ d, atI ds i = some d /\ d ∈ ds := by
 have hi : i.toNat < ds.length := by omega
 have e : i = ((i.toNat : Nat) : Int) := by omega
 have q := aaH (anP hi)
 rw [<- e] at q
 exact ⟨_, q, aot hi⟩
theorem agv : ∀ {es : List PyData} {p : Int -> Prop}, (∀ (i : Nat) e, es[i]? = some e -> ∃ n : Int, e = .int n /\ p n) -> ∃ ns : List Int, es = ns.map .int /\ ∀ n ∈ ns, p n
 | [], p, _ => ⟨[], rfl, fun n h => by cases h⟩
 | e :: es, p, h => by
  obtain ⟨n, rfl, hn⟩ := h 0 e rfl
  obtain ⟨ns, rfl, hs⟩ := agv (es := es) (p := p) fun i e' he => h (i + 1) e' (by simpa using he)
  exact ⟨n :: ns, rfl, fun m hm => by
   rcases aoa.mp hm with rfl | hm
   ·exact hn
   ·exact hs m hm⟩
theorem agw : ∀ {es : List PyData} {p : List Int -> Prop}, (∀ (i : Nat) e, es[i]? = some e -> ∃ r : List Int, e = .list (r.map .int) /\ p r) -> ∃ rows : List (List Int), es = rows.map (fun r => .list (r.map .int)) /\ ∀ r ∈ rows, p r
 | [], p, _ => ⟨[], rfl, fun n h => by cases h⟩
 | e :: es, p, h => by
  obtain ⟨n, rfl, hn⟩ := h 0 e rfl
  obtain ⟨ns, rfl, hs⟩ := agw (es := es) (p := p) fun i e' he => h (i + 1) e' (by simpa using he)
  exact ⟨n :: ns, rfl, fun m hm => by
   rcases aoa.mp hm with rfl | hm
   ·exact hn
   ·exact hs m hm⟩
theorem ajo (F : Def K mg "_law_table" jO ["_law_feed_here"]) (m_range : mg "range" = none) (G__law_draw : FnIn P w K mg base k "_law_draw" ["_law_feed_here", "_law_many"] (vx K)) (G__law_height : FnIn P w K mg base k "_law_height" ["_law_feed_here", "_law_far", "_law_base"] (aep K)) :
  FnIn P w K mg base (k + 1) "_law_table" ["_law_feed_here"] (agu K) := by
 refine F.ok sc_law_table rfl fun fa cdv A outer s H E hr => ⟨_, (zi (zM (i := 1) sc_law_table.nd rfl (Or.inr rfl) (zJ yd zj (zm G__law_draw hr rfl (zc (pv 0) (zc zj zh))))) (zi (zM (i := 2) sc_law_table.nd rfl (Or.inl rfl) (zJ yd zj (zm G__law_draw hr rfl (zc (pv 0) (zc zj zh))))) (zi (zM (i := 3) sc_law_table.nd rfl (Or.inr rfl) (zV (zH (K := K) rfl) (yr (zc zj (zc zj (zc zj (zc zj (zc zj (zc zj (zc zj zh)))))))) (zm G__law_draw hr rfl (zc (pv 0) (zc zj zh))) (fun _ _ => rfl))) (zi (zM (i := 4) sc_law_table.nd rfl (Or.inr rfl) (zV (zH (K := K) rfl) (yr (zc zj (zc (zJ jk zj zj) (zc (zJ jk (zJ vX zj zj) zj) (zc (zJ jk zj (zJ vX zj zj)) zh))))) (zm G__law_draw hr rfl (zc (pv 0) (zc zj zh))) (fun _ _ => rfl))) (zp (zB (yK (N := ["_law_y", "_law_feed_here", "_law_wide", "_law_far", "_law_base"]) (own := 1) (fr := [0, 1, 3, 4]) ⟨rfl, by decide +kernel, of_decide_eq_true (by kernel_rfl), of_decide_eq_true (by kernel_rfl), of_decide_eq_true (by kernel_rfl), rfl⟩ rfl (y4 rfl m_range (zc (pv 2) zh)) (fun _ _ _ _ => (zt (i := 0) (show (["_law_y", "_law_feed_here", "_law_wide", "_law_far", "_law_base"] : List Str).Nodup by decide +kernel) rfl (Or.inl rfl) (Or.inr rfl))) (fun _ _ _ _ => yO) (fun _ _ _ _ => (yK (N := ["_law_x", "_law_feed_here", "_law_far", "_law_base"]) (own := 1) (fr := [1, 3, 4]) ⟨rfl, by decide +kernel, of_decide_eq_true (by kernel_rfl), of_decide_eq_true (by kernel_rfl), of_decide_eq_true (by kernel_rfl), rfl⟩ rfl (y4 rfl m_range (zc (pv 2) zh)) (fun _ _ _ _ => (zt (i := 0) (show (["_law_x", "_law_feed_here", "_law_far", "_law_base"] : List Str).Nodup by decide +kernel) rfl (Or.inl rfl) (Or.inr rfl))) (fun _ _ _ _ => yO) (fun _ _ _ _ => (zm G__law_height hr rfl (zc (pv 1) (zc (pv 2) (zc (pv 3) zh))))) rfl rfl (fun _ => rfl))) rfl rfl (fun _ => rfl)))))))), ?_⟩
 rintro f xs ⟨⟩ hl rfl
 try dsimp only [yf, zq]
 repeat walk_at "dl"
 refine zx 6 ?_
 repeat walk_at "dl"
 rintro r ⟨i1, rfl, h1, h2⟩
 repeat walk_at "dl"
 refine zx 6 ?_
 repeat walk_at "dl"
 rintro r ⟨i2, rfl, h3, h4⟩
 repeat walk_at "dl"
 refine zx 7 ?_
 repeat walk_at "dl"
 rintro r ⟨i3, rfl, h5, h6⟩
 refine ⟨_, rfl, ?_⟩
 obtain ⟨d3, e3, m3⟩ := menu (ds := [.int 2, .int 3, .int 5, .int 10, .int 2, .int 3, .int 0]) h5 h6 (by simp)
 obtain ⟨far, rfl, f0, f1⟩ : ∃ n : Int, d3 = .int n /\ 0 <= n /\ n <= 10 := by
  simp only [aoa, aoS, or_false] at m3
  rcases m3 with rfl | rfl | rfl | rfl | rfl | rfl | rfl <;> exact ⟨_, rfl, by decide, by decide⟩
 refine ⟨_, e3, ?_⟩
 repeat walk_at "dl"
 refine zx 4 ?_
 repeat walk_at "dl"
 rintro r ⟨i4, rfl, h7, h8⟩
 refine ⟨_, rfl, ?_⟩
 obtain ⟨d4, e4, m4⟩ := menu (ds := [.int 0, .int (0 - 3), .int (10 ^ Int.toNat 9 - 9), .int (0 - 10 ^ Int.toNat 9)]) h7 h8 (by simp)
 obtain ⟨bs, rfl, b0, b1⟩ : ∃ n : Int, d4 = .int n /\ -1000000000 <= n /\ n <= 999999991 := by
  simp only [aoa, aoS, or_false] at m4
  rcases m4 with rfl | rfl | rfl | rfl <;> exact ⟨_, rfl, by decide, by decide⟩
 refine ⟨_, e4, ?_⟩
 repeat walk_at "dl"
 refine adN ?_
 repeat walk_at "dl"
 refine ⟨fun _ e => ∃ r : List Int, e = .list (r.map .int) /\ r.length = (2 + i1).toNat /\ ∀ n ∈ r, -1000000000 <= n /\ n <= 1000000000, fun D i hi => ?_, fun es hes hR => ?_⟩
 ·refine adN ?_
  repeat walk_at "dl"
  refine ⟨fun _ e => ∃ n : Int, e = .int n /\ -1000000000 <= n /\ n <= 1000000000, fun D' i' hi' => ?_, fun es hes hR => ?_⟩
  ·refine zx (far, bs) ?_
   repeat walk_at "dl"
   rintro r ⟨n, rfl, n0, n1⟩
   exact ⟨n, rfl, n0, n1⟩
  ·obtain ⟨ns, rfl, hs⟩ := agv (p := fun n => -1000000000 <= n /\ n <= 1000000000) hR
   exact ⟨ns, rfl, by rw [anQ] at hes; exact hes, hs⟩
 ·obtain ⟨rows, rfl, hs⟩ := agw (p := fun r => r.length = (2 + i1).toNat /\ ∀ n ∈ r, -1000000000 <= n /\ n <= 1000000000) hR
  rw [anQ] at hes
  exact ⟨(2 + i1).toNat, rows, rfl, by omega, by omega, by omega, by omega, fun r hr => (hs r hr).1, fun r hr => (hs r hr).2⟩
abbrev alL (K : anS) : Sp := spD K 2 (fun (c : List (List Int) × Nat) xs => xs = [.feed, .dat (tab c.1)] /\ Good c.2 c.1) fun _ r => ∃ n : Int, r = .int n /\ -1000000001 <= n /\ n <= 1000000000
end
open PySem PySem.Spec PyProof.Rows L2
local macro_rules | `(tactic| walk_at "dl") => `(tactic| first
 | (with_reducible show PSd _ _ (jE _ (aaW (yb _) (tC (V.int 0)) vd)) _ _; refine afY rfl ?_)
 | (with_reducible show PSd _ _ (jE _ (aaW (yb _) (tC (V.int 1)) vd)) _ _; refine afZ rfl ?_)
 | with_reducible refine z9 ?_ | with_reducible refine aeW ?_ | with_reducible refine ym ?_ | with_reducible refine ya ?_ | with_reducible refine aa9 ?_ | with_reducible refine yX ?_
 | with_reducible refine zv ?_ | with_reducible refine yY rfl ?_ | with_reducible refine zF ?_ | with_reducible refine yt ?_
 | with_reducible refine yw ?_ | with_reducible refine t_b ?_ | with_reducible refine air ?_ | with_reducible refine aeV ?_ | with_reducible refine vB ?_ | with_reducible refine yW ?_
 | with_reducible refine afX ?_ | with_reducible refine adL ?_ | with_reducible refine adK ?_ | with_reducible refine aiq ?_ | with_reducible refine yV ?_
 | with_reducible refine ais ?_ | with_reducible refine v3 ?_ | with_reducible refine d_orV ?_ | with_reducible refine ait ?_
 | with_reducible refine jB ?_ | with_reducible refine adJ ?_ | with_reducible refine afV ?_ | with_reducible refine afW ?_
 | (with_reducible show PEd _ _ (yb _) _ _; refine zw rfl ?_)
 | (with_reducible show PEd _ _ (tOp (aeQ _) (yb _) _) _ _; refine alx rfl ?_)
 | with_reducible refine aa8 ?_ | with_reducible refine qt ?_
 | (with_reducible show PAd _ _ (zW (yb _) _) _ _; refine qB rfl ?_)
 | with_reducible refine zS ?_ | with_reducible refine yB ?_
 | with_reducible refine d_catT ?_ | with_reducible refine alA ?_ | with_reducible refine ani ?_ | with_reducible refine anj ?_ | with_reducible refine d_int1 ?_ | with_reducible refine acN ?_ | with_reducible refine qu ?_
 | with_reducible refine aaq ?_ | with_reducible refine aap ?_ | with_reducible refine qC ?_ | with_reducible refine aiu ?_ | with_reducible refine aiv ?_ | with_reducible refine aiw ?_ | with_reducible refine aix ?_
 | (with_reducible show (∃ _, _) \/ (∃ _, _); first | refine Or.inl ⟨_, rfl, ?_⟩ | refine Or.inr ⟨_, rfl, ?_⟩) | refine ⟨_, rfl, ?_⟩ | refine ⟨_, _, rfl, ?_⟩
 | (with_reducible show (_ = _ /\ ∀ _, _) \/ _; first | refine Or.inl ⟨rfl, fun a ha => ?_⟩ | refine Or.inr ⟨rfl, fun b hb hb' => ?_⟩)
 | (with_reducible show PyData.canLay0 _ = true /\ _; refine And.intro (by first | rfl | assumption | decide +kernel) ?_)
 | (with_reducible show min _ _ <= 60 /\ _; refine And.intro (by first | assumption | (simp [asu, aog]; done)) ?_)
 | refine ⟨rfl, ?_⟩
 | (refine And.intro ?side ?_; (case side => first | omega | exact Int.ediv_nonneg (by omega) (by omega) | exact ara _ (by omega) | exact apK _ (by omega) | decide | exact ⟨by decide, by decide, by decide⟩ | exact ⟨by omega, by omega⟩ | exact Or.inl ⟨by omega, by omega⟩ | exact Or.inr ⟨by omega, by omega⟩ | (refine aou (aqg (by rfl)) (show _ <= 1000 by decide)) | ((repeat' apply And.intro) <;> first | rfl | omega | decide | assumption) | (simp [asu]))))
theorem yH {b : Bool} {p q : Prop} (h1 : b = true -> p) (h2 : b = false -> q) : if b = true then p else q := by
 cases b with
 | true => rw [if_pos rfl]; exact h1 rfl
 | false => rw [if_neg anR]; exact h2 rfl
def yv (rows : List (List Int)) (wd : Nat) (x y : Int) : Bool := decide (0 <= x /\ x < wd) && decide (0 <= y /\ y < rows.length)
def yN (rows : List (List Int)) (x y : Int) : Int := (rows.getD y.toNat []).getD x.toNat 0
theorem aah {rows : List (List Int)} {wd : Nat} {x y : Int} (h : yv rows wd x y = true) : 0 <= x /\ x < wd /\ 0 <= y /\ y < rows.length := by
 unfold yv at h
 rw [anZ] at h
 have h1 := of_decide_eq_true h.1
 have h2 := of_decide_eq_true h.2
 omega
def jR (x y w : Int) : PyData := .tuple [.int x, .int y, .int w]
def px (x : Int) (w : Int) : Int := if w = 0 then x + 1 else x
def py (y : Int) (w : Int) : Int := if w = 0 then y else y + 1
def vy (rows : List (List Int)) (wd : Nat) (x y w : Int) : Bool := decide (w = 0 \/ w = 1) && (yv rows wd x y && yv rows wd (px x w) (py y w))
def yI (rows : List (List Int)) (wd : Nat) (cut x y w : Int) : Bool := vy rows wd x y w && (decide (cut < yN rows x y) != decide (cut < yN rows (px x w) (py y w)))
def acn (rows : List (List Int)) (cut x y w : Int) : Str := if w = 0 then (if cut < yN rows x y then "up" else "down") else (if cut < yN rows x y then "right" else "left")
theorem adk (a b : Int) : aoo (.int a) (.int b) = decide (a = b) := rfl
theorem aeq (a b : Bool) : aoo (.bool a) (.bool b) = (a == b) := rfl
section
variable {P : Program} {w : World} {K : anS} {mg : Str -> Option Value} {base : Heap} {k : Nat}
abbrev ajp (K : anS) : Sp := spD K 1 (fun (c : List (List Int) × Nat) xs => xs = [.dat (tab c.1)] /\ Good c.2 c.1) fun c r => r = .tuple [.int c.2, .int c.1.length]
abbrev ajq (K : anS) : Sp := spD K 3 (fun (c : List (List Int) × Nat × Int × Int) xs => xs = [.dat (tab c.1), .dat (.int c.2.2.1), .dat (.int c.2.2.2)] /\ Good c.2.1 c.1) fun c r => r = .bool (yv c.1 c.2.1 c.2.2.1 c.2.2.2)
theorem amV (F : Def K mg "has_point" jJ ["rows", "x", "y"]) (G_size : FnIn P w K mg base k "size" ["rows"] (ajp K)) : FnIn P w K mg base (k + 1) "has_point" ["rows", "x", "y"] (ajq K) := by
 refine F.ok sc_has_point rfl fun fa cdv A outer s H E hr => ⟨_, (zi (yc (zm G_size hr rfl (zc (pv 0) zh)) (z4 (K := K) (n := 2) rfl rfl (zu (zt (i := 3) sc_has_point.nd rfl (Or.inl rfl) (Or.inr rfl)) (zu (zt (i := 4) sc_has_point.nd rfl (Or.inl rfl) (Or.inr rfl)) z3)))) (zp (zB (vi (aaZ abY afK zj (pv 1) (pv 3)) (vV (aaZ abY afK zj (pv 2) (pv 4))))))), ?_⟩
 rintro f xs ⟨rows, wd, x, y⟩ hl ⟨rfl, g⟩
 try dsimp only [yf, zq]
 dsimp only at *
 refine z9 (ya (zx (rows, wd) ?_))
 repeat walk_at "dl"
 rintro _ rfl
 repeat walk_at "dl"
 have fin : ∀ b : Bool, b = yv rows wd x y -> PyData.bool b = PyData.bool (yv rows wd x y) := fun b h => by rw [h]
 refine yH (fun h1 => ?_) fun h1 => ?_
 ·have h1' := of_decide_eq_true h1
  repeat walk_at "dl"
  refine yH (fun h2 => ?_) fun h2 => ?_
  ·have h2' := of_decide_eq_true h2
   repeat walk_at "dl"
   refine yH (fun h3 => ?_) fun h3 => ?_
   ·have h3' := of_decide_eq_true h3
    repeat walk_at "dl"
    refine fin _ ?_
    unfold yv
    dsimp only at h2' ⊢
    rw [decide_eq_true (p := (0 <= x /\ x < (wd : Int))) (by omega), apy]
    exact decide_eq_decide.mpr (by omega)
   ·have h3' := of_decide_eq_false h3
    refine fin _ ?_
    unfold yv
    rw [decide_eq_false (p := (0 <= y /\ y < (rows.length : Int))) (by omega), ash]
  ·have h2' := of_decide_eq_false h2
   refine fin _ ?_
   unfold yv
   dsimp only at h2'
   rw [decide_eq_false (p := (0 <= x /\ x < (wd : Int))) (by omega), apJ]
 ·have h1' := of_decide_eq_false h1
  refine ⟨_, rfl, ?_⟩
  rw [if_neg anR]
  refine fin _ ?_
  unfold yv
  rw [decide_eq_false (p := (0 <= x /\ x < (wd : Int))) (by omega), apJ]
abbrev adl (K : anS) : Sp := spD K 3 (fun (c : List (List Int) × Nat × Int × Int × Int) xs => xs = [.dat (tab c.1), .dat (.int c.2.2.1), .dat (.tuple [.int c.2.2.2.1, .int c.2.2.2.2])] /\ Good c.2.1 c.1 /\ yv c.1 c.2.1 c.2.2.2.1 c.2.2.2.2 = true) fun c r => r = .bool (decide (c.2.2.1 < yN c.1 c.2.2.2.1 c.2.2.2.2))
theorem aer {rows : List (List Int)} {wd : Nat} {x y : Int} (g : Good wd rows) (h : yv rows wd x y = true) : ∃ r : List Int, atI (rows.map fun q => PyData.list (q.map .int)) y = some (.list (r.map .int)) /\ atI (r.map PyData.int) x = some (.int (yN rows x y)) := by
 obtain ⟨x0, x1, y0, y1⟩ := aah h
 have hy : y.toNat < rows.length := by omega
 have hr := g.row _ (aot hy)
 have hx : x.toNat < rows[y.toNat].length := by omega
 refine ⟨rows[y.toNat], yq (F := fun q : List Int => PyData.list (q.map .int)) (by omega) hy, ?_⟩
 rw [yq (j := x.toNat) (by omega) hx]
 unfold yN
 rw [anU, anU, anP hy, arP, anP hx]
 rfl
theorem akY (F : Def K mg "stands_high" jc ["rows", "cut", "point"]) : FnIn P w K mg base (k + 1) "stands_high" ["rows", "cut", "point"] (adl K) := by
 refine F.ok sc_stands_high rfl fun fa cdv A outer s H E hr => ⟨_, (zi (yc (pv 2) (z4 (K := K) (n := 2) rfl rfl (zu (zt (i := 3) sc_stands_high.nd rfl (Or.inl rfl) (Or.inr rfl)) (zu (zt (i := 4) sc_stands_high.nd rfl (Or.inl rfl) (Or.inr rfl)) z3)))) (zp (zB (yR aid (zV (zH (K := K) rfl) (zV (zH (K := K) rfl) (pv 0) (pv 4) (fun _ _ => rfl)) (pv 3) (fun _ _ => rfl)) (pv 1) (zN _))))), ?_⟩
 rintro f xs ⟨rows, wd, cut, x, y⟩ hl ⟨rfl, g, hi⟩
 try dsimp only [yf, zq]
 dsimp only at *
 obtain ⟨r, h1, h2⟩ := aer g hi
 unfold tab
 repeat walk_at "dl"
 refine ⟨_, h1, ?_⟩
 repeat walk_at "dl"
 refine ⟨_, h2, ?_⟩
 repeat walk_at "dl"
 rfl
abbrev ajr (K : anS) : Sp := spD K 1 (fun (c : Int × Int × Int) xs => xs = [.dat (jR c.1 c.2.1 c.2.2)]) fun c r => r = .list [.tuple [.int c.1, .int c.2.1], .tuple [.int (px c.1 c.2.2), .int (py c.2.1 c.2.2)]]
theorem amW (F : Def K mg "gate_points" je ["gate"]) : FnIn P w K mg base (k + 1) "gate_points" ["gate"] (ajr K) := by
 refine F.ok sc_gate_points rfl fun fa cdv A outer s H E hr => ⟨_, (zi (yc (pv 0) (z4 (K := K) (n := 3) rfl rfl (zu (zt (i := 1) sc_gate_points.nd rfl (Or.inl rfl) (Or.inr rfl)) (zu (zt (i := 2) sc_gate_points.nd rfl (Or.inl rfl) (Or.inr rfl)) (zu (zt (i := 3) sc_gate_points.nd rfl (Or.inl rfl) (Or.inr rfl)) z3))))) (zi (z8 (zL (yy (K := K) rfl hr.units) (pv 3) zj (zN _)) (zp (zB (yr (zc (zR (zc (pv 1) (zc (pv 2) zh))) (zc (zR (zc (zJ yd (pv 1) zj) (zc (pv 2) zh))) zh))))) zK) (zp (zB (yr (zc (zR (zc (pv 1) (zc (pv 2) zh))) (zc (zR (zc (pv 1) (zc (zJ yd (pv 2) zj) zh))) zh))))))), ?_⟩
 rintro f xs ⟨x, y, w⟩ hl rfl
 try dsimp only [yf, zq]
 dsimp only at *
 unfold jR
 repeat walk_at "dl"
 rw [if_neg anR, adk]
 refine yH (fun h => ?_) fun h => ?_
 ·have h' := of_decide_eq_true h
  repeat walk_at "dl"
  unfold px py
  rw [if_pos h', if_pos h']
 ·have h' := of_decide_eq_false h
  repeat walk_at "dl"
  unfold px py
  rw [if_neg h', if_neg h']
abbrev ajs (K : anS) : Sp := spD K 2 (fun (c : List (List Int) × Nat × Int × Int × Int) xs => xs = [.dat (tab c.1), .dat (jR c.2.2.1 c.2.2.2.1 c.2.2.2.2)] /\ Good c.2.1 c.1) fun c r => r = .bool (vy c.1 c.2.1 c.2.2.1 c.2.2.2.1 c.2.2.2.2)
theorem akZ (F : Def K mg "has_gate" qk ["rows", "gate"]) (m_all : mg "all" = none) (G_has_point : FnIn P w K mg base k "has_point" ["rows", "x", "y"] (ajq K)) (G_gate_points : FnIn P w K mg base k "gate_points" ["gate"] (ajr K)) : FnIn P w K mg base (k + 1) "has_gate" ["rows", "gate"] (ajs K) := by
 refine F.ok aei rfl fun fa cdv A outer s H E hr => ⟨_, (zi (z8 (zL (ahj (K := K) rfl) (zV (yx (K := K) rfl) (pv 1) zj (fun _ _ => rfl)) (zR (zc zj (zc zj zh))) rfl) (zp (zB qy)) zK) (zp (zB (zC (v9 (K := K) rfl rfl) rfl m_all aqX (zc (yK (N := ["x", "y", "rows"]) (own := 2) (fr := [0]) ⟨rfl, by decide +kernel, of_decide_eq_true (by kernel_rfl), of_decide_eq_true (by kernel_rfl), of_decide_eq_true (by kernel_rfl), rfl⟩ rfl (yM (K := K) rfl (zm G_gate_points hr rfl (zc (pv 1) zh))) (fun _ _ _ _ => (z4 (K := K) (n := 2) rfl rfl (zu (zt (i := 0) (show (["x", "y", "rows"] : List Str).Nodup by decide +kernel) rfl (Or.inl rfl) (Or.inr rfl)) (zu (zt (i := 1) (show (["x", "y", "rows"] : List Str).Nodup by decide +kernel) rfl (Or.inl rfl) (Or.inr rfl)) z3)))) (fun _ _ _ _ => yO) (fun _ _ _ _ => (zm G_has_point hr rfl (zc (pv 2) (zc (pv 0) (zc (pv 1) zh))))) rfl rfl (fun _ => rfl)) zh))))), ?_⟩
 rintro f xs ⟨rows, wd, x, y, w⟩ hl ⟨rfl, g⟩
 try dsimp only [yf, zq]
 dsimp only at *
 refine z9 (aeW (yw (aiG ?_)))
 unfold jR
 repeat walk_at "dl"
 refine ⟨[0, 1], rfl, _, rfl, ?_⟩
 have hc : (([0, 1] : List Int).contains w) = decide (w = 0 \/ w = 1) := by
  rw [apB]
  simp
 rw [hc]
 by_cases h : w = 0 \/ w = 1
 ·rw [decide_eq_true h, aoQ, if_neg anR]
  refine yX (ym (aiE (PEdO.ped (ab7 (A := fun p : Int × Int => PyData.tuple [.int p.1, .int p.2]) (B := fun p : Int × Int => PyData.bool (yv rows wd p.1 p.2)) [(x, y), (px x w, py y w)] (jW (zx (x, y, w) ?_))))))
  repeat walk_at "dl"
  rintro _ rfl
  refine ⟨_, rfl, rfl, show 2 <= 1000 by decide, ?_, ?_⟩
  ·rintro D p ρ' es hp ho hes
   obtain ⟨u, v, rfl⟩ := ho.two
   refine yY rfl (zF (zv (zF (zv (yt (qu ?_))))))
   rw [if_pos rfl]
   refine jn hes (zx (rows, wd, p.1, p.2) ?_)
   repeat walk_at "dl"
   rintro _ rfl
   exact ⟨.mk2, rfl⟩
  ·refine ⟨[yv rows wd x y, yv rows wd (px x w) (py y w)], rfl, ?_⟩
   show PyData.bool _ = PyData.bool _
   unfold vy
   rw [decide_eq_true h, apy]
   show PyData.bool (yv rows wd x y && (yv rows wd (px x w) (py y w) && true)) = _
   rw [aq2]
 ·rw [decide_eq_false h, apL, if_pos rfl]
  repeat walk_at "dl"
  unfold vy
  rw [decide_eq_false h]
  rfl
abbrev abr (K : anS) : Sp := spD K 3 (fun (c : List (List Int) × Nat × Int × Int × Int × Int) xs => xs = [.dat (tab c.1), .dat (.int c.2.2.1), .dat (jR c.2.2.2.1 c.2.2.2.2.1 c.2.2.2.2.2)] /\ Good c.2.1 c.1) fun c r => r = .bool (yI c.1 c.2.1 c.2.2.1 c.2.2.2.1 c.2.2.2.2.1 c.2.2.2.2.2)
theorem ajt {rows : List (List Int)} {wd : Nat} {x y w : Int} (h : vy rows wd x y w = true) : yv rows wd x y = true /\ yv rows wd (px x w) (py y w) = true := by
 unfold vy at h
 rw [anZ, anZ] at h
 exact h.2
theorem ak0 (F : Def K mg "is_open" qS ["rows", "cut", "gate"]) (G_has_gate : FnIn P w K mg base k "has_gate" ["rows", "gate"] (ajs K)) (G_gate_points : FnIn P w K mg base k "gate_points" ["gate"] (ajr K)) (G_stands_high : FnIn P w K mg base k "stands_high" ["rows", "cut", "point"] (adl K)) : FnIn P w K mg base (k + 1) "is_open" ["rows", "cut", "gate"] (abr K) := by
 refine F.ok sc_is_open rfl fun fa cdv A outer s H E hr => ⟨_, (zi (z8 (qd (yj (K := K) rfl (zm G_has_gate hr rfl (zc (pv 0) (zc (pv 2) zh))) (fun _ => rfl))) (zp (zB qy)) zK) (zi (yc (zm G_gate_points hr rfl (zc (pv 2) zh)) (af0 (K := K) (n := 2) rfl rfl (zu (zt (i := 3) sc_is_open.nd rfl (Or.inl rfl) (Or.inr rfl)) (zu (zt (i := 4) sc_is_open.nd rfl (Or.inl rfl) (Or.inr rfl)) z3)))) (zp (zB (yR (qE (K := K) rfl hr.units) (zm G_stands_high hr rfl (zc (pv 0) (zc (pv 1) (zc (pv 3) zh)))) (zm G_stands_high hr rfl (zc (pv 0) (zc (pv 1) (zc (pv 4) zh)))) (zN _)))))), ?_⟩
 rintro f xs ⟨rows, wd, cut, x, y, w⟩ hl ⟨rfl, g⟩
 try dsimp only [yf, zq]
 dsimp only at *
 refine z9 (aeW (vB (yW (zx (rows, wd, x, y, w) ?_))))
 repeat walk_at "dl"
 rintro _ rfl
 refine ⟨_, rfl, ?_⟩
 dsimp only
 cases h : vy rows wd x y w with
 | false =>
  rw [apL, if_pos rfl]
  repeat walk_at "dl"
  unfold yI
  rw [h]
  rfl
 | true =>
  rw [aoQ, if_neg anR]
  obtain ⟨i1, i2⟩ := ajt h
  refine yX (z9 (ya (zx (x, y, w) ?_)))
  repeat walk_at "dl"
  rintro _ rfl
  dsimp only
  refine alB rfl (zF (zv (zF (zv (yt ?_)))))
  refine ym (yV (zx (rows, wd, cut, x, y) ?_))
  repeat walk_at "dl"
  rintro _ rfl
  refine zx (rows, wd, cut, px x w, py y w) ?_
  repeat walk_at "dl"
  rintro _ rfl
  dsimp only
  repeat walk_at "dl"
  show PyData.bool _ = PyData.bool _
  unfold yI
  rw [h, apy, if_pos rfl, aeq]
  rfl
theorem amX (F : Def K mg "_law_cut" qW ["_law_feed_here", "_law_rows"]) (m_len : mg "len" = none) (G__law_draw : FnIn P w K mg base k "_law_draw" ["_law_feed_here", "_law_many"] (vx K)) : FnIn P w K mg base (k + 1) "_law_cut" ["_law_feed_here", "_law_rows"] (alL K) := by
 refine F.ok sc_law_cut rfl fun fa cdv A outer s H E hr => ⟨_, (zi (zM (i := 2) sc_law_cut.nd rfl (Or.inl rfl) (zV (zH (K := K) rfl) (pv 1) (zm G__law_draw hr rfl (zc (pv 0) (zc (zC (zT (K := K) rfl) rfl m_len aoy (zc (pv 1) zh)) zh))) (fun _ _ => rfl))) (zp (zB (zJ jk (zV (zH (K := K) rfl) (pv 2) (zm G__law_draw hr rfl (zc (pv 0) (zc (zC (zT (K := K) rfl) rfl m_len aoy (zc (pv 2) zh)) zh))) (fun _ _ => rfl)) (zm G__law_draw hr rfl (zc (pv 0) (zc zj zh))))))), ?_⟩
 rintro f xs ⟨rows, wd⟩ hl ⟨rfl, g⟩
 try dsimp only [yf, zq]
 dsimp only at *
 have g1 := g.h1
 have g2 := g.h2
 have w1 := g.w1
 have w2 := g.w2
 have ml : (rows.map fun r => PyData.list (r.map .int)).length = rows.length := anQ _
 have ml1 : 2 <= (rows.map fun r => PyData.list (r.map .int)).length := by omega
 have ml2 : (rows.map fun r => PyData.list (r.map .int)).length <= 7 := by omega
 refine z9 (ya (aa8 ?_))
 unfold tab
 repeat walk_at "dl"
 refine zx (((rows.map fun r => PyData.list (r.map .int)).length : Nat) : Int) ?_
 repeat walk_at "dl"
 rintro _ ⟨i, rfl, i0, i1⟩
 have hi : i.toNat < rows.length := by omega
 have hr := g.row _ (aot hi)
 have hh := g.hgt _ (aot hi)
 refine ⟨_, rfl, _, yq (F := fun q : List Int => PyData.list (q.map .int)) (j := i.toNat) (by omega) hi, ?_⟩
 generalize rows[i.toNat] = row at hr hh
 have rl : (row.map PyData.int).length = row.length := anQ _
 have rl1 : 2 <= (row.map PyData.int).length := by omega
 have rl2 : (row.map PyData.int).length <= 7 := by omega
 repeat walk_at "dl"
 refine zx (((row.map PyData.int).length : Nat) : Int) ?_
 repeat walk_at "dl"
 rintro _ ⟨q, rfl, q0, q1⟩
 have hq : q.toNat < row.length := by omega
 refine ⟨_, rfl, _, yq (F := PyData.int) (j := q.toNat) (by omega) hq, ?_⟩
 have hb := hh _ (aot hq)
 generalize row[q.toNat] = v at hb
 repeat walk_at "dl"
 refine zx 2 ?_
 repeat walk_at "dl"
 rintro _ ⟨u, rfl, u0, u1⟩
 repeat walk_at "dl"
 omega
end
open PySem PySem.Spec PyProof.Rows L2
theorem qJ {n i : Nat} {d : PyData} (h : (qG n)[i]? = some d) : i < n /\ d = .int (i : Int) := by
 unfold qG at h
 rw [aob] at h
 by_cases hi : i < n
 ·rw [ap9 hi] at h
  cases h
  exact ⟨hi, rfl⟩
 ·rw [aov (by rw [apn]; omega)] at h
  cases h
theorem qY (n : Nat) : (qG n).length = n := by unfold qG; simp
def ak1 (x y : Nat) : PyData := .tuple [.int x, .int y]
def qK (t n : Nat) : List PyData := (aoq n).flatMap fun x => (aoq t).map (ak1 x)
theorem aes (t n : Nat) : qK t (n + 1) = qK t n ++ (aoq t).map (ak1 n) := by
 unfold qK
 rw [arf, ao8]
 simp
theorem agx (t : Nat) : ∀ n, (qK t n).length = t * n
 | 0 => rfl
 | n + 1 => by rw [aes, aoh, agx t n, anQ, apn, Nat.mul_succ]
section
variable {P : Program} {w : World} {K : anS} {mg : Str -> Option Value} {base : Heap} {k : Nat}
abbrev aet (K : anS) : Sp := spD K 1 (fun (c : List (List Int) × Nat) xs => xs = [.dat (tab c.1)] /\ Good c.2 c.1) fun c r => r = .list (qK c.1.length c.2)
theorem ahS (F : Def K mg "points" vP ["rows"]) (m_range : mg "range" = none) (G_size : FnIn P w K mg base k "size" ["rows"] (ajp K)) : FnIn P w K mg base (k + 1) "points" ["rows"] (aet K) := by
 refine F.ok sc_points rfl fun fa cdv A outer s H E hr => ⟨_, (zi (yc (zm G_size hr rfl (zc (pv 0) zh)) (z4 (K := K) (n := 2) rfl rfl (zu (zt (i := 1) sc_points.nd rfl (Or.inl rfl) (Or.inr rfl)) (zu (zt (i := 2) sc_points.nd rfl (Or.inr rfl) (Or.inl rfl)) z3)))) (zp (zB (aio (N := ["x", "y", "tall"]) (own := 2) (fr := [2]) ⟨rfl, by decide +kernel, of_decide_eq_true (by kernel_rfl), of_decide_eq_true (by kernel_rfl), of_decide_eq_true (by kernel_rfl), rfl⟩ rfl (y4 rfl m_range (zc (pv 1) zh)) (fun _ _ _ _ => (zt (i := 0) (show (["x", "y", "tall"] : List Str).Nodup by decide +kernel) rfl (Or.inl rfl) (Or.inr rfl))) (fun _ _ _ _ => yO) (fun _ _ _ _ => (y4 rfl m_range (zc (pv 2) zh))) (fun _ _ _ _ => (zt (i := 1) (show (["x", "y", "tall"] : List Str).Nodup by decide +kernel) rfl (Or.inl rfl) (Or.inr rfl))) (fun _ _ _ _ => yO) (fun _ _ _ _ => (zR (zc (pv 0) (zc (pv 1) zh)))) rfl rfl (fun _ => rfl) (fun _ _ _ _ _ => rfl))))), ?_⟩
 rintro f xs ⟨rows, wd⟩ hl ⟨rfl, g⟩
 try dsimp only [yf, zq]
 dsimp only at *
 have g2 := g.h2
 have w2 := g.w2
 refine z9 (ya (zx (rows, wd) ?_))
 repeat walk_at "dl"
 rintro _ rfl
 refine yY rfl (zF (zv (zF (zv (yt ?_)))))
 refine ym (PEdO.ped (v7 (vE (zS (zw rfl (yB ⟨_, rfl, by dsimp only; omega, by dsimp only; omega, fun n ρ es => (∃ u v, ρ = [u, v, some (.dat (.int rows.length))]) /\ es = qK rows.length n, ⟨⟨_, _, rfl⟩, rfl⟩, ?_, ?_⟩))))))
 ·rintro D n d ρ' es hd ⟨⟨u, v, rfl⟩, rfl⟩
  obtain ⟨hn, rfl⟩ := qJ hd
  have hn' : n < wd := by have : n < ((wd : Int)).toNat := hn; omega
  have l1 : rows.length * n <= 7 * 7 := Nat.mul_le_mul g2 (by omega)
  refine zv (qu ?_)
  rw [if_pos rfl]
  refine anh (vE (zS (zw rfl (yB ⟨_, rfl, by omega, by omega, fun m ρ es => (∃ v, ρ = [some (.dat (.int n)), v, some (.dat (.int rows.length))]) /\ es = qK rows.length n ++ (aoq m).map (ak1 n), ⟨⟨_, rfl⟩, by simp⟩, ?_, ?_⟩))))
  ·rintro m d ρ2 es2 hd2 ⟨⟨v, rfl⟩, rfl⟩
   obtain ⟨hm, rfl⟩ := qJ hd2
   have hm' : m < rows.length := by have : m < ((rows.length : Int)).toNat := hm; omega
   refine zv (qu ?_)
   rw [if_pos rfl]
   refine jn (by rw [aoh, agx, anQ, apn]; omega) ?_
   repeat walk_at "dl"
   rw [arf, aoE, apr]
   rfl
  ·rintro ρ2 es2 ⟨⟨v, rfl⟩, rfl⟩
   rw [qY, apm]
   exact ⟨⟨_, _, rfl⟩, by rw [aes]⟩
 ·rintro ρ' es ⟨_, rfl⟩
  rw [qY, apm]
end
open PySem PySem.Spec PyProof.Rows L2
def F2 : PyData -> List PyData
 | .tuple [.int x, .int y] => [jR x y 0, jR x y 1]
 | _ => []
def gD3 (g : Int × Int × Int) : PyData := jR g.1 g.2.1 g.2.2
def opG (rows : List (List Int)) (wd : Nat) (cut : Int) (g : Int × Int × Int) : Bool := yI rows wd cut g.1 g.2.1 g.2.2
def yJ (t n : Nat) : List (Int × Int × Int) := (aoq n).flatMap fun (x : Nat) => (aoq t).flatMap fun (y : Nat) => [((x : Int), (y : Int), (0 : Int)), ((x : Int), (y : Int), (1 : Int))]
theorem aeu (t n : Nat) : (qK t n).flatMap F2 = (yJ t n).map gD3 := by
 unfold qK yJ
 rw [List.flatMap_assoc, List.map_flatMap]
 congr 1
 funext x
 rw [aqw, List.map_flatMap]
 rfl
theorem ak2 {t n : Nat} {d : PyData} (h : d ∈ qK t n) : ∃ x y : Nat, d = ak1 x y := by
 obtain ⟨x, _, h⟩ := aoC.mp h
 obtain ⟨y, _, rfl⟩ := aos.mp h
 exact ⟨x, y, rfl⟩
theorem abt {α : Type} {F : Nat -> List α} {b : Nat} (h : ∀ n, (F n).length <= b) : ∀ n, ((aoq n).flatMap F).length <= b * n
 | 0 => by simp
 | n + 1 => by
  rw [arf, ao8, aoh]
  have := abt h n
  have := h n
  simp only [arE, List.flatMap_nil, aoN]
  rw [Nat.mul_succ]
  omega
theorem aco {t n : Nat} (ht : t <= 7) (hn : n <= 7) : (yJ t n).length <= 98 := by
 have h := abt (F := fun (x : Nat) => (aoq t).flatMap fun (y : Nat) => [((x : Int), (y : Int), (0 : Int)), ((x : Int), (y : Int), (1 : Int))]) (b := 2 * t) (fun x => abt (F := fun (y : Nat) => [((x : Int), (y : Int), (0 : Int)), ((x : Int), (y : Int), (1 : Int))]) (b := 2) (fun y => anW 2) t) n
 exact aou h (Nat.mul_le_mul (show 2 * t <= 14 by omega) hn)
def amY (rows : List (List Int)) (wd : Nat) (cut : Int) (x y : Nat) : List (Int × Int × Int) := (if yI rows wd cut x y 0 = true then [((x : Int), (y : Int), (0 : Int))] else []) ++ if yI rows wd cut x y 1 = true then [((x : Int), (y : Int), (1 : Int))] else []
def zG (rows : List (List Int)) (wd : Nat) (cut : Int) : List (Int × Int × Int) := (aoq wd).flatMap fun x => (aoq rows.length).flatMap fun y => amY rows wd cut x y
theorem ahT {α : Type} {F : Nat -> List α} (n : Nat) : (aoq (n + 1)).flatMap F = (aoq n).flatMap F ++ F n := by
 rw [arf, ao8]
 simp
theorem ak3 (rows : List (List Int)) (wd : Nat) (cut : Int) (x y : Nat) : amY rows wd cut x y = [((x : Int), (y : Int), (0 : Int)), ((x : Int), (y : Int), (1 : Int))].filter (opG rows wd cut) := by
 unfold amY opG
 simp only [aph, ar0]
 cases yI rows wd cut x y 0 <;> cases yI rows wd cut x y 1 <;> rfl
theorem j9 (rows : List (List Int)) (wd : Nat) (cut : Int) : zG rows wd cut = (yJ rows.length wd).filter (opG rows wd cut) := by
 unfold zG yJ
 rw [asn]
 congr 1
 funext x
 rw [asn]
 congr 1
 funext y
 exact ak3 rows wd cut x y
def gLt (a b : Int × Int × Int) : Prop := a.1 < b.1 \/ (a.1 = b.1 /\ (a.2.1 < b.2.1 \/ (a.2.1 = b.2.1 /\ a.2.2 < b.2.2)))
theorem aju {a b : Int × Int × Int} (h : gLt a b) : ltD (gD3 a) (gD3 b) = true := by
 obtain ⟨x, y, w⟩ := a
 obtain ⟨x', y', w'⟩ := b
 unfold gLt at h
 dsimp only at h
 show ltD (.tuple [.int x, .int y, .int w]) (.tuple [.int x', .int y', .int w']) = true
 have e : ∀ i j : Int, aoo (.int i) (.int j) = (i == j) := fun i j => rfl
 simp only [ltD, ltL, e, beq_iff_eq]
 by_cases h1 : x = x'
 ·rw [if_pos h1]
  by_cases h2 : y = y'
  ·rw [if_pos h2]
   rw [if_neg (by omega)]
   exact decide_eq_true (by omega)
  ·rw [if_neg h2]
   exact decide_eq_true (by omega)
 ·rw [if_neg h1]
  exact decide_eq_true (by omega)
theorem agy {α : Type} {R : α -> α -> Prop} {F : Nat -> List α} (n : Nat) (h1 : ∀ i, i < n -> (F i).Pairwise R) (h2 : ∀ i j, i < j -> j < n -> ∀ a ∈ F i, ∀ b ∈ F j, R a b) : ((aoq n).flatMap F).Pairwise R := by
 induction n with
 | zero => simp
 | succ n ih =>
  rw [ahT, List.pairwise_append]
  refine ⟨ih (fun i hi => h1 i (by omega)) (fun i j hij hj => h2 i j hij (by omega)), h1 n (by omega), fun a ha b hb => ?_⟩
  obtain ⟨i, hi, ha⟩ := aoC.mp ha
  exact h2 i n (aoK.mp hi) (by omega) a ha b hb
theorem aev (t n : Nat) : (yJ t n).Pairwise gLt := by
 unfold yJ
 refine agy n (fun x _ => agy t (fun y _ => ?_) fun y y' hy _ a ha b hb => ?_) fun x x' hx _ a ha b hb => ?_
 ·simp [gLt]
 ·simp only [aoa, aoS, or_false] at ha hb
  rcases ha with rfl | rfl <;> rcases hb with rfl | rfl <;> (unfold gLt; dsimp only; omega)
 ·obtain ⟨y, _, ha⟩ := aoC.mp ha
  obtain ⟨y', _, hb⟩ := aoC.mp hb
  simp only [aoa, aoS, or_false] at ha hb
  rcases ha with rfl | rfl <;> rcases hb with rfl | rfl <;> (unfold gLt; dsimp only; omega)
theorem qa {rows : List (List Int)} {wd : Nat} {cut : Int} (g : Good wd rows) : (zG rows wd cut).length <= 98 := by
 rw [j9]
 exact aou (apN _ _) (aco g.h2 g.w2)
open PySem PySem.Spec PyProof.Rows L2
section
variable {P : Program} {w : World} {K : anS} {mg : Str -> Option Value} {base : Heap} {k : Nat}
abbrev adm (K : anS) : Sp := spN K 2 (fun (c : List (List Int) × Nat × Int) xs => xs = [.dat (tab c.1), .dat (.int c.2.2)] /\ Good c.2.1 c.1) fun c es => es = ((yJ c.1.length c.2.1).filter (opG c.1 c.2.1 c.2.2)).map gD3
theorem ajv (F : Def K mg "gates" aaP ["rows", "cut"]) (G_ask_table : FnIn P w K mg base k "ask_table" ["rows"] (agt K)) (G_points : FnIn P w K mg base k "points" ["rows"] (aet K)) (G_is_open : FnIn P w K mg base k "is_open" ["rows", "cut", "gate"] (abr K)) : FnIn P w K mg base (k + 1) "gates" ["rows", "cut"] (adm K) := by
 refine F.okN sc_gates rfl fun fa cdv A outer s H E hr => ⟨_, (zi (y7 (zm G_ask_table hr rfl (zc (pv 0) zh))) (zi (adI (i := 2) (N := ["x", "y", "way"]) (own := 3) (fr := []) ⟨rfl, by decide +kernel, of_decide_eq_true (by kernel_rfl), of_decide_eq_true (by kernel_rfl), of_decide_eq_true (by kernel_rfl), rfl⟩ rfl sc_gates.nd rfl (Or.inl rfl) (yM (K := K) rfl (zm G_points hr rfl (zc (pv 0) zh))) (fun _ _ _ _ => (z4 (K := K) (n := 2) rfl rfl (zu (zt (i := 0) (show (["x", "y", "way"] : List Str).Nodup by decide +kernel) rfl (Or.inl rfl) (Or.inr rfl)) (zu (zt (i := 1) (show (["x", "y", "way"] : List Str).Nodup by decide +kernel) rfl (Or.inl rfl) (Or.inr rfl)) z3)))) (fun _ _ _ _ => yO) (fun _ _ _ _ => (qO (K := K) rfl (zR (zc zj (zc zj zh))))) (fun _ _ _ _ => (zt (i := 2) (show (["x", "y", "way"] : List Str).Nodup by decide +kernel) rfl (Or.inl rfl) (Or.inr rfl))) (fun _ _ _ _ => yO) (fun _ _ _ _ => (zR (zc (pv 0) (zc (pv 1) (zc (pv 2) zh))))) rfl rfl (fun _ => rfl) (fun _ _ _ _ _ => rfl) (Or.inl rfl) rfl) (zp (zB (yK (N := ["gate", "rows", "cut"]) (own := 1) (fr := [0, 1]) ⟨rfl, by decide +kernel, of_decide_eq_true (by kernel_rfl), of_decide_eq_true (by kernel_rfl), of_decide_eq_true (by kernel_rfl), rfl⟩ rfl (yM (K := K) rfl (pv 2)) (fun _ _ _ _ => (zt (i := 0) (show (["gate", "rows", "cut"] : List Str).Nodup by decide +kernel) rfl (Or.inl rfl) (Or.inr rfl))) (fun _ _ _ _ => (acK (yj (K := K) rfl (zm G_is_open hr rfl (zc (pv 1) (zc (pv 2) (zc (pv 0) zh)))) (fun _ => rfl)))) (fun _ _ _ _ => (pv 0)) rfl rfl (fun _ => rfl)))))), ?_⟩
 rintro f xs ⟨rows, wd, cut⟩ hl ⟨rfl, g⟩
 try dsimp only [yf, zq]
 dsimp only at *
 have sl := aco g.h2 g.w2
 refine abe (aa9 (zx (rows, wd) ?_))
 repeat walk_at "dl"
 rintro _ rfl
 refine abe (ya (PEdO.ped (amo (jW (zx (rows, wd) ?_)))))
 repeat walk_at "dl"
 rintro _ rfl
 refine ⟨_, rfl, F2, by rw [aeu, anQ]; exact aou sl (by decide), ?_, ?_⟩
 ·rintro D d ρ' es hd ho hes
  obtain ⟨x, y, rfl⟩ := ak2 hd
  obtain ⟨us, hus, rfl⟩ := ho
  match us, hus with
  | [u1, u2, u3], _ =>
   refine yY rfl (zF (zv (zF (zv (yt (qu ?_))))))
   rw [if_pos rfl]
   have hes' : es.length + 2 <= 1000 := hes
   refine anh (ab6 (aaq (zS (jB (zS (jB (yB ⟨_, rfl, by simp, _, rfl, fun m ρ es2 => (∃ v, ρ = [some (.dat (.int x)), some (.dat (.int y)), v]) /\ es2 = es ++ [jR x y 0, jR x y 1].take m, ⟨⟨_, rfl⟩, by simp⟩, ?_, ?_⟩)))))))
   ·rintro m d ρ2 es2 hd2 ⟨⟨v, rfl⟩, rfl⟩
    have hm : (m = 0 /\ d = .int 0) \/ (m = 1 /\ d = .int 1) := by
     match m, hd2 with
     | 0, h => cases h; exact .inl ⟨rfl, rfl⟩
     | 1, h => cases h; exact .inr ⟨rfl, rfl⟩
     | (q + 2), h => cases h
    rcases hm with ⟨rfl, rfl⟩ | ⟨rfl, rfl⟩
    ·refine zv (qu ?_)
     rw [if_pos rfl]
     refine jn (by simp; omega) ?_
     repeat walk_at "dl"
     simp
     rfl
    ·refine zv (qu ?_)
     rw [if_pos rfl]
     refine jn (by simp; omega) ?_
     repeat walk_at "dl"
     simp
     rfl
   ·rintro ρ2 es2 ⟨⟨v, rfl⟩, rfl⟩
    exact ⟨⟨[_, _, _], rfl, rfl⟩, rfl⟩
 ·rw [show List.flatMap F2 (qK (rows, wd).1.length (rows, wd).2) = (yJ rows.length wd).map gD3 from aeu _ _]
  refine zv (adU (v7 (jW (zw rfl ⟨_, rfl, fun n ρ es => (∃ u, ρ = [u, some (.dat (tab rows)), some (.dat (.int cut))]) /\ es = (((yJ rows.length wd).take n).filter (opG rows wd cut)).map gD3, ⟨⟨_, rfl⟩, rfl⟩, ?_, ?_⟩))))
  ·rintro D n d ρ' es hd ⟨⟨u, rfl⟩, rfl⟩
   rw [aob] at hd
   cases hq : (yJ rows.length wd)[n]? with
   | none => rw [hq] at hd; cases hd
   | some q =>
    rw [hq] at hd
    cases hd
    have tk : (yJ rows.length wd).take (n + 1) = (yJ rows.length wd).take n ++ [q] := by
     rw [aqS, hq]
     rfl
    have len : ((((yJ rows.length wd).take n).filter (opG rows wd cut)).map gD3).length < 1000 := by
     rw [anQ]
     have a1 := apN (opG rows wd cut) ((yJ rows.length wd).take n)
     rw [aoA] at a1
     omega
    refine zv (yW (zx (rows, wd, cut, q.1, q.2.1, q.2.2) ?_))
    unfold gD3 at *
    repeat walk_at "dl"
    rintro _ rfl
    dsimp only
    refine ⟨_, rfl, ?_⟩
    refine yH (fun h => ?_) fun h => ?_
    ·refine jn len ?_
     repeat walk_at "dl"
     rw [tk, apM, aoE, aph, show opG rows wd cut q = true from h, if_pos rfl]
     rfl
    ·refine ⟨⟨_, rfl⟩, ?_⟩
     rw [tk, apM, aoE, aph, show opG rows wd cut q = false from h, if_neg anR]
     simp
  ·rintro ρ' es ⟨_, rfl⟩
   rw [anQ, aoG]
end
open PySem PySem.Spec PyProof.Rows L2
abbrev CC := List (List Int) × Nat × Int × Int × Int
def zX (rows : List (List Int)) (wd : Nat) (x y : Int) : Bool := yv rows wd x y && yv rows wd (x + 1) (y + 1)
def hiB (rows : List (List Int)) (cut x y : Int) : Bool := decide (cut < yN rows x y)
theorem cell_in {rows : List (List Int)} {wd : Nat} {x y : Int} (h : zX rows wd x y = true) : yv rows wd x y = true /\ yv rows wd (x + 1) y = true /\ yv rows wd (x + 1) (y + 1) = true /\ yv rows wd x (y + 1) = true := by
 unfold zX at h
 rw [anZ] at h
 obtain ⟨a0, a1, a2, a3⟩ := aah h.1
 obtain ⟨b0, b1, b2, b3⟩ := aah h.2
 refine ⟨h.1, ?_, h.2, ?_⟩ <;> unfold yv <;> rw [decide_eq_true (by omega), decide_eq_true (by omega)] <;> rfl
section
variable {rows : List (List Int)} {wd : Nat} {cut x y : Int}
theorem agz (h : zX rows wd x y = true) : yI rows wd cut x y 0 = (hiB rows cut x y != hiB rows cut (x + 1) y) := by
 obtain ⟨a, b, c, d⟩ := cell_in h
 unfold yI vy
 show (decide ((0 : Int) = 0 \/ (0 : Int) = 1) && (yv rows wd x y && yv rows wd (x + 1) y) && _) = _
 rw [a, b]
 rfl
theorem ajw (h : zX rows wd x y = true) : yI rows wd cut x y 1 = (hiB rows cut x y != hiB rows cut x (y + 1)) := by
 obtain ⟨a, b, c, d⟩ := cell_in h
 unfold yI vy
 show (decide ((1 : Int) = 0 \/ (1 : Int) = 1) && (yv rows wd x y && yv rows wd x (y + 1)) && _) = _
 rw [a, d]
 rfl
theorem agA (h : zX rows wd x y = true) : yI rows wd cut x (y + 1) 0 = (hiB rows cut x (y + 1) != hiB rows cut (x + 1) (y + 1)) := by
 obtain ⟨a, b, c, d⟩ := cell_in h
 unfold yI vy
 show (decide ((0 : Int) = 0 \/ (0 : Int) = 1) && (yv rows wd x (y + 1) && yv rows wd (x + 1) (y + 1)) && _) = _
 rw [c, d]
 rfl
theorem agB (h : zX rows wd x y = true) : yI rows wd cut (x + 1) y 1 = (hiB rows cut (x + 1) y != hiB rows cut (x + 1) (y + 1)) := by
 obtain ⟨a, b, c, d⟩ := cell_in h
 unfold yI vy
 show (decide ((1 : Int) = 0 \/ (1 : Int) = 1) && (yv rows wd (x + 1) y && yv rows wd (x + 1) (y + 1)) && _) = _
 rw [b, c]
 rfl
end
def cg (x y : Int) : List (Int × Int × Int) := [(x, y, 0), (x, y, 1), (x, y + 1, 0), (x + 1, y, 1)]
def adn (rows : List (List Int)) (wd : Nat) (cut x y : Int) : Bool := (cg x y).all (opG rows wd cut)
def anC (rows : List (List Int)) (x y : Int) : Int := yN rows x y + (yN rows (x + 1) y + (yN rows (x + 1) (y + 1) + (yN rows x (y + 1) + 0)))
def abV (rows : List (List Int)) (cut x y : Int) : Bool := decide (4 * cut + 2 <= anC rows x y)
def pairD (g h : Int × Int × Int) : PyData := .tuple [gD3 g, gD3 h]
section
variable {P : Program} {w : World} {K : anS} {mg : Str -> Option Value} {base : Heap} {k : Nat}
abbrev aft (K : anS) : Sp := spD K 3 (fun (c : List (List Int) × Nat × Int × Int) xs => xs = [.dat (tab c.1), .dat (.int c.2.2.1), .dat (.int c.2.2.2)] /\ Good c.2.1 c.1) fun c r => r = .bool (zX c.1 c.2.1 c.2.2.1 c.2.2.2)
theorem ak4 (F : Def K mg "has_cell" qj ["rows", "x", "y"]) (G_has_point : FnIn P w K mg base k "has_point" ["rows", "x", "y"] (ajq K)) : FnIn P w K mg base (k + 1) "has_cell" ["rows", "x", "y"] (aft K) := by
 refine F.ok aeg rfl fun fa cdv A outer s H E hr => ⟨_, (zp (zB (vi (zm G_has_point hr rfl (zc (pv 0) (zc (pv 1) (zc (pv 2) zh)))) (vV (zm G_has_point hr rfl (zc (pv 0) (zc (zJ yd (pv 1) zj) (zc (zJ yd (pv 2) zj) zh)))))))), ?_⟩
 rintro f xs ⟨rows, wd, x, y⟩ hl ⟨rfl, g⟩
 try dsimp only [yf, zq]
 dsimp only at *
 refine ym (v3 (zx (rows, wd, x, y) ?_))
 repeat walk_at "dl"
 rintro _ rfl
 dsimp only
 refine ⟨_, rfl, ?_⟩
 refine yH (fun h => ?_) fun h => ?_
 ·refine zx (rows, wd, x + 1, y + 1) ?_
  repeat walk_at "dl"
  rintro _ rfl
  dsimp only
  unfold zX
  rw [h, apy]
 ·unfold zX
  rw [h, apJ]
abbrev acp (K : anS) : Sp := spD K 2 (fun (c : Int × Int) xs => xs = [.dat (.int c.1), .dat (.int c.2)]) fun c r => r = .list [.tuple [.int c.1, .int c.2], .tuple [.int (c.1 + 1), .int c.2], .tuple [.int (c.1 + 1), .int (c.2 + 1)], .tuple [.int c.1, .int (c.2 + 1)]]
theorem afu (F : Def K mg "corners" qR ["x", "y"]) : FnIn P w K mg base (k + 1) "corners" ["x", "y"] (acp K) := by
 refine F.ok afn rfl fun fa cdv A outer s H E hr => ⟨_, (zp (zB (yr (zc (zR (zc (pv 0) (zc (pv 1) zh))) (zc (zR (zc (zJ yd (pv 0) zj) (zc (pv 1) zh))) (zc (zR (zc (zJ yd (pv 0) zj) (zc (zJ yd (pv 1) zj) zh))) (zc (zR (zc (pv 0) (zc (zJ yd (pv 1) zj) zh))) zh))))))), ?_⟩
 rintro f xs ⟨x, y⟩ hl rfl
 try dsimp only [yf, zq]
 dsimp only at *
 repeat walk_at "dl"
 rfl
abbrev vS (K : anS) : Sp := spD K 1 (fun (c : Int × Int) xs => xs = [.dat (.tuple [.int c.1, .int c.2])]) fun c r => r = .list ((cg c.1 c.2).map gD3)
theorem ahU (F : Def K mg "cell_gates" jq ["cell"]) : FnIn P w K mg base (k + 1) "cell_gates" ["cell"] (vS K) := by
 refine F.ok sc_cell_gates rfl fun fa cdv A outer s H E hr => ⟨_, (zi (yc (pv 0) (z4 (K := K) (n := 2) rfl rfl (zu (zt (i := 1) sc_cell_gates.nd rfl (Or.inl rfl) (Or.inr rfl)) (zu (zt (i := 2) sc_cell_gates.nd rfl (Or.inl rfl) (Or.inr rfl)) z3)))) (zp (zB (yr (zc (zR (zc (pv 1) (zc (pv 2) (zc zj zh)))) (zc (zR (zc (pv 1) (zc (pv 2) (zc zj zh)))) (zc (zR (zc (pv 1) (zc (zJ yd (pv 2) zj) (zc zj zh)))) (zc (zR (zc (zJ yd (pv 1) zj) (zc (pv 2) (zc zj zh)))) zh)))))))), ?_⟩
 rintro f xs ⟨x, y⟩ hl rfl
 try dsimp only [yf, zq]
 dsimp only at *
 repeat walk_at "dl"
 rfl
abbrev ak5 (c : CC) (xs : List DV) : Prop := xs = [.dat (tab c.1), .dat (.int c.2.2.1), .dat (.tuple [.int c.2.2.2.1, .int c.2.2.2.2])] /\ Good c.2.1 c.1 /\ zX c.1 c.2.1 c.2.2.2.1 c.2.2.2.2 = true
abbrev acq (K : anS) : Sp := spD K 3 ak5 fun c r => r = .bool (adn c.1 c.2.1 c.2.2.1 c.2.2.2.1 c.2.2.2.2)
theorem afv (F : Def K mg "is_crossed" jr ["rows", "cut", "cell"]) (m_all : mg "all" = none) (G_is_open : FnIn P w K mg base k "is_open" ["rows", "cut", "gate"] (abr K)) (G_cell_gates : FnIn P w K mg base k "cell_gates" ["cell"] (vS K)) : FnIn P w K mg base (k + 1) "is_crossed" ["rows", "cut", "cell"] (acq K) := by
 refine F.ok abQ rfl fun fa cdv A outer s H E hr => ⟨_, (zp (zB (zC (v9 (K := K) rfl rfl) rfl m_all aqX (zc (yK (N := ["gate", "rows", "cut"]) (own := 1) (fr := [0, 1]) ⟨rfl, by decide +kernel, of_decide_eq_true (by kernel_rfl), of_decide_eq_true (by kernel_rfl), of_decide_eq_true (by kernel_rfl), rfl⟩ rfl (yM (K := K) rfl (zm G_cell_gates hr rfl (zc (pv 2) zh))) (fun _ _ _ _ => (zt (i := 0) (show (["gate", "rows", "cut"] : List Str).Nodup by decide +kernel) rfl (Or.inl rfl) (Or.inr rfl))) (fun _ _ _ _ => yO) (fun _ _ _ _ => (zm G_is_open hr rfl (zc (pv 1) (zc (pv 2) (zc (pv 0) zh))))) rfl rfl (fun _ => rfl)) zh)))), ?_⟩
 rintro f xs ⟨rows, wd, cut, x, y⟩ hl ⟨rfl, g, hc⟩
 try dsimp only [yf, zq]
 dsimp only at *
 refine ym (aiE (PEdO.ped (ab7 (A := gD3) (B := fun q => PyData.bool (opG rows wd cut q)) (cg x y) (jW (zx (x, y) ?_)))))
 repeat walk_at "dl"
 rintro _ rfl
 refine ⟨_, rfl, rfl, show 4 <= 1000 by decide, ?_, ?_⟩
 ·rintro D q ρ' es hq ho hes
  obtain ⟨u, rfl⟩ := ho.one
  refine zv (qu ?_)
  rw [if_pos rfl]
  refine jn hes (zx (rows, wd, cut, q.1, q.2.1, q.2.2) ?_)
  unfold gD3
  repeat walk_at "dl"
  rintro _ rfl
  exact ⟨.mk1, rfl⟩
 ·refine ⟨(cg x y).map (opG rows wd cut), by rw [ap1]; rfl, ?_⟩
  show PyData.bool _ = PyData.bool _
  unfold adn
  rw [List.all_map]
  rfl
abbrev alM (K : anS) : Sp := spD K 3 ak5 fun c r => r = .bool (abV c.1 c.2.2.1 c.2.2.2.1 c.2.2.2.2)
theorem amZ (F : Def K mg "has_high_middle" yE ["rows", "cut", "cell"]) (m_sum : mg "sum" = none) (G_corners : FnIn P w K mg base k "corners" ["x", "y"] (acp K)) : FnIn P w K mg base (k + 1) "has_high_middle" ["rows", "cut", "cell"] (alM K) := by
 refine F.ok sc_has_high_middle rfl fun fa cdv A outer s H E hr => ⟨_, (zi (yc (pv 2) (z4 (K := K) (n := 2) rfl rfl (zu (zt (i := 3) sc_has_high_middle.nd rfl (Or.inl rfl) (Or.inr rfl)) (zu (zt (i := 4) sc_has_high_middle.nd rfl (Or.inl rfl) (Or.inr rfl)) z3)))) (zp (zB (yR alu (zC (abd (K := K) rfl rfl) rfl m_sum ar3 (zc (yK (N := ["a", "b", "rows"]) (own := 2) (fr := [0]) ⟨rfl, by decide +kernel, of_decide_eq_true (by kernel_rfl), of_decide_eq_true (by kernel_rfl), of_decide_eq_true (by kernel_rfl), rfl⟩ rfl (yM (K := K) rfl (zm G_corners hr rfl (zc (pv 3) (zc (pv 4) zh)))) (fun _ _ _ _ => (z4 (K := K) (n := 2) rfl rfl (zu (zt (i := 0) (show (["a", "b", "rows"] : List Str).Nodup by decide +kernel) rfl (Or.inl rfl) (Or.inr rfl)) (zu (zt (i := 1) (show (["a", "b", "rows"] : List Str).Nodup by decide +kernel) rfl (Or.inl rfl) (Or.inr rfl)) z3)))) (fun _ _ _ _ => yO) (fun _ _ _ _ => (zV (zH (K := K) rfl) (zV (zH (K := K) rfl) (pv 2) (pv 1) (fun _ _ => rfl)) (pv 0) (fun _ _ => rfl))) rfl rfl (fun _ => rfl)) zh)) (zJ yd (zJ aaY zj (pv 1)) zj) (zN _))))), ?_⟩
 rintro f xs ⟨rows, wd, cut, x, y⟩ hl ⟨rfl, g, hc⟩
 try dsimp only [yf, zq]
 dsimp only at *
 obtain ⟨i1, i2, i3, i4⟩ := cell_in hc
 refine z9 (ya (zw rfl (yY rfl (zF (zv (zF (zv (yt ?_))))))))
 refine ym (adL (alE (PEdO.ped (ab7 (A := fun p : Int × Int => PyData.tuple [.int p.1, .int p.2]) (B := fun p : Int × Int => PyData.int (yN rows p.1 p.2)) [(x, y), (x + 1, y), (x + 1, y + 1), (x, y + 1)] (jW (zx (x, y) ?_))))))
 repeat walk_at "dl"
 rintro _ rfl
 refine ⟨_, rfl, rfl, show 4 <= 1000 by decide, ?_, ?_⟩
 ·rintro D p ρ' es hp ho hes
  obtain ⟨u, v, rfl⟩ := ho.two
  have hi : yv rows wd p.1 p.2 = true := by
   simp only [aoa, aoS, or_false] at hp
   rcases hp with rfl | rfl | rfl | rfl
   ·exact i1
   ·exact i2
   ·exact i3
   ·exact i4
  obtain ⟨r, h1, h2⟩ := aer g hi
  refine yY rfl (zF (zv (zF (zv (yt (qu ?_))))))
  rw [if_pos rfl]
  refine jn hes ?_
  unfold tab
  repeat walk_at "dl"
  refine ⟨_, h1, ?_⟩
  repeat walk_at "dl"
  refine ⟨_, h2, ?_⟩
  exact ⟨.mk2, rfl⟩
 ·refine ⟨[yN rows x y, yN rows (x + 1) y, yN rows (x + 1) (y + 1), yN rows x (y + 1)], rfl, ?_⟩
  repeat walk_at "dl"
  rfl
end
open PySem PySem.Spec PyProof.Rows L2
def ado (rows : List (List Int)) (cut x y : Int) : List PyData := if (hiB rows cut x y == abV rows cut x y) = true then [pairD (x, y, 0) (x + 1, y, 1), pairD (x, y, 1) (x, y + 1, 0)] else [pairD (x, y, 0) (x, y, 1), pairD (x, y + 1, 0) (x + 1, y, 1)]
def thr (rows : List (List Int)) (wd : Nat) (cut x y : Int) : List (Int × Int × Int) := (cg x y).filter (opG rows wd cut)
def ajx : List (Int × Int × Int) -> List PyData
 | a :: b :: _ => [pairD a b]
 | _ => []
def agC (rows : List (List Int)) (wd : Nat) (cut x y : Int) : List PyData := if adn rows wd cut x y = true then ado rows cut x y else ajx (thr rows wd cut x y)
theorem ak6 {rows : List (List Int)} {wd : Nat} {cut x y : Int} (h : zX rows wd x y = true) : thr rows wd cut x y = [] \/ ∃ a b r, thr rows wd cut x y = a :: b :: r := by
 have e1 : opG rows wd cut (x, y, 0) = _ := agz (cut := cut) h
 have e2 : opG rows wd cut (x, y, 1) = _ := ajw (cut := cut) h
 have e3 : opG rows wd cut (x, y + 1, 0) = _ := agA (cut := cut) h
 have e4 : opG rows wd cut (x + 1, y, 1) = _ := agB (cut := cut) h
 unfold thr cg
 simp only [aph, e1, e2, e3, e4, ar0]
 cases hiB rows cut x y <;> cases hiB rows cut (x + 1) y <;> cases hiB rows cut (x + 1) (y + 1) <;> cases hiB rows cut x (y + 1) <;> simp
section
variable {P : Program} {w : World} {K : anS} {mg : Str -> Option Value} {base : Heap} {k : Nat}
abbrev aew (K : anS) : Sp := spN K 3 ak5 fun c es => es = ado c.1 c.2.2.1 c.2.2.2.1 c.2.2.2.2
theorem ahV (F : Def K mg "crossed_ties" yU ["rows", "cut", "cell"]) (G_cell_gates : FnIn P w K mg base k "cell_gates" ["cell"] (vS K)) (G_stands_high : FnIn P w K mg base k "stands_high" ["rows", "cut", "point"] (adl K)) (G_has_high_middle : FnIn P w K mg base k "has_high_middle" ["rows", "cut", "cell"] (alM K)) : FnIn P w K mg base (k + 1) "crossed_ties" ["rows", "cut", "cell"] (aew K) := by
 refine F.okN sc_crossed_ties rfl fun fa cdv A outer s H E hr => ⟨_, (zi (yc (zm G_cell_gates hr rfl (zc (pv 2) zh)) (af0 (K := K) (n := 4) rfl rfl (zu (zt (i := 3) sc_crossed_ties.nd rfl (Or.inl rfl) (Or.inr rfl)) (zu (zt (i := 4) sc_crossed_ties.nd rfl (Or.inl rfl) (Or.inr rfl)) (zu (zt (i := 5) sc_crossed_ties.nd rfl (Or.inl rfl) (Or.inr rfl)) (zu (zt (i := 6) sc_crossed_ties.nd rfl (Or.inl rfl) (Or.inr rfl)) z3)))))) (zi (z8 (zL (yy (K := K) rfl hr.units) (zm G_stands_high hr rfl (zc (pv 0) (zc (pv 1) (zc (pv 2) zh)))) (zm G_has_high_middle hr rfl (zc (pv 0) (zc (pv 1) (zc (pv 2) zh)))) (zN _)) (zp (zB (yr (zc (zR (zc (pv 3) (zc (pv 6) zh))) (zc (zR (zc (pv 4) (zc (pv 5) zh))) zh))))) zK) (zp (zB (yr (zc (zR (zc (pv 3) (zc (pv 4) zh))) (zc (zR (zc (pv 5) (zc (pv 6) zh))) zh))))))), ?_⟩
 rintro f xs ⟨rows, wd, cut, x, y⟩ hl ⟨rfl, g, hc⟩
 try dsimp only [yf, zq]
 dsimp only at *
 have hi := (cell_in hc).1
 refine abe (ya (zx (x, y) ?_))
 repeat walk_at "dl"
 rintro _ rfl
 refine alB rfl (zF (zv (zF (zv (zF (zv (zF (zv (yt ?_)))))))))
 refine alF (yw (yV (zx (rows, wd, cut, x, y) ?_)))
 repeat walk_at "dl"
 rintro _ rfl
 refine zx (rows, wd, cut, x, y) ?_
 repeat walk_at "dl"
 rintro _ rfl
 dsimp only
 repeat walk_at "dl"
 rw [if_neg anR, aeq]
 unfold ado
 refine yH (fun h => ?_) fun h => ?_
 ·rw [if_pos (show (hiB rows cut x y == abV rows cut x y) = true from h)]
  refine adT ?_
  repeat walk_at "dl"
  rfl
 ·rw [if_neg (show ¬ (hiB rows cut x y == abV rows cut x y) = true from by rw [show (hiB rows cut x y == abV rows cut x y) = false from h]; exact anR)]
  refine adU (adT ?_)
  repeat walk_at "dl"
  rfl
abbrev agD (K : anS) : Sp := spN K 3 ak5 fun c es => es = agC c.1 c.2.1 c.2.2.1 c.2.2.2.1 c.2.2.2.2
theorem ajy (F : Def K mg "cell_ties" jL ["rows", "cut", "cell"]) (G_is_crossed : FnIn P w K mg base k "is_crossed" ["rows", "cut", "cell"] (acq K)) (G_crossed_ties : FnIn P w K mg base k "crossed_ties" ["rows", "cut", "cell"] (aew K)) (G_cell_gates : FnIn P w K mg base k "cell_gates" ["cell"] (vS K)) (G_is_open : FnIn P w K mg base k "is_open" ["rows", "cut", "gate"] (abr K)) : FnIn P w K mg base (k + 1) "cell_ties" ["rows", "cut", "cell"] (agD K) := by
 refine F.okN sc_cell_ties rfl fun fa cdv A outer s H E hr => ⟨_, (zi (z8 (yj (K := K) rfl (zm G_is_crossed hr rfl (zc (pv 0) (zc (pv 1) (zc (pv 2) zh)))) (fun _ => rfl)) (zp (zB (zm G_crossed_ties hr rfl (zc (pv 0) (zc (pv 1) (zc (pv 2) zh)))))) zK) (zi (adG (i := 3) (N := ["gate", "rows", "cut"]) (own := 1) (fr := [0, 1]) ⟨rfl, by decide +kernel, of_decide_eq_true (by kernel_rfl), of_decide_eq_true (by kernel_rfl), of_decide_eq_true (by kernel_rfl), rfl⟩ rfl sc_cell_ties.nd rfl (Or.inl rfl) (yM (K := K) rfl (zm G_cell_gates hr rfl (zc (pv 2) zh))) (fun _ _ _ _ => (zt (i := 0) (show (["gate", "rows", "cut"] : List Str).Nodup by decide +kernel) rfl (Or.inl rfl) (Or.inr rfl))) (fun _ _ _ _ => (acK (yj (K := K) rfl (zm G_is_open hr rfl (zc (pv 1) (zc (pv 2) (zc (pv 0) zh)))) (fun _ => rfl)))) (fun _ _ _ _ => (pv 0)) rfl rfl (fun _ => rfl) (Or.inl rfl) rfl) (zp (zB (qz (yj (K := K) rfl (pv 3) (fun _ => rfl)) (yr (zc (zR (zc (zV (zH (K := K) rfl) (pv 3) zj (fun _ _ => rfl)) (zc (zV (zH (K := K) rfl) (pv 3) zj (fun _ _ => rfl)) zh))) zh)) (yr zh)))))), ?_⟩
 rintro f xs ⟨rows, wd, cut, x, y⟩ hl ⟨rfl, g, hc⟩
 try dsimp only [yf, zq]
 dsimp only at *
 refine alF (yW (zx (rows, wd, cut, x, y) ?_))
 repeat walk_at "dl"
 rintro _ rfl
 dsimp only
 refine ⟨_, rfl, ?_⟩
 unfold agC
 refine yH (fun h => ?_) fun h => ?_
 ·rw [if_pos h]
  refine abf (rows, wd, cut, x, y) ?_
  repeat walk_at "dl"
  exact fun es he => he
 ·rw [if_neg (by rw [h]; exact anR)]
  refine abe (ya (PEdO.ped (v7 (jW (zx (x, y) ?_)))))
  repeat walk_at "dl"
  rintro _ rfl
  refine ⟨_, rfl, fun n ρ es => (∃ u, ρ = [u, some (.dat (tab rows)), some (.dat (.int cut))]) /\ es = (((cg x y).take n).filter (opG rows wd cut)).map gD3, ⟨⟨_, rfl⟩, rfl⟩, ?_, ?_⟩
  ·rintro D n d ρ' es hd ⟨⟨u, rfl⟩, rfl⟩
   rw [aob] at hd
   cases hq : (cg x y)[n]? with
   | none => rw [hq] at hd; cases hd
   | some q =>
    rw [hq] at hd
    cases hd
    have hn : n < (cg x y).length := (anT.mp hq).1
    have n4 : n < 4 := hn
    have tk : (cg x y).take (n + 1) = (cg x y).take n ++ [q] := by
     rw [aqS, hq]
     rfl
    have len : ((((cg x y).take n).filter (opG rows wd cut)).map gD3).length < 1000 := by
     rw [anQ]
     have a1 := apN (opG rows wd cut) ((cg x y).take n)
     rw [aoA] at a1
     omega
    refine zv (yW (zx (rows, wd, cut, q.1, q.2.1, q.2.2) ?_))
    unfold gD3 at *
    repeat walk_at "dl"
    rintro _ rfl
    dsimp only
    refine ⟨_, rfl, ?_⟩
    refine yH (fun h => ?_) fun h => ?_
    ·refine jn len ?_
     repeat walk_at "dl"
     rw [tk, apM, aoE, aph, show opG rows wd cut q = true from h, if_pos rfl]
     rfl
    ·refine ⟨⟨_, rfl⟩, ?_⟩
     rw [tk, apM, aoE, aph, show opG rows wd cut q = false from h, if_neg anR]
     simp
  ·rintro ρ' es ⟨_, rfl⟩
   rw [anQ, aoG]
   rw [show List.filter (opG rows wd cut) (cg (x, y).1 (x, y).2) = thr rows wd cut x y from rfl]
   rcases ak6 (cut := cut) hc with e | ⟨a, b, r, e⟩
   ·rw [e]
    refine zv (adU (alG (yW (zw rfl ⟨false, rfl, ?_⟩))))
    rw [if_neg anR]
    exact alz rfl
   ·rw [e]
    have h0 : atI ((a :: b :: r).map gD3) 0 = some (gD3 a) := yq (xs := a :: b :: r) (j := 0) rfl (ark _)
    have h1 : atI ((a :: b :: r).map gD3) 1 = some (gD3 b) := yq (xs := a :: b :: r) (j := 1) rfl (Nat.succ_lt_succ (ark _))
    refine zv (adU (alG (yW (zw rfl ⟨true, rfl, ?_⟩))))
    rw [if_pos rfl]
    refine adT ?_
    repeat walk_at "dl"
    refine ⟨_, h0, ?_⟩
    repeat walk_at "dl"
    refine ⟨_, h1, ?_⟩
    repeat walk_at "dl"
    rfl
end
open PySem PySem.Spec PyProof.Rows L2
def opF (A B C D : Bool) (i : Fin 4) : Bool := match i with
 | 0 => A != B
 | 1 => A != D
 | 2 => D != C
 | 3 => B != C
def enF (A B C D : Bool) (i : Fin 4) : Bool := match i with
 | 0 => !A
 | 1 => A
 | 2 => D
 | 3 => !B
def abu (A B C D M : Bool) : List (Fin 4 × Fin 4) :=
 if (opF A B C D 0 && opF A B C D 1 && opF A B C D 2 && opF A B C D 3) = true then (if (A == M) = true then [(0, 3), (1, 2)] else [(0, 1), (2, 3)]) else
 match ([0, 1, 2, 3] : List (Fin 4)).filter (opF A B C D) with
 | a :: b :: _ => [(a, b)]
 | _ => []
def prt {α : Type} [DecidableEq α] (l : List (α × α)) (g : α) : Option α := l.findSome? fun p => if p.1 = g then some p.2 else if p.2 = g then some p.1 else none
theorem ak7 : ∀ (A B C D M : Bool) (i : Fin 4), opF A B C D i = true -> ∃ j, prt (abu A B C D M) i = some j /\ j ≠ i /\ opF A B C D j = true /\ prt (abu A B C D M) j = some i /\ enF A B C D j = !enF A B C D i := by decide
theorem aex : ∀ (A B C D M : Bool), abu A B C D M = [] \/ (∃ a b, a ≠ b /\ abu A B C D M = [(a, b)]) \/ ∃ a b c d, a ≠ b /\ a ≠ c /\ a ≠ d /\ b ≠ c /\ b ≠ d /\ c ≠ d /\ abu A B C D M = [(a, b), (c, d)] := by decide
abbrev Gt := Int × Int × Int
def gt (x y : Int) (i : Fin 4) : Gt := match i with
 | 0 => (x, y, 0)
 | 1 => (x, y, 1)
 | 2 => (x, y + 1, 0)
 | 3 => (x + 1, y, 1)
theorem adp {x y : Int} {i j : Fin 4} (h : gt x y i = gt x y j) : i = j := by
 have h1 : (gt x y i).1 = (gt x y j).1 := by rw [h]
 have h2 : (gt x y i).2.1 = (gt x y j).2.1 := by rw [h]
 have h3 : (gt x y i).2.2 = (gt x y j).2.2 := by rw [h]
 revert h1 h2 h3
 clear h
 match i, j with
 | 0, 0 => intros; rfl
 | 0, 1 => intro _ _ h; simp [gt] at h
 | 0, 2 => intro _ h _; simp [gt] at h; omega
 | 0, 3 => intro _ _ h; simp [gt] at h
 | 1, 0 => intro _ _ h; simp [gt] at h
 | 1, 1 => intros; rfl
 | 1, 2 => intro _ _ h; simp [gt] at h
 | 1, 3 => intro h _ _; simp [gt] at h; omega
 | 2, 0 => intro _ h _; simp [gt] at h; omega
 | 2, 1 => intro _ _ h; simp [gt] at h
 | 2, 2 => intros; rfl
 | 2, 3 => intro _ _ h; simp [gt] at h
 | 3, 0 => intro _ _ h; simp [gt] at h
 | 3, 1 => intro h _ _; simp [gt] at h; omega
 | 3, 2 => intro _ _ h; simp [gt] at h
 | 3, 3 => intros; rfl
theorem agE {α β : Type} [DecidableEq α] [DecidableEq β] {f : α -> β} (inj : ∀ i j, f i = f j -> i = j) (l : List (α × α)) (i : α) : prt (l.map fun p => (f p.1, f p.2)) (f i) = (prt l i).map f := by
 unfold prt
 induction l with
 | nil => rfl
 | cons p l ih =>
  rw [aor, aqE, aqE]
  have e1 : (f p.1 = f i) ↔ p.1 = i := ⟨inj _ _, fun z => by rw [z]⟩
  have e2 : (f p.2 = f i) ↔ p.2 = i := ⟨inj _ _, fun z => by rw [z]⟩
  by_cases h1 : p.1 = i
  ·rw [if_pos h1, if_pos (e1.mpr h1)]; rfl
  ·rw [if_neg h1, if_neg (fun z => h1 (e1.mp z))]
   by_cases h2 : p.2 = i
   ·rw [if_pos h2, if_pos (e2.mpr h2)]; rfl
   ·rw [if_neg h2, if_neg (fun z => h2 (e2.mp z))]; exact ih
section
variable (rows : List (List Int)) (wd : Nat) (cut : Int)
def t4 (x y : Int) : List (Fin 4 × Fin 4) := abu (hiB rows cut x y) (hiB rows cut (x + 1) y) (hiB rows cut (x + 1) (y + 1)) (hiB rows cut x (y + 1)) (abV rows cut x y)
def qb (x y : Int) : List (Gt × Gt) := (t4 rows cut x y).map fun p => (gt x y p.1, gt x y p.2)
def jF (w : Int) (h : Bool) : Int × Int := if w = 0 then (if h = true then (0, -1) else (0, 0)) else (if h = true then (0, 0) else (-1, 0))
def jG (w : Int) (h : Bool) : Int × Int := if w = 0 then (if h = true then (0, 0) else (0, -1)) else (if h = true then (-1, 0) else (0, 0))
def ahC (g : Gt) : Int × Int := (g.1 + (jF g.2.2 (hiB rows cut g.1 g.2.1)).1, g.2.1 + (jF g.2.2 (hiB rows cut g.1 g.2.1)).2)
def bhC (g : Gt) : Int × Int := (g.1 + (jG g.2.2 (hiB rows cut g.1 g.2.1)).1, g.2.1 + (jG g.2.2 (hiB rows cut g.1 g.2.1)).2)
def zQ (g : Gt) : Option Gt := if zX rows wd (ahC rows cut g).1 (ahC rows cut g).2 = true then prt (qb rows cut (ahC rows cut g).1 (ahC rows cut g).2) g else none
def yo (g : Gt) : Option Gt := if zX rows wd (bhC rows cut g).1 (bhC rows cut g).2 = true then prt (qb rows cut (bhC rows cut g).1 (bhC rows cut g).2) g else none
end
section
variable {rows : List (List Int)} {wd : Nat} {cut x y : Int}
theorem aai (h : zX rows wd x y = true) (i : Fin 4) : opG rows wd cut (gt x y i) = opF (hiB rows cut x y) (hiB rows cut (x + 1) y) (hiB rows cut (x + 1) (y + 1)) (hiB rows cut x (y + 1)) i := by
 match i with
 | 0 => exact agz h
 | 1 => exact ajw h
 | 2 => exact agA h
 | 3 => exact agB h
theorem agF (i : Fin 4) : (ahC rows cut (gt x y i) = (x, y) ↔ enF (hiB rows cut x y) (hiB rows cut (x + 1) y) (hiB rows cut (x + 1) (y + 1)) (hiB rows cut x (y + 1)) i = true) /\ (bhC rows cut (gt x y i) = (x, y) ↔ enF (hiB rows cut x y) (hiB rows cut (x + 1) y) (hiB rows cut (x + 1) (y + 1)) (hiB rows cut x (y + 1)) i = false) := by
 unfold ahC bhC
 match i with
 | 0 =>
  show ((x + (jF 0 (hiB rows cut x y)).1, y + (jF 0 (hiB rows cut x y)).2) = (x, y) ↔ (!hiB rows cut x y) = true) /\ ((x + (jG 0 (hiB rows cut x y)).1, y + (jG 0 (hiB rows cut x y)).2) = (x, y) ↔ (!hiB rows cut x y) = false)
  cases hiB rows cut x y <;> simp [jF, jG] <;> omega
 | 1 =>
  show ((x + (jF 1 (hiB rows cut x y)).1, y + (jF 1 (hiB rows cut x y)).2) = (x, y) ↔ hiB rows cut x y = true) /\ ((x + (jG 1 (hiB rows cut x y)).1, y + (jG 1 (hiB rows cut x y)).2) = (x, y) ↔ hiB rows cut x y = false)
  cases hiB rows cut x y <;> simp [jF, jG] <;> omega
 | 2 =>
  show ((x + (jF 0 (hiB rows cut x (y + 1))).1, y + 1 + (jF 0 (hiB rows cut x (y + 1))).2) = (x, y) ↔ hiB rows cut x (y + 1) = true) /\ ((x + (jG 0 (hiB rows cut x (y + 1))).1, y + 1 + (jG 0 (hiB rows cut x (y + 1))).2) = (x, y) ↔ hiB rows cut x (y + 1) = false)
  cases hiB rows cut x (y + 1) <;> simp [jF, jG] <;> omega
 | 3 =>
  show ((x + 1 + (jF 1 (hiB rows cut (x + 1) y)).1, y + (jF 1 (hiB rows cut (x + 1) y)).2) = (x, y) ↔ (!hiB rows cut (x + 1) y) = true) /\ ((x + 1 + (jG 1 (hiB rows cut (x + 1) y)).1, y + (jG 1 (hiB rows cut (x + 1) y)).2) = (x, y) ↔ (!hiB rows cut (x + 1) y) = false)
  cases hiB rows cut (x + 1) y <;> simp [jF, jG] <;> omega
theorem agG (h : zX rows wd x y = true) {i : Fin 4} (o : opG rows wd cut (gt x y i) = true) : ∃ j, prt (qb rows cut x y) (gt x y i) = some (gt x y j) /\ j ≠ i /\ opG rows wd cut (gt x y j) = true /\ prt (qb rows cut x y) (gt x y j) = some (gt x y i) /\
  (ahC rows cut (gt x y i) = (x, y) -> bhC rows cut (gt x y j) = (x, y)) /\ (bhC rows cut (gt x y i) = (x, y) -> ahC rows cut (gt x y j) = (x, y)) := by
 rw [aai h] at o
 obtain ⟨j, h1, h2, h3, h4, h5⟩ := ak7 _ _ _ _ (abV rows cut x y) i o
 have inj : ∀ i j, gt x y i = gt x y j -> i = j := fun _ _ => adp
 refine ⟨j, ?_, h2, by rw [aai h]; exact h3, ?_, fun z => ?_, fun z => ?_⟩
 ·unfold qb t4
  rw [agE inj, h1]
  rfl
 ·unfold qb t4
  rw [agE inj, h4]
  rfl
 ·rw [(agF j).2, h5, (agF i).1.mp z]
  rfl
 ·rw [(agF j).1, h5, (agF i).2.mp z]
  rfl
theorem ajz (g : Gt) (hw : g.2.2 = 0 \/ g.2.2 = 1) : ∃ i, g = gt (ahC rows cut g).1 (ahC rows cut g).2 i := by
 obtain ⟨x, y, w⟩ := g
 unfold ahC
 dsimp only at hw ⊢
 rcases hw with rfl | rfl
 ·cases hiB rows cut x y
  ·exact ⟨0, by simp [jF, gt]⟩
  ·exact ⟨2, by simp [jF, gt]; omega⟩
 ·cases hiB rows cut x y
  ·exact ⟨3, by simp [jF, gt]; omega⟩
  ·exact ⟨1, by simp [jF, gt]⟩
theorem ahW (g : Gt) (hw : g.2.2 = 0 \/ g.2.2 = 1) : ∃ i, g = gt (bhC rows cut g).1 (bhC rows cut g).2 i := by
 obtain ⟨x, y, w⟩ := g
 unfold bhC
 dsimp only at hw ⊢
 rcases hw with rfl | rfl
 ·cases hiB rows cut x y
  ·exact ⟨2, by simp [jG, gt]; omega⟩
  ·exact ⟨0, by simp [jG, gt]⟩
 ·cases hiB rows cut x y
  ·exact ⟨1, by simp [jG, gt]⟩
  ·exact ⟨3, by simp [jG, gt]; omega⟩
theorem aaj {g : Gt} (o : opG rows wd cut g = true) : g.2.2 = 0 \/ g.2.2 = 1 := by
 unfold opG yI vy at o
 rw [anZ, anZ] at o
 exact of_decide_eq_true o.1.1
theorem qZ {g : Gt} (o : opG rows wd cut g = true) (h : zX rows wd (ahC rows cut g).1 (ahC rows cut g).2 = true) : ∃ n, zQ rows wd cut g = some n /\ n ≠ g /\ opG rows wd cut n = true /\ bhC rows cut n = ahC rows cut g /\ yo rows wd cut n = some g := by
 obtain ⟨i, ei⟩ := ajz (rows := rows) (cut := cut) g (aaj o)
 have o' := o
 rw [ei] at o'
 obtain ⟨j, h1, h2, h3, h4, h5, _⟩ := agG h o'
 rw [<- ei] at h1 h4 h5
 have hb := h5 rfl
 refine ⟨gt (ahC rows cut g).1 (ahC rows cut g).2 j, ?_, fun z => h2 (adp (z.trans ei)), h3, hb, ?_⟩
 ·unfold zQ
  rw [if_pos h]
  exact h1
 ·unfold yo
  rw [hb, if_pos h]
  exact h4
theorem aaR {g : Gt} (o : opG rows wd cut g = true) (h : zX rows wd (bhC rows cut g).1 (bhC rows cut g).2 = true) : ∃ n, yo rows wd cut g = some n /\ n ≠ g /\ opG rows wd cut n = true /\ ahC rows cut n = bhC rows cut g /\ zQ rows wd cut n = some g := by
 obtain ⟨i, ei⟩ := ahW (rows := rows) (cut := cut) g (aaj o)
 have o' := o
 rw [ei] at o'
 obtain ⟨j, h1, h2, h3, h4, _, h5⟩ := agG h o'
 rw [<- ei] at h1 h4 h5
 have hb := h5 rfl
 refine ⟨gt (bhC rows cut g).1 (bhC rows cut g).2 j, ?_, fun z => h2 (adp (z.trans ei)), h3, hb, ?_⟩
 ·unfold yo
  rw [if_pos h]
  exact h1
 ·unfold zQ
  rw [hb, if_pos h]
  exact h4
theorem abv {g g' n : Gt} (o : opG rows wd cut g = true) (o' : opG rows wd cut g' = true) (h : zQ rows wd cut g = some n) (h' : zQ rows wd cut g' = some n) : g = g' := by
 have c : zX rows wd (ahC rows cut g).1 (ahC rows cut g).2 = true := by
  unfold zQ at h
  by_cases z : zX rows wd (ahC rows cut g).1 (ahC rows cut g).2 = true
  ·exact z
  ·rw [if_neg z] at h; cases h
 have c' : zX rows wd (ahC rows cut g').1 (ahC rows cut g').2 = true := by
  unfold zQ at h'
  by_cases z : zX rows wd (ahC rows cut g').1 (ahC rows cut g').2 = true
  ·exact z
  ·rw [if_neg z] at h'; cases h'
 obtain ⟨m, a1, _, _, _, a2⟩ := qZ o c
 obtain ⟨m', b1, _, _, _, b2⟩ := qZ o' c'
 rw [h] at a1
 rw [h'] at b1
 cases a1
 cases b1
 rw [a2] at b2
 exact Option.some.inj b2
theorem aak {g n : Gt} (o : opG rows wd cut g = true) (h : zQ rows wd cut g = some n) : opG rows wd cut n = true /\ n ≠ g := by
 have c : zX rows wd (ahC rows cut g).1 (ahC rows cut g).2 = true := by
  unfold zQ at h
  by_cases z : zX rows wd (ahC rows cut g).1 (ahC rows cut g).2 = true
  ·exact z
  ·rw [if_neg z] at h; cases h
 obtain ⟨m, a1, a2, a3, _, _⟩ := qZ o c
 rw [h] at a1
 cases a1
 exact ⟨a3, a2⟩
end
open PySem PySem.Spec PyProof.Rows L2
section
variable {P : Program} {w : World} {K : anS} {mg : Str -> Option Value} {base : Heap} {k : Nat}
abbrev afw (K : anS) : Sp := spD K 3 (fun (c : List (List Int) × Nat × Int × Int × Int × Int) xs => xs = [.dat (tab c.1), .dat (.int c.2.2.1), .dat (jR c.2.2.2.1 c.2.2.2.2.1 c.2.2.2.2.2)] /\ Good c.2.1 c.1 /\ yv c.1 c.2.1 c.2.2.2.1 c.2.2.2.2.1 = true) fun c r => r = .str (acn c.1 c.2.2.1 c.2.2.2.1 c.2.2.2.2.1 c.2.2.2.2.2)
theorem afx (F : Def K mg "heading" qT ["rows", "cut", "gate"]) (G_stands_high : FnIn P w K mg base k "stands_high" ["rows", "cut", "point"] (adl K)) : FnIn P w K mg base (k + 1) "heading" ["rows", "cut", "gate"] (afw K) := by
 refine F.ok sc_heading rfl fun fa cdv A outer s H E hr => ⟨_, (zi (yc (pv 2) (z4 (K := K) (n := 3) rfl rfl (zu (zt (i := 3) sc_heading.nd rfl (Or.inl rfl) (Or.inr rfl)) (zu (zt (i := 4) sc_heading.nd rfl (Or.inl rfl) (Or.inr rfl)) (zu (zt (i := 5) sc_heading.nd rfl (Or.inl rfl) (Or.inr rfl)) z3))))) (zi (zM (i := 6) sc_heading.nd rfl (Or.inl rfl) (zm G_stands_high hr rfl (zc (pv 0) (zc (pv 1) (zc (zR (zc (pv 3) (zc (pv 4) zh))) zh))))) (zi (z8 (zL (yy (K := K) rfl hr.units) (pv 5) zj (zN _)) (zp (zB (qz (yj (K := K) rfl (pv 6) (fun _ => rfl)) y3 y3))) zK) (zp (zB (qz (yj (K := K) rfl (pv 6) (fun _ => rfl)) y3 y3)))))), ?_⟩
 rintro f xs ⟨rows, wd, cut, x, y, w⟩ hl ⟨rfl, g, hi⟩
 try dsimp only [yf, zq]
 dsimp only at *
 unfold jR
 refine z9 (ya (zw rfl (yY rfl (zF (zv (zF (zv (zF (zv (yt ?_))))))))))
 refine z9 (ya (zx (rows, wd, cut, x, y) ?_))
 repeat walk_at "dl"
 rintro _ rfl
 dsimp only
 repeat walk_at "dl"
 rw [if_neg anR, adk]
 unfold acn
 refine yH (fun h => ?_) fun h => ?_
 ·have h' := of_decide_eq_true h
  rw [if_pos h']
  repeat walk_at "dl"
  refine yH (fun h2 => ?_) fun h2 => ?_
  ·repeat walk_at "dl"
   rw [if_pos (of_decide_eq_true h2)]
  ·repeat walk_at "dl"
   rw [if_neg (of_decide_eq_false h2)]
 ·have h' := of_decide_eq_false h
  rw [if_neg h']
  repeat walk_at "dl"
  refine yH (fun h2 => ?_) fun h2 => ?_
  ·repeat walk_at "dl"
   rw [if_pos (of_decide_eq_true h2)]
  ·repeat walk_at "dl"
   rw [if_neg (of_decide_eq_false h2)]
end
open PySem PySem.Spec PyProof.Rows L2
abbrev am0 : List (Str × List Int) := [("down", [0, 0]), ("up", [0, -1]), ("right", [0, 0]), ("left", [-1, 0])]
abbrev ajA : List (Str × List Int) := [("down", [0, -1]), ("up", [0, 0]), ("right", [-1, 0]), ("left", [0, 0])]
theorem am1 {rows : List (List Int)} {cut x y w : Int} (hw : w = 0 \/ w = 1) : asj (acn rows cut x y w) am0 = some [(jF w (hiB rows cut x y)).1, (jF w (hiB rows cut x y)).2] := by
 unfold acn jF hiB
 rcases hw with rfl | rfl
 ·by_cases h : cut < yN rows x y
  ·rw [if_pos rfl, if_pos h, if_pos rfl, decide_eq_true h, if_pos rfl]; decide +kernel
  ·rw [if_pos rfl, if_neg h, if_pos rfl, decide_eq_false h, if_neg anR]; decide +kernel
 ·have e : ¬ ((1 : Int) = 0) := by decide
  by_cases h : cut < yN rows x y
  ·rw [if_neg e, if_pos h, if_neg e, decide_eq_true h, if_pos rfl]; decide +kernel
  ·rw [if_neg e, if_neg h, if_neg e, decide_eq_false h, if_neg anR]; decide +kernel
theorem am2 {rows : List (List Int)} {cut x y w : Int} (hw : w = 0 \/ w = 1) : asj (acn rows cut x y w) ajA = some [(jG w (hiB rows cut x y)).1, (jG w (hiB rows cut x y)).2] := by
 unfold acn jG hiB
 rcases hw with rfl | rfl
 ·by_cases h : cut < yN rows x y
  ·rw [if_pos rfl, if_pos h, if_pos rfl, decide_eq_true h, if_pos rfl]; decide +kernel
  ·rw [if_pos rfl, if_neg h, if_pos rfl, decide_eq_false h, if_neg anR]; decide +kernel
 ·have e : ¬ ((1 : Int) = 0) := by decide
  by_cases h : cut < yN rows x y
  ·rw [if_neg e, if_pos h, if_neg e, decide_eq_true h, if_pos rfl]; decide +kernel
  ·rw [if_neg e, if_neg h, if_neg e, decide_eq_false h, if_neg anR]; decide +kernel
theorem ajB {rows : List (List Int)} {wd : Nat} {cut : Int} {g : Gt} (o : opG rows wd cut g = true) : yv rows wd g.1 g.2.1 = true := by
 unfold opG yI vy at o
 rw [anZ, anZ, anZ] at o
 exact o.1.2.1
section
variable {P : Program} {w : World} {K : anS} {mg : Str -> Option Value} {base : Heap} {k : Nat}
abbrev GO := List (List Int) × Nat × Int × Gt
abbrev ak8 (c : GO) (xs : List DV) : Prop := xs = [.dat (tab c.1), .dat (.int c.2.2.1), .dat (gD3 c.2.2.2)] /\ Good c.2.1 c.1 /\ opG c.1 c.2.1 c.2.2.1 c.2.2.2 = true
abbrev aey (K : anS) : Sp := spD K 3 ak8 fun c r => r = .tuple [.int (ahC c.1 c.2.2.1 c.2.2.2).1, .int (ahC c.1 c.2.2.1 c.2.2.2).2]
theorem ahX {C_AHEAD : Addr} (F : Def K mg "cell_ahead" jt ["rows", "cut", "gate"]) (m_AHEAD : mg "AHEAD" = some (.ref C_AHEAD)) (tab_AHEAD : ahy K C_AHEAD am0 = true) (G_heading : FnIn P w K mg base k "heading" ["rows", "cut", "gate"] (afw K)) : FnIn P w K mg base (k + 1) "cell_ahead" ["rows", "cut", "gate"] (aey K) := by
 refine F.ok sc_cell_ahead rfl fun fa cdv A outer s H E hr => ⟨_, (zi (yc (ai4 (K := K) rfl rfl m_AHEAD tab_AHEAD (zm G_heading hr rfl (zc (pv 0) (zc (pv 1) (zc (pv 2) zh)))) (fun _ _ => rfl)) (z4 (K := K) (n := 2) rfl rfl (zu (zt (i := 3) sc_cell_ahead.nd rfl (Or.inl rfl) (Or.inr rfl)) (zu (zt (i := 4) sc_cell_ahead.nd rfl (Or.inl rfl) (Or.inr rfl)) z3)))) (zp (zB (zR (zc (zJ yd (zV (yx (K := K) rfl) (pv 2) zj (fun _ _ => rfl)) (pv 3)) (zc (zJ yd (zV (yx (K := K) rfl) (pv 2) zj (fun _ _ => rfl)) (pv 4)) zh)))))), ?_⟩
 rintro f xs ⟨rows, wd, cut, x, y, w⟩ hl ⟨rfl, g, o⟩
 try dsimp only [yf, zq]
 dsimp only at *
 have hw := aaj o
 have hin := ajB o
 refine z9 (ya (alI (zx (rows, wd, cut, x, y, w) ?_)))
 unfold gD3 at *
 repeat walk_at "dl"
 rintro _ rfl
 refine ⟨_, _, rfl, am1 hw, ?_⟩
 refine yY rfl (zF (zv (zF (zv (yt ?_)))))
 repeat walk_at "dl"
 rfl
abbrev adq (K : anS) : Sp := spD K 3 ak8 fun c r => r = .bool (!zX c.1 c.2.1 (bhC c.1 c.2.2.1 c.2.2.2).1 (bhC c.1 c.2.2.1 c.2.2.2).2)
theorem ajC {C_BEHIND : Addr} (F : Def K mg "comes_in" ql ["rows", "cut", "gate"]) (m_BEHIND : mg "BEHIND" = some (.ref C_BEHIND)) (tab_BEHIND : ahy K C_BEHIND ajA = true) (G_heading : FnIn P w K mg base k "heading" ["rows", "cut", "gate"] (afw K)) (G_has_cell : FnIn P w K mg base k "has_cell" ["rows", "x", "y"] (aft K)) : FnIn P w K mg base (k + 1) "comes_in" ["rows", "cut", "gate"] (adq K) := by
 refine F.ok sc_comes_in rfl fun fa cdv A outer s H E hr => ⟨_, (zi (yc (ai4 (K := K) rfl rfl m_BEHIND tab_BEHIND (zm G_heading hr rfl (zc (pv 0) (zc (pv 1) (zc (pv 2) zh)))) (fun _ _ => rfl)) (z4 (K := K) (n := 2) rfl rfl (zu (zt (i := 3) sc_comes_in.nd rfl (Or.inl rfl) (Or.inr rfl)) (zu (zt (i := 4) sc_comes_in.nd rfl (Or.inl rfl) (Or.inr rfl)) z3)))) (zp (zB (alW (zm G_has_cell hr rfl (zc (pv 0) (zc (zJ yd (zV (yx (K := K) rfl) (pv 2) zj (fun _ _ => rfl)) (pv 3)) (zc (zJ yd (zV (yx (K := K) rfl) (pv 2) zj (fun _ _ => rfl)) (pv 4)) zh)))))))), ?_⟩
 rintro f xs ⟨rows, wd, cut, x, y, w⟩ hl ⟨rfl, g, o⟩
 try dsimp only [yf, zq]
 dsimp only at *
 have hw := aaj o
 have hin := ajB o
 refine z9 (ya (alI (zx (rows, wd, cut, x, y, w) ?_)))
 unfold gD3 at *
 repeat walk_at "dl"
 rintro _ rfl
 refine ⟨_, _, rfl, am2 hw, ?_⟩
 refine yY rfl (zF (zv (zF (zv (yt ?_)))))
 repeat walk_at "dl"
 refine zx (rows, wd, (bhC rows cut (x, y, w)).1, (bhC rows cut (x, y, w)).2) ?_
 repeat walk_at "dl"
 rintro _ rfl
 exact ⟨_, rfl, rfl⟩
noncomputable def vh : List (Gt × Gt) -> List (PyData × PyData) -> List (PyData × PyData)
 | [], kvs => kvs
 | p :: l, kvs => vh l (dput (gD3 p.2) (gD3 p.1) (dput (gD3 p.1) (gD3 p.2) kvs))
theorem afy (l : List (Gt × Gt)) (p : Gt × Gt) : ∀ kvs, vh (l ++ [p]) kvs = dput (gD3 p.2) (gD3 p.1) (dput (gD3 p.1) (gD3 p.2) (vh l kvs)) := by
 induction l with
 | nil => intro kvs; rfl
 | cons q l ih => intro kvs; exact ih _
theorem abw (a b : PyData) (kvs : List (PyData × PyData)) : (dput a b kvs).length <= kvs.length + 1 := by
 unfold dput
 split
 ·rw [anQ]; omega
 ·rw [aoh]; exact anW _
theorem ahY (l : List (Gt × Gt)) : ∀ kvs, (vh l kvs).length <= kvs.length + 2 * l.length := by
 induction l with
 | nil => intro kvs; exact anW _
 | cons q l ih =>
  intro kvs
  have h1 := ih (dput (gD3 q.2) (gD3 q.1) (dput (gD3 q.1) (gD3 q.2) kvs))
  have h2 := abw (gD3 q.2) (gD3 q.1) (dput (gD3 q.1) (gD3 q.2) kvs)
  have h3 := abw (gD3 q.1) (gD3 q.2) kvs
  show (vh l _).length <= _
  rw [aoe]
  omega
theorem ads {a b : Gt} (h : gD3 a = gD3 b) : a = b := by
 obtain ⟨x, y, w⟩ := a
 obtain ⟨x', y', w'⟩ := b
 unfold gD3 jR at h
 simp at h
 simp [h]
theorem ajD {rows : List (List Int)} {wd : Nat} {cut x y : Int} (h : zX rows wd x y = true) : agC rows wd cut x y = (qb rows cut x y).map fun p => pairD p.1 p.2 := by
 have e0 : opG rows wd cut (x, y, 0) = _ := aai (cut := cut) h 0
 have e1 : opG rows wd cut (x, y, 1) = _ := aai (cut := cut) h 1
 have e2 : opG rows wd cut (x, y + 1, 0) = _ := aai (cut := cut) h 2
 have e3 : opG rows wd cut (x + 1, y, 1) = _ := aai (cut := cut) h 3
 unfold agC qb t4 adn ado thr cg abu
 simp only [aso, List.all_nil, aph, ar0, e0, e1, e2, e3, aq2]
 generalize abV rows cut x y = M
 generalize hiB rows cut x y = A
 generalize hiB rows cut (x + 1) y = B
 generalize hiB rows cut (x + 1) (y + 1) = C
 generalize hiB rows cut x (y + 1) = D
 cases A <;> cases B <;> cases C <;> cases D <;> cases M <;> rfl
theorem ajE {rows : List (List Int)} {cut x y : Int} {g n : Gt} (h : prt (qb rows cut x y) g = some n) : vK (gD3 g) (vh (qb rows cut x y) []) = some (gD3 n) := by
 have key : ∀ a b : Gt, a ≠ b -> gD3 a ≠ gD3 b := fun a b ne z => ne (ads z)
 have inj : ∀ i j : Fin 4, i ≠ j -> gt x y i ≠ gt x y j := fun i j ne z => ne (adp z)
 unfold qb t4 at h ⊢
 rcases aex (hiB rows cut x y) (hiB rows cut (x + 1) y) (hiB rows cut (x + 1) (y + 1)) (hiB rows cut x (y + 1)) (abV rows cut x y) with e | ⟨a, b, n1, e⟩ | ⟨a, b, c, d, n1, n2, n3, n4, n5, n6, e⟩
 ·rw [e] at h; cases h
 ·rw [e] at h ⊢
  have k1 := key _ _ (inj a b n1)
  have k1' := ape k1
  simp only [aor, arj, vh] at h ⊢
  unfold prt at h
  simp only [aqE, List.findSome?_nil] at h
  by_cases c1 : gt x y a = g
  ·rw [if_pos c1] at h
   cases h
   simp [dput, vK, k1, k1', <- c1]
  ·rw [if_neg c1] at h
   by_cases c2 : gt x y b = g
   ·rw [if_pos c2] at h
    cases h
    simp [dput, vK, k1, k1', <- c2]
   ·rw [if_neg c2] at h; cases h
 ·rw [e] at h ⊢
  have k1 := key _ _ (inj a b n1)
  have k2 := key _ _ (inj a c n2)
  have k3 := key _ _ (inj a d n3)
  have k4 := key _ _ (inj b c n4)
  have k5 := key _ _ (inj b d n5)
  have k6 := key _ _ (inj c d n6)
  have j1 := ape k1
  have j2 := ape k2
  have j3 := ape k3
  have j4 := ape k4
  have j5 := ape k5
  have j6 := ape k6
  simp only [aor, arj, vh] at h ⊢
  unfold prt at h
  simp only [aqE, List.findSome?_nil] at h
  by_cases c1 : gt x y a = g
  ·rw [if_pos c1] at h
   cases h
   simp [dput, vK, k1, k2, k3, k4, k5, k6, j1, j2, j3, j4, j5, j6, <- c1]
  ·rw [if_neg c1] at h
   by_cases c2 : gt x y b = g
   ·rw [if_pos c2] at h
    cases h
    simp [dput, vK, k1, k2, k3, k4, k5, k6, j1, j2, j3, j4, j5, j6, <- c2]
   ·rw [if_neg c2] at h
    by_cases c3 : gt x y c = g
    ·rw [if_pos c3] at h
     cases h
     simp [dput, vK, k1, k2, k3, k4, k5, k6, j1, j2, j3, j4, j5, j6, <- c3]
    ·rw [if_neg c3] at h
     by_cases c4 : gt x y d = g
     ·rw [if_pos c4] at h
      cases h
      simp [dput, vK, k1, k2, k3, k4, k5, k6, j1, j2, j3, j4, j5, j6, <- c4]
     ·rw [if_neg c4] at h; cases h
def aaG : Option Gt -> PyData
 | none => .none
 | some g => gD3 g
abbrev abx (K : anS) : Sp := spD K 3 ak8 fun c r => r = aaG (zQ c.1 c.2.1 c.2.2.1 c.2.2.2)
theorem qL (g : Gt) : abN (gD3 g) := ⟨⟨rfl, ar4 rfl⟩, _, rfl⟩
theorem ak9 (F : Def K mg "gate_ahead" ju ["rows", "cut", "gate"]) (G_cell_ahead : FnIn P w K mg base k "cell_ahead" ["rows", "cut", "gate"] (aey K)) (G_has_cell : FnIn P w K mg base k "has_cell" ["rows", "x", "y"] (aft K)) (G_cell_ties : FnIn P w K mg base k "cell_ties" ["rows", "cut", "cell"] (agD K)) :
  FnIn P w K mg base (k + 1) "gate_ahead" ["rows", "cut", "gate"] (abx K) := by
 refine F.ok sc_gate_ahead rfl fun fa cdv A outer s H E hr => ⟨_, (zi (yc (zm G_cell_ahead hr rfl (zc (pv 0) (zc (pv 1) (zc (pv 2) zh)))) (z4 (K := K) (n := 2) rfl rfl (zu (zt (i := 3) sc_gate_ahead.nd rfl (Or.inl rfl) (Or.inr rfl)) (zu (zt (i := 4) sc_gate_ahead.nd rfl (Or.inl rfl) (Or.inr rfl)) z3)))) (zi (z8 (qd (yj (K := K) rfl (zm G_has_cell hr rfl (zc (pv 0) (zc (pv 3) (zc (pv 4) zh)))) (fun _ => rfl))) (zp (zB vU)) zK) (zi (zM (i := 5) sc_gate_ahead.nd rfl (Or.inl rfl) (aaf (w := w) rfl)) (zi (jz aoU rfl (yM (K := K) rfl (zm G_cell_ties hr rfl (zc (pv 0) (zc (pv 1) (zc (zR (zc (pv 3) (zc (pv 4) zh))) zh))))) (z4 (K := K) (n := 2) rfl rfl (zu (zt (i := 6) sc_gate_ahead.nd rfl (Or.inl rfl) (Or.inr rfl)) (zu (zt (i := 7) sc_gate_ahead.nd rfl (Or.inl rfl) (Or.inr rfl)) z3))) (zi (yc (pv 7) (jT (pv 5) (pv 6) (vJ (w := w) (K := K) rfl rfl hr.units))) (zp (yc (pv 6) (jT (pv 5) (pv 7) (vJ (w := w) (K := K) rfl rfl hr.units)))))) (zp (zB (zV (akC (w := w) (K := K) rfl rfl hr.units) (pv 5) (pv 2) (fun _ _ => rfl)))))))), ?_⟩
 rintro f xs ⟨rows, wd, cut, g⟩ hl ⟨rfl, gd, o⟩
 try dsimp only [yf, zq]
 dsimp only at *
 refine z9 (ya (zx (rows, wd, cut, g) ?_))
 repeat walk_at "dl"
 rintro _ rfl
 dsimp only
 refine yY rfl (zF (zv (zF (zv (yt ?_)))))
 refine z9 (aeW (vB (yW (zx (rows, wd, (ahC rows cut g).1, (ahC rows cut g).2) ?_))))
 repeat walk_at "dl"
 rintro _ rfl
 refine ⟨_, rfl, ?_⟩
 dsimp only
 refine yH (fun h => ?_) fun h => ?_
 ·have hc : zX rows wd (ahC rows cut g).1 (ahC rows cut g).2 = false := by simpa using h
  repeat walk_at "dl"
  unfold zQ
  rw [hc, if_neg anR]
  rfl
 ·have hc : zX rows wd (ahC rows cut g).1 (ahC rows cut g).2 = true := by simpa using h
  obtain ⟨n, hn, _⟩ := qZ o hc
  have hp : prt (qb rows cut (ahC rows cut g).1 (ahC rows cut g).2) g = some n := by
   unfold zQ at hn
   rw [if_pos hc] at hn
   exact hn
  have tl : (qb rows cut (ahC rows cut g).1 (ahC rows cut g).2).length <= 2 := by
   unfold qb t4
   rw [anQ]
   rcases aex (hiB rows cut (ahC rows cut g).1 (ahC rows cut g).2) (hiB rows cut ((ahC rows cut g).1 + 1) (ahC rows cut g).2) (hiB rows cut ((ahC rows cut g).1 + 1) ((ahC rows cut g).2 + 1)) (hiB rows cut (ahC rows cut g).1 ((ahC rows cut g).2 + 1)) (abV rows cut (ahC rows cut g).1 (ahC rows cut g).2) with e | ⟨a, b, n1, e⟩ | ⟨a, b, c, d, n1, n2, n3, n4, n5, n6, e⟩ <;> rw [e] <;> simp
  refine yX (aae (w := w) (acf (afc ⟨show 5 < 8 by decide, fun D => ?_⟩)))
  refine yD (aax (jW (PEdO.ped (abf (rows, wd, cut, (ahC rows cut g).1, (ahC rows cut g).2) ?_))))
  repeat walk_at "dl"
  rintro _ rfl
  dsimp only
  rw [ajD hc]
  refine ⟨_, rfl, fun i ρ cs => (∃ u v, ρ = [some (.dat (tab rows)), some (.dat (.int cut)), some (.dat (gD3 g)), some (.dat (.int (ahC rows cut g).1)), some (.dat (.int (ahC rows cut g).2)), some (.own (f.M.length + 0)), u, v]) /\ cs = [.dic (vh ((qb rows cut (ahC rows cut g).1 (ahC rows cut g).2).take i) [])], ⟨⟨_, _, rfl⟩, rfl⟩, ?_, ?_⟩
  ·rintro i d _ _ hd ⟨⟨u, v, rfl⟩, rfl⟩
   rw [aob] at hd
   cases hq : (qb rows cut (ahC rows cut g).1 (ahC rows cut g).2)[i]? with
   | none => rw [hq] at hd; cases hd
   | some q =>
    rw [hq] at hd
    cases hd
    have tk : (qb rows cut (ahC rows cut g).1 (ahC rows cut g).2).take (i + 1) = (qb rows cut (ahC rows cut g).1 (ahC rows cut g).2).take i ++ [q] := by
     rw [aqS, hq]
     rfl
    have hl := ahY ((qb rows cut (ahC rows cut g).1 (ahC rows cut g).2).take i) []
    rw [aoA] at hl
    simp only [apW] at hl
    refine yY rfl (zF (zv (zF (zv (yt ?_)))))
    refine yD (agn (i := 5) (j := 0) rfl rfl (by omega) ?_)
    repeat walk_at "dl"
    refine ⟨qL _, ?_⟩
    have hl2 := abw (gD3 q.1) (gD3 q.2) (vh ((qb rows cut (ahC rows cut g).1 (ahC rows cut g).2).take i) [])
    refine agn (i := 5) (j := 0) rfl rfl (by omega) ?_
    repeat walk_at "dl"
    refine ⟨qL _, ⟨_, _, rfl⟩, ?_⟩
    rw [tk, afy]
    rfl
  ·rintro _ _ ⟨⟨u, v, rfl⟩, rfl⟩
   rw [anQ, aoG]
   refine anw (anv (i := 5) (j := 0) rfl rfl (vc (zw rfl ⟨qL _, _, ajE hp, ?_⟩)))
   show gD3 n = aaG (zQ rows wd cut g)
   rw [hn]
   rfl
end
open PySem PySem.Spec PyProof.Rows L2
theorem agH {α : Type} [DecidableEq α] : ∀ (l m : List α), l.Nodup -> (∀ x ∈ l, x ∈ m) -> m.length <= l.length -> ∀ x ∈ m, x ∈ l
 | [], m, _, _, hl, x, hx => by
  have : m = [] := List.length_eq_zero_iff.mp (Nat.le_zero.mp hl)
  rw [this] at hx
  exact hx
 | a :: l, m, nd, sub, hl, x, hx => by
  have ha := sub a (an0 ..)
  have hn := aoY.mp nd
  have le := ap6 ha
  rw [aoe] at hl
  by_cases e : x = a
  ·rw [e]; exact an0 ..
  ·refine anY _ (agH l (m.erase a) hn.2 (fun y hy => ?_) (by omega) x ((aq5 e).mpr hx))
   exact (aq5 (fun (z : y = a) => hn.1 (z ▸ hy))).mpr (sub y (anY _ hy))
theorem len_sub {α : Type} [DecidableEq α] : ∀ (l m : List α), l.Nodup -> (∀ x ∈ l, x ∈ m) -> l.length <= m.length
 | [], m, _, _ => aoI _
 | a :: l, m, nd, sub => by
  have ha := sub a (an0 ..)
  have hn := aoY.mp nd
  have le := ap6 ha
  have hp : 0 < m.length := arX ha
  have := len_sub l (m.erase a) hn.2 (fun y hy => (aq5 (fun (z : y = a) => hn.1 (z ▸ hy))).mpr (sub y (anY _ hy)))
  rw [aoe]
  omega
theorem perm_map_inv {α β : Type} {f : α -> β} {l1 l2 : List β} (h : l1.Perm l2) : ∀ ts : List α, l2 = ts.map f -> ∃ us : List α, us.Perm ts /\ l1 = us.map f := by
 induction h with
 | nil => intro ts e; exact ⟨ts, .refl _, e⟩
 | cons x _ ih =>
  intro ts e
  cases ts with
  | nil => cases e
  | cons t ts =>
   rw [aor] at e
   injection e with e1 e2
   obtain ⟨us, p, q⟩ := ih ts e2
   exact ⟨t :: us, .cons t p, by rw [aor, <- q, e1]⟩
 | swap x y l =>
  intro ts e
  match ts, e with
  | [], e => cases e
  | [_], e => cases e
  | a :: b :: ts, e =>
   simp only [aor] at e
   injection e with e1 e2
   injection e2 with e2 e3
   exact ⟨b :: a :: ts, .swap a b ts, by rw [aor, aor, e1, e2, e3]⟩
 | trans _ _ ih1 ih2 =>
  intro ts e
  obtain ⟨us, p, q⟩ := ih2 ts e
  obtain ⟨vs, p2, q2⟩ := ih1 us q
  exact ⟨vs, p2.trans p, q2⟩
section
variable (rows : List (List Int)) (wd : Nat) (cut : Int)
structure LineOk (ring : Bool) (l : List Gt) : Prop where
 op : ∀ g ∈ l, opG rows wd cut g = true
 nd : l.Nodup
 ch : ∀ (i : Nat) a b, l[i]? = some a -> l[i + 1]? = some b -> zQ rows wd cut a = some b
 ne : l ≠ []
 last : ∀ g, l.getLast? = some g -> zQ rows wd cut g = if ring = true then l.head? else none
structure WalkOk (s : Gt) (l : List Gt) : Prop where
 op : ∀ g ∈ l, opG rows wd cut g = true
 nd : l.Nodup
 ch : ∀ (i : Nat) a b, l[i]? = some a -> l[i + 1]? = some b -> zQ rows wd cut a = some b
 hd : l.head? = some s
end
section
variable {rows : List (List Int)} {wd : Nat} {cut : Int}
theorem ahZ {t n : Nat} {x y w : Int} (hx : 0 <= x /\ x < n) (hy : 0 <= y /\ y < t) (hw : w = 0 \/ w = 1) : (x, y, w) ∈ yJ t n := by
 obtain ⟨a, rfl⟩ := api hx.1
 obtain ⟨b, rfl⟩ := api hy.1
 refine aoC.mpr ⟨a, aoK.mpr (by omega), aoC.mpr ⟨b, aoK.mpr (by omega), ?_⟩⟩
 rcases hw with rfl | rfl
 ·exact an0 ..
 ·exact anY _ (an0 ..)
theorem ala {g : Gt} (o : opG rows wd cut g = true) : yv rows wd g.1 g.2.1 = true := by
 unfold opG yI vy at o
 rw [anZ, anZ, anZ] at o
 exact o.1.2.1
theorem mem_gates {g : Gt} : g ∈ zG rows wd cut ↔ opG rows wd cut g = true := by
 rw [j9, apU]
 refine ⟨fun h => h.2, fun o => ⟨?_, o⟩⟩
 obtain ⟨x, y, w⟩ := g
 have hw := aaj o
 obtain ⟨a, b, c, d⟩ := aah (ala o)
 exact ahZ ⟨a, b⟩ ⟨c, d⟩ hw
theorem gates_nd : (zG rows wd cut).Nodup := by
 rw [j9]
 refine ((aev _ _).filter _).imp fun {a b} h e => ?_
 subst e
 unfold gLt at h
 omega
theorem aby {l : List Gt} (gd : Good wd rows) (o : ∀ g ∈ l, opG rows wd cut g = true) (nd : l.Nodup) : l.length <= 98 :=
 aou (len_sub l (zG rows wd cut) nd fun x hx => mem_gates.mpr (o x hx)) (qa gd)
theorem ajF {s : Gt} (o : opG rows wd cut s = true) : WalkOk rows wd cut s [s] :=
 ⟨fun g hg => by rw [aom.mp hg]; exact o, aoY.mpr ⟨aoS, ao4⟩, fun i a b _ h => (nomatch h), rfl⟩
theorem ah0 {s n g : Gt} {l : List Gt} (W : WalkOk rows wd cut s l) (hl : l.getLast? = some g) (hn : zQ rows wd cut g = some n) (ne : n ≠ s) : WalkOk rows wd cut s (l ++ [n]) := by
 have hg : g ∈ l := asl hl
 have hli : l[l.length - 1]? = some g := by rw [<- apS]; exact hl
 have pos : 0 < l.length := arX hg
 have hnew : n ∉ l := fun hm => by
  obtain ⟨i, hi⟩ := aoJ hm
  match i, hi with
  | 0, hi =>
   have := W.hd
   rw [aoX, hi] at this
   exact ne (Option.some.inj this)
  | i + 1, hi =>
   obtain ⟨hlt, _⟩ := anT.mp hi
   have hi' : l[i]? = some l[i] := anP (by omega)
   have hc := W.ch i _ _ hi' hi
   have e := abv (W.op _ (aof hi')) (W.op _ hg) hc hn
   rw [e, <- hli] at hi'
   have := (List.getElem?_inj (by omega) W.nd).mp hi'
   omega
 refine ⟨fun x hx => ?_, ?_, fun i a b ha hb => ?_, ?_⟩
 ·rcases aop.mp hx with h | h
  ·exact W.op x h
  ·rw [aom.mp h]; exact (aak (W.op g hg) hn).1
 ·refine ao1.mpr ⟨W.nd, aoY.mpr ⟨aoS, ao4⟩, fun a ha b hb e => ?_⟩
  rw [aom.mp hb] at e
  exact hnew (e ▸ ha)
 ·by_cases h : i + 1 < l.length
  ·rw [aoj (by omega)] at ha
   rw [aoj h] at hb
   exact W.ch i a b ha hb
  ·obtain ⟨hlt, _⟩ := anT.mp hb
   rw [aoh, aoZ] at hlt
   have e : i = l.length - 1 := by omega
   rw [aoj (by omega), e, hli] at ha
   rw [aol (by omega), show i + 1 - l.length = 0 by omega] at hb
   cases ha
   cases hb
   exact hn
 ·cases l with
  | nil => cases pos
  | cons a l => exact W.hd
theorem acr {s g : Gt} {l : List Gt} (W : WalkOk rows wd cut s l) (hl : l.getLast? = some g) {ring : Bool} (h : zQ rows wd cut g = if ring = true then some s else none) : LineOk rows wd cut ring l where
 op := W.op
 nd := W.nd
 ch := W.ch
 ne := fun z => by rw [z] at hl; cases hl
 last := fun g' hg' => by
  rw [hl] at hg'
  cases hg'
  rw [h, W.hd]
def abz (rows : List (List Int)) (wd : Nat) (cut : Int) (t : Bool × List Gt) : Prop := t.1 = false -> ∀ h, t.2.head? = some h -> yo rows wd cut h = none
theorem next_prev {g n : Gt} (o : opG rows wd cut g = true) (h : zQ rows wd cut g = some n) : yo rows wd cut n = some g := by
 have c : zX rows wd (ahC rows cut g).1 (ahC rows cut g).2 = true := by
  unfold zQ at h
  by_cases z : zX rows wd (ahC rows cut g).1 (ahC rows cut g).2 = true
  ·exact z
  ·rw [if_neg z] at h; cases h
 obtain ⟨m, a1, _, _, _, a2⟩ := qZ o c
 rw [h] at a1
 cases a1
 exact a2
theorem prev_next {g n : Gt} (o : opG rows wd cut g = true) (h : yo rows wd cut g = some n) : opG rows wd cut n = true /\ zQ rows wd cut n = some g := by
 have c : zX rows wd (bhC rows cut g).1 (bhC rows cut g).2 = true := by
  unfold yo at h
  by_cases z : zX rows wd (bhC rows cut g).1 (bhC rows cut g).2 = true
  ·exact z
  ·rw [if_neg z] at h; cases h
 obtain ⟨m, a1, _, a3, _, a2⟩ := aaR o c
 rw [h] at a1
 cases a1
 exact ⟨a3, a2⟩
theorem aaS {t : Bool × List Gt} (ne : t.2 ≠ []) : ∃ z, t.2.getLast? = some z /\ z ∈ t.2 := ⟨t.2.getLast ne, aq6 ne, arQ ne⟩
theorem aaz {t : Bool × List Gt} (L : LineOk rows wd cut t.1 t.2) (st : abz rows wd cut t) {g n : Gt} (o : opG rows wd cut g = true) (hn : n ∈ t.2) (h : zQ rows wd cut g = some n) : g ∈ t.2 := by
 obtain ⟨i, hi⟩ := aoJ hn
 match i, hi with
 | 0, hi =>
  have hh : t.2.head? = some n := by rw [aoX]; exact hi
  cases hr : t.1 with
  | false =>
   have := st hr n hh
   rw [next_prev o h] at this
   cases this
  | true =>
   obtain ⟨z, hz, hm⟩ := aaS L.ne
   have := L.last z hz
   rw [hr, if_pos rfl, hh] at this
   rw [abv o (L.op z hm) h this]
   exact hm
 | i + 1, hi =>
  obtain ⟨hlt, _⟩ := anT.mp hi
  have hi' : t.2[i]? = some t.2[i] := anP (by omega)
  have hc := L.ch i _ _ hi' hi
  have hm := aof hi'
  rw [abv o (L.op _ hm) h hc]
  exact hm
theorem aaA {t : Bool × List Gt} (L : LineOk rows wd cut t.1 t.2) {g n : Gt} (hg : g ∈ t.2) (h : zQ rows wd cut g = some n) : n ∈ t.2 := by
 obtain ⟨i, hi⟩ := aoJ hg
 obtain ⟨hlt, _⟩ := anT.mp hi
 by_cases hl : i + 1 < t.2.length
 ·have hi' : t.2[i + 1]? = some t.2[i + 1] := anP hl
  have hc := L.ch i _ _ hi hi'
  rw [h] at hc
  rw [Option.some.inj hc]
  exact aof hi'
 ·have e : i = t.2.length - 1 := by omega
  have hz : t.2.getLast? = some g := by rw [apS, <- e]; exact hi
  have := L.last g hz
  rw [h] at this
  by_cases hr : t.1 = true
  ·rw [if_pos hr] at this
   exact aqT this.symm
  ·rw [if_neg hr] at this
   cases this
theorem alb (gd : Good wd rows) {g : Gt} (o : opG rows wd cut g = true) : zX rows wd (ahC rows cut g).1 (ahC rows cut g).2 = true \/ zX rows wd (bhC rows cut g).1 (bhC rows cut g).2 = true := by
 have hw := aaj o
 obtain ⟨x, y, w⟩ := g
 have o' : yI rows wd cut x y w = true := o
 unfold yI vy at o'
 rw [anZ, anZ, anZ] at o'
 obtain ⟨a0, a1, a2, a3⟩ := aah o'.1.2.1
 obtain ⟨b0, b1, b2, b3⟩ := aah o'.1.2.2
 have h1 := gd.h1
 have w1 := gd.w1
 have cb : ∀ {u v : Int}, 0 <= u -> u + 1 < wd -> 0 <= v -> v + 1 < rows.length -> zX rows wd u v = true := fun p q r s => by
  unfold zX yv
  rw [decide_eq_true (by omega), decide_eq_true (by omega), decide_eq_true (by omega), decide_eq_true (by omega)]
  rfl
 unfold ahC bhC jF jG
 dsimp only at hw ⊢
 rcases hw with rfl | rfl
 ·have e1 : px x 0 = x + 1 := rfl
  rw [e1] at b1
  cases hiB rows cut x y
  ·by_cases h : y + 1 < rows.length
   ·left; exact cb (by simp; omega) (by simp; omega) (by simp; omega) (by simp; omega)
   ·right; exact cb (by simp; omega) (by simp; omega) (by simp; omega) (by simp; omega)
  ·by_cases h : y + 1 < rows.length
   ·right; exact cb (by simp; omega) (by simp; omega) (by simp; omega) (by simp; omega)
   ·left; exact cb (by simp; omega) (by simp; omega) (by simp; omega) (by simp; omega)
 ·have e1 : py y 1 = y + 1 := rfl
  rw [e1] at b3
  cases hiB rows cut x y
  ·by_cases h : x + 1 < wd
   ·right; exact cb (by simp; omega) (by simp; omega) (by simp; omega) (by simp; omega)
   ·left; exact cb (by simp; omega) (by simp; omega) (by simp; omega) (by simp; omega)
  ·by_cases h : x + 1 < wd
   ·left; exact cb (by simp; omega) (by simp; omega) (by simp; omega) (by simp; omega)
   ·right; exact cb (by simp; omega) (by simp; omega) (by simp; omega) (by simp; omega)
theorem am3 (gd : Good wd rows) {t : Bool × List Gt} (L : LineOk rows wd cut t.1 t.2) (st : abz rows wd cut t) : 2 <= t.2.length := by
 obtain ⟨r, l⟩ := t
 match l, L, st with
 | [], L, _ => exact absurd rfl L.ne
 | [g], L, st =>
  have o := L.op g (an0 ..)
  have hl := L.last g rfl
  cases r with
  | true =>
   exact absurd rfl (aak o hl).2
  | false =>
   have hp : yo rows wd cut g = none := st rfl g rfl
   have hl : zQ rows wd cut g = none := hl
   rcases alb gd o with c | c
   ·obtain ⟨n, h, _⟩ := qZ o c
    rw [hl] at h; cases h
   ·obtain ⟨n, h, _⟩ := aaR o c
    rw [hp] at h; cases h
 | _ :: _ :: _, _, _ => exact Nat.le_add_left 2 _
end
section
variable (rows : List (List Int)) (wd : Nat) (cut : Int)
def flat (ts : List (Bool × List Gt)) : List Gt := ts.flatMap (·.2)
structure Told (ts : List (Bool × List Gt)) : Prop where
 line : ∀ t ∈ ts, LineOk rows wd cut t.1 t.2
 st : ∀ t ∈ ts, abz rows wd cut t
 nd : (flat ts).Nodup
 least : ∀ t ∈ ts, t.1 = true -> ∀ h, t.2.head? = some h -> ∀ g ∈ t.2, g = h \/ gLt h g
end
section
variable {rows : List (List Int)} {wd : Nat} {cut : Int} {ts : List (Bool × List Gt)}
theorem Told.op (T : Told rows wd cut ts) {g : Gt} (h : g ∈ flat ts) : opG rows wd cut g = true := by
 obtain ⟨t, ht, hg⟩ := aoC.mp h
 exact (T.line t ht).op g hg
theorem Told.len (T : Told rows wd cut ts) (gd : Good wd rows) : (flat ts).length <= 98 := aby gd (fun g hg => T.op hg) T.nd
theorem aez : ∀ (ts : List (Bool × List Gt)), (∀ t ∈ ts, 2 <= t.2.length) -> 2 * ts.length <= (flat ts).length
 | [], _ => anW _
 | t :: ts, h => by
  have h1 := h t (an0 ..)
  have h2 := aez ts fun u hu => h u (anY _ hu)
  show 2 * (ts.length + 1) <= (t.2 ++ flat ts).length
  rw [aoh]
  omega
theorem Told.few (T : Told rows wd cut ts) (gd : Good wd rows) : ts.length <= 49 := by
 have h1 := aez ts fun t ht => am3 gd (T.line t ht) (T.st t ht)
 have h2 := T.len gd
 omega
theorem q9 (ts : List (Bool × List Gt)) (t : Bool × List Gt) : flat (ts ++ [t]) = flat ts ++ t.2 := by
 unfold flat
 rw [ao8]
 simp
theorem Told.fresh (T : Told rows wd cut ts) {r : Bool} {l : List Gt} (L : LineOk rows wd cut r l) {s : Gt} (hs : l.head? = some s) (hn : s ∉ flat ts) : ∀ g ∈ l, g ∉ flat ts := by
 have key : ∀ (i : Nat) g, l[i]? = some g -> g ∉ flat ts := fun i => by
  induction i with
  | zero =>
   intro g hg
   rw [aoX, hg] at hs
   rw [Option.some.inj hs]
   exact hn
  | succ i ih =>
   intro g hg hm
   obtain ⟨hlt, _⟩ := anT.mp hg
   have hi' : l[i]? = some l[i] := anP (by omega)
   have hc := L.ch i _ _ hi' hg
   obtain ⟨t, ht, hgt⟩ := aoC.mp hm
   exact ih _ hi' (aoC.mpr ⟨t, ht, aaz (T.line t ht) (T.st t ht) (L.op _ (aof hi')) hgt hc⟩)
 intro g hg
 obtain ⟨i, hi⟩ := aoJ hg
 exact key i g hi
theorem Told.more (T : Told rows wd cut ts) {r : Bool} {l : List Gt} (L : LineOk rows wd cut r l) {s : Gt} (hs : l.head? = some s) (hn : s ∉ flat ts) (st : r = false -> yo rows wd cut s = none) (le : r = true -> ∀ g ∈ l, g = s \/ gLt s g) : Told rows wd cut (ts ++ [(r, l)]) where
 line := fun t ht => by
  rcases aop.mp ht with h | h
  ·exact T.line t h
  ·rw [aom.mp h]; exact L
 st := fun t ht => by
  rcases aop.mp ht with h | h
  ·exact T.st t h
  ·rw [aom.mp h]
   intro hr h hh
   rw [show (r, l).2.head? = some s from hs] at hh
   rw [<- Option.some.inj hh]
   exact st hr
 nd := by
  rw [q9]
  refine ao1.mpr ⟨T.nd, L.nd, fun a ha b hb e => ?_⟩
  exact T.fresh L hs hn b hb (e ▸ ha)
 least := fun t ht => by
  rcases aop.mp ht with h | h
  ·exact T.least t h
  ·rw [aom.mp h]
   intro hr h hh
   rw [show (r, l).2.head? = some s from hs] at hh
   rw [<- Option.some.inj hh]
   exact le hr
theorem am4 {r : Bool} {l : List Gt} (L : LineOk rows wd cut r l) {s : Gt} (hs : l.head? = some s) (hp : yo rows wd cut s = none) : r = false := by
 cases r with
 | false => rfl
 | true =>
  obtain ⟨z, hz, hm⟩ := aaS (t := (true, l)) L.ne
  have := L.last z hz
  rw [if_pos rfl, hs] at this
  have := next_prev (L.op z hm) this
  rw [hp] at this
  cases this
theorem alc (T : Told rows wd cut ts) (all : ∀ g, opG rows wd cut g = true -> yo rows wd cut g = none -> g ∈ flat ts) {r : Bool} {l : List Gt} (L : LineOk rows wd cut r l) {s : Gt} (hs : l.head? = some s) (hn : s ∉ flat ts) : r = true := by
 cases r with
 | true => rfl
 | false =>
  obtain ⟨z, hz, hm⟩ := aaS (t := (false, l)) L.ne
  have hnone : zQ rows wd cut z = none := L.last z hz
  let U := (zG rows wd cut).filter fun g => decide (g ∉ flat ts)
  have memU : ∀ g, g ∈ U ↔ opG rows wd cut g = true /\ g ∉ flat ts := fun g => by
   show g ∈ List.filter _ _ ↔ _
   rw [apU, mem_gates, decide_eq_true_eq]
  let pr : Gt -> Gt := fun g => (yo rows wd cut g).getD g
  have prU : ∀ g ∈ U, yo rows wd cut g = some (pr g) /\ zQ rows wd cut (pr g) = some g /\ pr g ∈ U := fun g hg => by
   obtain ⟨o, nf⟩ := (memU g).mp hg
   cases hp : yo rows wd cut g with
   | none => exact absurd (all g o hp) nf
   | some p =>
    have e : pr g = p := by show (yo rows wd cut g).getD g = p; rw [hp]; rfl
    obtain ⟨op, hnx⟩ := prev_next o hp
    rw [e]
    refine ⟨rfl, hnx, (memU p).mpr ⟨op, fun hm => ?_⟩⟩
    obtain ⟨t, ht, hpt⟩ := aoC.mp hm
    exact nf (aoC.mpr ⟨t, ht, aaA (T.line t ht) hpt hnx⟩)
  have ndU : U.Nodup := gates_nd.filter _
  have ndP : (U.map pr).Nodup := by
   refine apq.mpr (ndU.imp_of_mem fun {a b} ha hb ne e => ne ?_)
   have h1 := (prU a ha).2.1
   have h2 := (prU b hb).2.1
   rw [e, h2] at h1
   exact (Option.some.inj h1).symm
  have zU : z ∈ U := (memU z).mpr ⟨L.op z hm, T.fresh L hs hn z hm⟩
  have := agH (U.map pr) U ndP (fun x hx => by obtain ⟨g, hg, rfl⟩ := aos.mp hx; exact (prU g hg).2.2) (by rw [anQ]; exact anW _) z zU
  obtain ⟨g, hg, rfl⟩ := aos.mp this
  rw [(prU g hg).2.1] at hnone
  cases hnone
def yp (t : Bool × List Gt) : PyData := .tuple [.str (if t.1 = true then "ring" else "run"), .tuple (t.2.map gD3)]
theorem aeA (l : List Gt) : zP (l.map gD3) = true := by
 induction l with
 | nil => rfl
 | cons g l ih => show (zE (gD3 g) && zP (l.map gD3)) = true; rw [ih]; rfl
theorem afz (t : Bool × List Gt) : zE (yp t) = true := by
 show (zE (.str _) && (zE (.tuple (t.2.map gD3)) && true)) = true
 rw [show zE (.tuple (t.2.map gD3)) = zP (t.2.map gD3) from rfl, aeA]
 cases t.1 <;> decide +kernel
theorem acs : ∀ l m : List Gt, vp (l.map gD3) (m.map gD3) = true
 | [], m => by rw [arj, vp]
 | g :: l, [] => rfl
 | (x, y, w) :: l, (x', y', w') :: m => by
  rw [aor, aor, vp]
  split
  ·exact acs l m
  ·show qH (.tuple [.int x, .int y, .int w]) (.tuple [.int x', .int y', .int w']) = true
   simp only [qH, vp]
   split
   ·split
    ·split <;> rfl
    ·rfl
   ·rfl
theorem ajG (t u : Bool × List Gt) : qH (yp t) (yp u) = true := by
 unfold yp
 generalize (if t.1 = true then ("ring" : Str) else "run") = a
 generalize (if u.1 = true then ("ring" : Str) else "run") = b
 rw [qH, vp]
 split
 ·rw [vp]
  split
  ·rfl
  ·rw [qH]; exact acs _ _
 ·rfl
theorem aaB (l : List Gt) : aog (l.map gD3) <= 1 := by
 induction l with
 | nil => exact aoI _
 | cons g l ih => exact Nat.max_le.mpr ⟨anW 1, ih⟩
theorem afA (t : Bool × List Gt) : (yp t).depth <= 3 := by
 show max 0 (max (aog (t.2.map gD3) + 1) 0) + 1 <= 3
 have := aaB t.2
 omega
theorem vT {a b : Gt} (h : gD3 a = gD3 b) : a = b := by
 obtain ⟨x, y, w⟩ := a
 obtain ⟨x', y', w'⟩ := b
 unfold gD3 jR at h
 simp at h
 simp [h]
theorem ajH (T : Told rows wd cut ts) : SortOk "str" (ts.map yp) where
 plain := fun d hd => by obtain ⟨t, _, rfl⟩ := aos.mp hd; exact afz t
 head := fun d hd => by obtain ⟨t, _, rfl⟩ := aos.mp hd; rfl
 cmp := fun d hd e he => by
  obtain ⟨t, _, rfl⟩ := aos.mp hd
  obtain ⟨u, _, rfl⟩ := aos.mp he
  exact ajG t u
 depth := fun d hd => by obtain ⟨t, _, rfl⟩ := aos.mp hd; exact aou (afA t) (by decide)
 nd := by
  have h := (List.pairwise_flatMap.mp T.nd).2
  refine apq.mpr (h.imp_of_mem fun {a b} ha hb hd e => ?_)
  unfold yp at e
  have e2 : a.2.map gD3 = b.2.map gD3 := by
   injection e with e
   injection e with _ e
   injection e with e _
   injection e
  cases ha2 : a.2 with
  | nil => exact (T.line a ha).ne ha2
  | cons g l =>
   cases hb2 : b.2 with
   | nil => exact (T.line b hb).ne hb2
   | cons g' l' =>
    rw [ha2, hb2, aor, aor] at e2
    injection e2 with e2 _
    exact hd g (by rw [ha2]; exact an0 ..) g' (by rw [hb2]; exact an0 ..) (vT e2)
theorem Told.perm {us : List (Bool × List Gt)} (T : Told rows wd cut ts) (p : us.Perm ts) : Told rows wd cut us where
 line := fun t ht => T.line t (p.mem_iff.mp ht)
 st := fun t ht => T.st t (p.mem_iff.mp ht)
 nd := (p.flatMap_right _).nodup_iff.mpr T.nd
 least := fun t ht => T.least t (p.mem_iff.mp ht)
end
open PySem PySem.Spec PyProof.Rows L2
section
variable {K : anS} {f : Fx} {ρ : zy} {ta : TE} {P : PyData -> Prop}
def abA : PyData -> Bool
 | .none => true
 | _ => false
theorem acu {H : Hp} {d : PyData} {v : V} (r : Rep K H d v) (h : d = .none \/ ∃ ds, d = .tuple ds) : decide (v = .non) = abA d := by
 rcases h with rfl | ⟨ds, rfl⟩
 ·rw [show v = .non from r]; rfl
 ·obtain ⟨a, xs, rfl, _⟩ := rep_tuple.mp r
  rfl
theorem am5 (h : PEd K f ta ρ fun d => (d = .none \/ ∃ ds, d = .tuple ds) /\ P (.bool (!abA d))) : PEd K f (tOp (fun x y H Q => y = .non /\ Q (.bl (!decide (x = .non))) H) ta (tC .non)) ρ P := fun σ H Q e q =>
 h σ H _ e fun d v H1 g1 r1 ⟨hd, p⟩ => ⟨rfl, q _ _ H1 g1 (by show Rep K _ (.bool _) (.bl _); rw [acu r1 hd]; rfl) p⟩
theorem ajI (h : PEd K f ta ρ fun d => (d = .none \/ ∃ ds, d = .tuple ds) /\ P (.bool (abA d))) : PEd K f (tOp (fun x y H Q => y = .non /\ Q (.bl (decide (x = .non))) H) ta (tC .non)) ρ P := fun σ H Q e q =>
 h σ H _ e fun d v H1 g1 r1 ⟨hd, p⟩ => ⟨rfl, q _ _ H1 g1 (by show Rep K _ (.bool _) (.bl _); rw [acu r1 hd]; rfl) p⟩
end
section
variable {P : Program} {w : World} {K : anS} {mg : Str -> Option Value} {base : Heap} {k : Nat}
abbrev ajJ (K : anS) : Sp := spD K 3 ak8 fun c r => ∃ ring l, r = yp (ring, l) /\ LineOk c.1 c.2.1 c.2.2.1 ring l /\ l.head? = some c.2.2.2
theorem adt (a b : Gt) : aoo (gD3 a) (gD3 b) = decide (a = b) := by
 obtain ⟨x, y, w⟩ := a
 obtain ⟨x', y', w'⟩ := b
 show (decide (x = x') && (decide (y = y') && (decide (w = w') && true))) = _
 by_cases h1 : x = x' <;> by_cases h2 : y = y' <;> by_cases h3 : w = w' <;> simp [h1, h2, h3]
theorem abB (q : Option Gt) : aaG q = .none \/ ∃ ds, aaG q = .tuple ds := by
 cases q with
 | none => exact .inl rfl
 | some g => exact .inr ⟨_, rfl⟩
theorem ald (F : Def K mg "line_from" jN ["rows", "cut", "start"]) (m_tuple : mg "tuple" = none) (G_gate_ahead : FnIn P w K mg base k "gate_ahead" ["rows", "cut", "gate"] (abx K)) :
  FnIn P w K mg base (k + 1) "line_from" ["rows", "cut", "start"] (ajJ K) := by
 refine F.ok sc_line_from rfl fun fa cdv A outer s H E hr => ⟨_, (zi (zM (i := 3) sc_line_from.nd rfl (Or.inl rfl) (yr (zc (pv 2) zh))) (zi (zM (i := 4) sc_line_from.nd rfl (Or.inl rfl) (zm G_gate_ahead hr rfl (zc (pv 0) (zc (pv 1) (zc (pv 2) zh))))) (zi (adz aoU (PW.pt (alV (zL aj8 (pv 4) vU (zN _)) (aj2 (zL (qE (K := K) rfl hr.units) (pv 4) (pv 2) (zN _))))) (zi (y7 (aa6 ao2 aqJ aqK vZ (pv 3) (zc (pv 4) zh))) (zp (zM (i := 4) sc_line_from.nd rfl (Or.inl rfl) (zm G_gate_ahead hr rfl (zc (pv 0) (zc (pv 1) (zc (pv 4) zh)))))))) (zp (zB (zR (zc (qz (zL aie (pv 4) vU (zN _)) y3 y3) (zc (jw (aar (K := K) rfl) rfl m_tuple arR (zc (pv 3) zh)) zh)))))))), ?_⟩
 rintro f xs ⟨rows, wd, cut, g⟩ hl ⟨rfl, gd, o⟩
 try dsimp only [yf, zq]
 dsimp only at *
 refine aae (w := w) (acf (qP (adT ?_)))
 repeat walk_at "dl"
 refine ⟨show 3 < 5 by decide, fun D => ?_⟩
 refine yD (jX (ya (zx (rows, wd, cut, g) ?_)))
 repeat walk_at "dl"
 rintro _ rfl
 refine zv ?_
 refine yD (agj (fun ρ cs => ∃ l z, ρ = [some (.dat (tab rows)), some (.dat (.int cut)), some (.dat (gD3 g)), some (.own (f.M.length + 0)), some (.dat (aaG (zQ rows wd cut z)))] /\ cs = [.lst (l.map gD3)] /\ WalkOk rows wd cut g l /\ l.getLast? = some z) (fun _ cs => match cs with | [.lst es] => 200 - es.length | _ => 0) ⟨[g], g, rfl, rfl, ajF o, rfl⟩ ?_)
 rintro _ _ ⟨l, z, rfl, rfl, W, hz⟩
 have oz := W.op z (asl hz)
 have wl := aby gd W.op W.nd
 have ml : (l.map gD3).length = l.length := anQ ..
 refine aaD (air (yw (am5 (zw rfl ⟨abB _, ?_⟩))))
 refine ⟨_, rfl, ?_⟩
 have fr : ∀ x : PyData, apw (freed f.M.length [OC.lst (l.map gD3)]) [some (DV.dat (tab rows)), some (.dat (.int cut)), some (.dat (gD3 g)), some (.own (f.M.length + 0)), some (.dat x)] = [some (.dat (tab rows)), some (.dat (.int cut)), some (.dat (gD3 g)), some (.dat (.list (l.map gD3))), some (.dat x)] := fun x => by simp [freed]
 cases hn : zQ rows wd cut z with
 | none =>
  rw [show (!abA (aaG none)) = false from rfl, if_neg anR, if_neg anR]
  refine ac3 ?_
  rw [fr]
  refine ym (aaq (zS (ais (yw (ajI (zw rfl ⟨.inl rfl, _, rfl, ?_⟩))))))
  rw [show abA (aaG none) = true from rfl, if_pos rfl]
  repeat walk_at "dl"
  exact ⟨false, l, rfl, acr W hz (by rw [hn]; rfl), W.hd⟩
 | some n =>
  rw [show (!abA (aaG (some n))) = true from rfl, if_pos rfl]
  rw [show aaG (some n) = gD3 n from rfl]
  refine yw (yV (zw rfl (zw rfl ⟨rfl, rfl, ar4 rfl, _, rfl, ?_⟩)))
  rw [if_pos rfl, adt]
  by_cases ng : n = g
  ·rw [decide_eq_true ng, show (!true) = false from rfl, if_neg anR]
   refine ac3 ?_
   rw [fr]
   refine ym (aaq (zS (ais (yw (ajI (zw rfl ⟨.inr ⟨_, rfl⟩, _, rfl, ?_⟩))))))
   rw [show abA (gD3 n) = false from rfl, if_neg anR]
   repeat walk_at "dl"
   exact ⟨true, l, rfl, acr W hz (by rw [hn, ng]; rfl), W.hd⟩
  ·rw [decide_eq_false ng, show (!false) = true from rfl, if_pos rfl]
   have W2 := ah0 W hz hn ng
   have wl2 := aby gd W2.op W2.nd
   rw [aoh, aoZ] at wl2
   refine yD (alH (i := 3) (j := 0) rfl rfl (by omega) (vc (zw rfl ?_)))
   refine jX (ya (zx (rows, wd, cut, n) ?_))
   have on := (aak oz hn).1
   repeat walk_at "dl"
   rintro _ rfl
   refine zv ⟨⟨l ++ [n], n, rfl, ?_, W2, by simp⟩, ?_⟩
   ·show [OC.lst (l.map gD3 ++ [gD3 n])] = [OC.lst ((l ++ [n]).map gD3)]
    rw [aoE]
    rfl
   ·show 200 - (l.map gD3 ++ [gD3 n]).length < 200 - (l.map gD3).length
    rw [aoh, aoZ]
    omega
abbrev agI (K : anS) : Sp := spN K 2 (fun (c : List (List Int) × Nat × Int) xs => xs = [.dat (tab c.1), .dat (.int c.2.2)] /\ Good c.2.1 c.1) fun c es => ∃ ts, es = ts.map yp /\ Told c.1 c.2.1 c.2.2 ts /\ (∀ g, opG c.1 c.2.1 c.2.2 g = true -> g ∈ flat ts) /\ es.Pairwise fun d e => ltD d e = true
def inB (rows : List (List Int)) (wd : Nat) (cut : Int) (g : Gt) : Bool := !zX rows wd (bhC rows cut g).1 (bhC rows cut g).2
theorem afB {rows : List (List Int)} {wd : Nat} {cut : Int} {g : Gt} (o : opG rows wd cut g = true) : inB rows wd cut g = true ↔ yo rows wd cut g = none := by
 unfold inB
 by_cases h : zX rows wd (bhC rows cut g).1 (bhC rows cut g).2 = true
 ·obtain ⟨n, hn, _⟩ := aaR o h
  rw [h, hn]
  simp
 ·rw [arN] at h
  unfold yo
  rw [h]
  simp
theorem ajK (F : Def K mg "lines" aaQ ["rows", "cut"]) (m_set : mg "set" = none) (m_sorted : mg "sorted" = none) (G_ask_table : FnIn P w K mg base k "ask_table" ["rows"] (agt K)) (G_gates : FnIn P w K mg base k "gates" ["rows", "cut"] (adm K)) (G_comes_in : FnIn P w K mg base k "comes_in" ["rows", "cut", "gate"] (adq K)) (G_line_from : FnIn P w K mg base k "line_from" ["rows", "cut", "start"] (ajJ K)) : FnIn P w K mg base (k + 1) "lines" ["rows", "cut"] (agI K) := by
 refine F.okN sc_lines rfl fun fa cdv A outer s H E hr => ⟨_, (zi (y7 (zm G_ask_table hr rfl (zc (pv 0) zh))) (zi (zM (i := 2) sc_lines.nd rfl (Or.inl rfl) (zm G_gates hr rfl (zc (pv 0) (zc (pv 1) zh)))) (zi (zM (i := 3) sc_lines.nd rfl (Or.inl rfl) (zJ (vF (K := K) rfl) (yK (N := ["gate", "rows", "cut"]) (own := 1) (fr := [0, 1]) ⟨rfl, by decide +kernel, of_decide_eq_true (by kernel_rfl), of_decide_eq_true (by kernel_rfl), of_decide_eq_true (by kernel_rfl), rfl⟩ rfl (yM (K := K) rfl (pv 2)) (fun _ _ _ _ => (zt (i := 0) (show (["gate", "rows", "cut"] : List Str).Nodup by decide +kernel) rfl (Or.inl rfl) (Or.inr rfl))) (fun _ _ _ _ => (acK (yj (K := K) rfl (zm G_comes_in hr rfl (zc (pv 1) (zc (pv 2) (zc (pv 0) zh)))) (fun _ => rfl)))) (fun _ _ _ _ => (pv 0)) rfl rfl (fun _ => rfl)) (pv 2))) (zi (zM (i := 4) sc_lines.nd rfl (Or.inl rfl) (yr zh)) (zi (zM (i := 5) sc_lines.nd rfl (Or.inl rfl) (aeN (ac5 (w := w) rfl) rfl m_set ar5)) (zi (jz aoU rfl (yM (K := K) rfl (pv 3)) (zt (i := 6) sc_lines.nd rfl (Or.inl rfl) (Or.inr rfl)) (zp (z8 (zL (ae8 (w := w) (K := K) rfl rfl hr.units) (pv 6) (pv 5) rfl) (zi (zM (i := 7) sc_lines.nd rfl (Or.inl rfl) (zm G_line_from hr rfl (zc (pv 0) (zc (pv 1) (zc (pv 6) zh))))) (zi (y7 (aa6 ao2 aqJ aqK vZ (pv 4) (zc (pv 7) zh))) (zp (jz aoU rfl (qO (K := K) rfl (zV (yx (K := K) rfl) (pv 7) zj (fun _ _ => rfl))) (zt (i := 8) sc_lines.nd rfl (Or.inl rfl) (Or.inr rfl)) (zp (y7 (amE (w := w) rfl asi PySem.F.type_set_add (ai2 (w := w) (K := K) rfl rfl hr.units) (pv 5) (zc (pv 8) zh)))))))) zK))) (zp (zB (zC (acW (K := K) rfl hr.units) rfl m_sorted PyProof.Rows.boot_sorted (zc (pv 4) zh)))))))))), ?_⟩
 rintro f xs ⟨rows, wd, cut⟩ hl ⟨rfl, gd⟩
 try dsimp only [yf, zq]
 dsimp only at *
 have gl := qa (cut := cut) gd
 refine abe (aa9 (zx (rows, wd) ?_))
 repeat walk_at "dl"
 rintro _ rfl
 refine abe (ya (PEdO.ped (abf (rows, wd, cut) ?_)))
 repeat walk_at "dl"
 rintro _ rfl
 dsimp only
 rw [<- j9]
 refine zv ?_
 refine abe (ya (acP (PEdO.ped (v7 (jW (zw rfl ⟨_, rfl, fun n ρ es => (∃ u, ρ = [u, some (.dat (tab rows)), some (.dat (.int cut))]) /\ es = (((zG rows wd cut).take n).filter (inB rows wd cut)).map gD3, ⟨⟨_, rfl⟩, rfl⟩, ?_, ?_⟩))))))
 ·rintro D n d ρ' es hd ⟨⟨u, rfl⟩, rfl⟩
  rw [aob] at hd
  cases hq : (zG rows wd cut)[n]? with
  | none => rw [hq] at hd; cases hd
  | some q =>
   rw [hq] at hd
   cases hd
   have oq := mem_gates.mp (aof hq)
   have tk : (zG rows wd cut).take (n + 1) = (zG rows wd cut).take n ++ [q] := by
    rw [aqS, hq]
    rfl
   have len : ((((zG rows wd cut).take n).filter (inB rows wd cut)).map gD3).length < 1000 := by
    rw [anQ]
    have a1 := apN (inB rows wd cut) ((zG rows wd cut).take n)
    rw [aoA] at a1
    omega
   refine zv (yW (zx (rows, wd, cut, q) ?_))
   repeat walk_at "dl"
   rintro _ rfl
   dsimp only
   refine ⟨_, rfl, ?_⟩
   refine yH (fun h => ?_) fun h => ?_
   ·refine jn len ?_
    repeat walk_at "dl"
    rw [tk, apM, aoE, aph, show inB rows wd cut q = true from h, if_pos rfl]
    rfl
   ·refine ⟨⟨_, rfl⟩, ?_⟩
    rw [tk, apM, aoE, aph, show inB rows wd cut q = false from h, if_neg anR]
    simp
 ·rintro ρ' es ⟨_, rfl⟩
  rw [anQ, aoG]
  have il : ((zG rows wd cut).filter (inB rows wd cut)).length <= 98 := aou (apN _ _) gl
  refine ⟨_, rfl, zw rfl ⟨_, rfl, by rw [anQ, anQ]; omega, ?_⟩⟩
  refine zv ?_
  dsimp only
  rw [<- aoE]
  refine akw (w := w) (ai0 (qP (adT ?_)))
  repeat walk_at "dl"
  refine ⟨show 4 < 9 by decide, fun D1 => ?_⟩
  refine ai0 (amF ⟨show 5 < 9 by decide, fun D2 => ?_⟩)
  refine amC (aax (jW (zw rfl ?_)))
  generalize hS : (zG rows wd cut).filter (inB rows wd cut) ++ zG rows wd cut = S
  generalize hG : PyData.list (apw gD3 (zG rows wd cut)) = G
  refine ⟨_, rfl, fun i ρ cs => ∃ ts u v x, ρ = [some (.dat (tab rows)), some (.dat (.int cut)), some (.dat G), some (.dat (.list (S.map gD3))), some (.own (f.M.length + 0)), some (.own (f.M.length + 1)), u, v, x] /\ cs = [.lst (ts.map yp), .set ((flat ts).map gD3).reverse] /\ Told rows wd cut ts /\ ∀ j g, j < i -> S[j]? = some g -> g ∈ flat ts, ?_, ?_, ?_⟩
  ·exact ⟨[], _, _, _, rfl, rfl, ⟨(fun _ h => nomatch h), (fun _ h => nomatch h), ao4, (fun _ h => nomatch h)⟩, fun j g h => absurd h (apu _)⟩
  ·rintro i d _ _ hd ⟨ts, u, v, x, rfl, rfl, T, past⟩
   rw [aob] at hd
   cases hq : S[i]? with
   | none => rw [hq] at hd; cases hd
   | some q =>
    rw [hq] at hd
    cases hd
    have oq : opG rows wd cut q = true := by
     have hm := aof hq
     rw [<- hS] at hm
     rcases aop.mp hm with h | h
     ·exact mem_gates.mp (apU.mp h).1
     ·exact mem_gates.mp h
    have memk : (gD3 q ∈ ((flat ts).map gD3).reverse) ↔ q ∈ flat ts := by
     rw [apx, aos]
     exact ⟨fun ⟨a, ha, e⟩ => ads e ▸ ha, fun h => ⟨q, h, rfl⟩⟩
    refine zv (ahv (ant (i := 5) (j := 1) rfl rfl (vc (zw rfl ⟨qL _, ?_⟩))))
    rw [if_pos rfl]
    by_cases hin : q ∈ flat ts
    ·rw [decide_eq_true (memk.mpr hin), show (!true) = false from rfl, if_neg anR]
     refine yC ⟨ts, _, _, _, rfl, rfl, T, fun j g hj hg => ?_⟩
     rcases ap5.mp hj with h | h
     ·exact past j g h hg
     ·rw [h, hq] at hg
      cases hg
      exact hin
    ·rw [decide_eq_false (fun z => hin (memk.mp z)), show (!false) = true from rfl, if_pos rfl]
     refine yD (jX (ya (zx (rows, wd, cut, q) ?_)))
     repeat walk_at "dl"
     rintro _ ⟨ring, l, rfl, L, hh⟩
     dsimp only at L hh
     have T2 : Told rows wd cut (ts ++ [(ring, l)]) := by
      by_cases hi : i < ((zG rows wd cut).filter (inB rows wd cut)).length
      ·have hp : yo rows wd cut q = none := by
        rw [<- hS, aoj hi] at hq
        exact (afB oq).mp (apU.mp (aof hq)).2
       have r0 := am4 L hh hp
       exact T.more L hh hin (fun _ => hp) fun z => by rw [r0] at z; cases z
      ·have all : ∀ g, opG rows wd cut g = true -> yo rows wd cut g = none -> g ∈ flat ts := fun g og hp => by
        have hm : g ∈ (zG rows wd cut).filter (inB rows wd cut) := apU.mpr ⟨mem_gates.mpr og, (afB og).mpr hp⟩
        obtain ⟨j, hj⟩ := aoJ hm
        obtain ⟨hlt, _⟩ := anT.mp hj
        refine past j g (by omega) ?_
        rw [<- hS, aoj hlt]
        exact hj
       have r1 := alc T all L hh hin
       refine T.more L hh hin (fun z => by rw [r1] at z; cases z) fun _ g hg => ?_
       have fr := T.fresh L hh hin g hg
       obtain ⟨j, hj⟩ := aoJ (mem_gates.mpr (L.op g hg))
       have hq' := hq
       rw [<- hS, aol (by omega)] at hq'
       have pw : (zG rows wd cut).Pairwise gLt := by rw [j9]; exact (aev _ _).filter _
       obtain ⟨l1, e1⟩ := anT.mp hj
       obtain ⟨l2, e2⟩ := anT.mp hq'
       rcases Nat.lt_trichotomy j (i - ((zG rows wd cut).filter (inB rows wd cut)).length) with h | h | h
       ·refine absurd (past (j + ((zG rows wd cut).filter (inB rows wd cut)).length) g (by omega) ?_) fr
        rw [<- hS, aol (by omega), Nat.add_sub_cancel]
        exact hj
       ·left
        rw [<- e1, <- e2]
        congr 1
       ·right
        rw [<- e1, <- e2]
        exact apQ.mp pw _ _ l2 l1 h
     have hf := T2.len gd
     have nd2 := T2.nd
     rw [q9] at nd2 hf
     have few := T.few gd
     refine zv ?_
     refine yD (alH (i := 4) (j := 0) rfl rfl (by rw [anQ]; omega) (vc (zw rfl ?_)))
     refine aax (ab6 (qt (zw rfl ?_)))
     repeat walk_at "dl"
     refine ⟨fun m ρ cs => ∃ x, ρ = [some (.dat (tab rows)), some (.dat (.int cut)), some (.dat G), some (.dat (.list (S.map gD3))), some (.own (f.M.length + 0)), some (.own (f.M.length + 1)), some (.dat (gD3 q)), some (.dat (yp (ring, l))), x] /\ cs = [.lst ((ts ++ [(ring, l)]).map yp), .set ((flat ts ++ l.take m).map gD3).reverse], ?_, ?_, ?_⟩
     ·refine ⟨_, rfl, ?_⟩
      rw [aqt, aoN, aoE]
      rfl
     ·rintro m d _ _ hd ⟨x, rfl, rfl⟩
      rw [aob] at hd
      cases hg : l[m]? with
      | none => rw [show (ring, l).2[m]? = none from hg] at hd; cases hd
      | some g =>
       rw [show (ring, l).2[m]? = some g from hg] at hd
       cases hd
       have tk : l.take (m + 1) = l.take m ++ [g] := by
        rw [aqS, hg]
        rfl
       have sp : l = l.take m ++ g :: l.drop (m + 1) := by
        obtain ⟨hlt, e⟩ := anT.mp hg
        rw [<- e, <- aqz hlt, aqV]
       have hnew : g ∉ flat ts ++ l.take m := fun z => by
        have nd3 : (flat ts ++ l).Nodup := nd2
        rw [sp, <- apr] at nd3
        exact (ao1.mp nd3).2.2 g z g (an0 ..) rfl
       have len : (((flat ts ++ l.take m).map gD3).reverse).length < 300 := by
        rw [apC, anQ, aoh, aoA]
        have : (flat ts ++ l).length <= 98 := hf
        rw [aoh] at this
        omega
       refine zv (anu (i := 5) (j := 1) rfl rfl len (vc (zw rfl ⟨qL _, fun z => ?_, fun _ => ?_⟩)))
       ·rw [apx, aos] at z
        obtain ⟨a, ha, e⟩ := z
        exact absurd (ads e ▸ ha) hnew
       ·refine ⟨_, rfl, ?_⟩
        show [OC.lst _, OC.set (gD3 g :: ((flat ts ++ l.take m).map gD3).reverse)] = _
        rw [tk, <- apr, aoE (l₁ := flat ts ++ l.take m), aqa]
        rfl
     ·rintro _ _ ⟨x, rfl, rfl⟩
      refine ⟨ts ++ [(ring, l)], _, _, _, rfl, ?_, T2, fun j g hj hg => ?_⟩
      ·rw [anQ, show (ring, l).2.length = l.length from rfl, aoG, q9]
      ·rw [q9]
       rcases ap5.mp hj with h | h
       ·exact apg _ (past j g h hg)
       ·rw [h, hq] at hg
        cases hg
        exact aon _ (aqT hh)
  ·rintro _ _ ⟨ts, u, v, x, rfl, rfl, T, past⟩
   have few := T.few gd
   refine akx (adU (aiO "str" (zw (i := 4) (d := .list (ts.map yp)) ?_ ⟨_, rfl, ajH T, by rw [anQ]; omega, .inl (by rw [anQ]; omega), fun es pm up => ?_⟩)))
   ·show some (freed _ _ _) = _
    simp [freed]
   ·obtain ⟨us, p, rfl⟩ := perm_map_inv pm ts rfl
    refine ⟨us, rfl, T.perm p, fun g og => ?_, up⟩
    have hm : g ∈ S := by rw [<- hS]; exact aon _ (mem_gates.mpr og)
    obtain ⟨j, hj⟩ := aoJ hm
    obtain ⟨hlt, _⟩ := anT.mp hj
    exact (p.flatMap_right _).mem_iff.mpr (past j g (by rw [anQ]; exact hlt) hj)
end
open PySem PySem.Spec PyProof.Rows L2
section
variable {rows : List (List Int)} {wd : Nat} {cut : Int} {r : List Gt}
theorem ah1 (L : LineOk rows wd cut true r) {g : Gt} (hg : g ∈ r) : zX rows wd (ahC rows cut g).1 (ahC rows cut g).2 = true /\ zX rows wd (bhC rows cut g).1 (bhC rows cut g).2 = true := by
 have o := L.op g hg
 constructor
 ·have hn : ∃ n, zQ rows wd cut g = some n := by
   obtain ⟨i, hi⟩ := aoJ hg
   obtain ⟨hlt, _⟩ := anT.mp hi
   by_cases hl : i + 1 < r.length
   ·exact ⟨_, L.ch i _ _ hi (anP hl)⟩
   ·have e : i = r.length - 1 := by omega
    have hz : r.getLast? = some g := by rw [apS, <- e]; exact hi
    have := L.last g hz
    rw [if_pos rfl] at this
    cases hh : r.head? with
    | none => exact absurd (List.head?_eq_none_iff.mp hh) L.ne
    | some h => exact ⟨h, this.trans hh⟩
  obtain ⟨n, hn⟩ := hn
  unfold zQ at hn
  by_cases z : zX rows wd (ahC rows cut g).1 (ahC rows cut g).2 = true
  ·exact z
  ·rw [if_neg z] at hn; cases hn
 ·have hp : ∃ p, opG rows wd cut p = true /\ zQ rows wd cut p = some g := by
   obtain ⟨i, hi⟩ := aoJ hg
   obtain ⟨hlt, _⟩ := anT.mp hi
   match i, hi with
   | 0, hi =>
    obtain ⟨z, hz, hzm⟩ := aaS (t := (true, r)) L.ne
    have := L.last z hz
    rw [if_pos rfl, aoX] at this
    exact ⟨z, L.op z hzm, this.trans hi⟩
   | i + 1, hi =>
    have hi' : r[i]? = some r[i] := anP (by omega)
    exact ⟨_, L.op _ (aof hi'), L.ch i _ _ hi' hi⟩
  obtain ⟨p, op, hp⟩ := hp
  have hq := next_prev op hp
  unfold yo at hq
  by_cases z : zX rows wd (bhC rows cut g).1 (bhC rows cut g).2 = true
  ·exact z
  ·rw [if_neg z] at hq; cases hq
end
open PySem PySem.Spec PyProof.Rows L2
section
variable {rows : List (List Int)} {wd : Nat} {cut : Int}
theorem aeB {q : Bool} {l m : List Gt} (L : LineOk rows wd cut q l) (M : LineOk rows wd cut q m) (hh : l.head? = m.head?) : ∀ i, i < l.length -> i < m.length /\ l[i]? = m[i]? := by
 intro i
 induction i with
 | zero =>
  intro hi
  rw [aoX, aoX] at hh
  refine ⟨?_, hh⟩
  rw [anP hi] at hh
  exact (anT.mp hh.symm).1
 | succ i ih =>
  intro hi
  obtain ⟨h1, h2⟩ := ih (by omega)
  have a1 : l[i]? = some l[i] := anP (by omega)
  have a2 : l[i + 1]? = some l[i + 1] := anP hi
  have hn := L.ch i _ _ a1 a2
  rw [a1] at h2
  by_cases hm : i + 1 < m.length
  ·have b2 : m[i + 1]? = some m[i + 1] := anP hm
   have hn' := M.ch i _ _ h2.symm b2
   rw [hn] at hn'
   exact ⟨hm, by rw [a2, b2, hn']⟩
  ·have hz : m.getLast? = some l[i] := by rw [apS, show m.length - 1 = i by omega]; exact h2.symm
   have hl := M.last _ hz
   rw [hn] at hl
   cases q with
   | false => cases hl
   | true =>
    rw [if_pos rfl, <- hh, aoX, <- a2] at hl
    have := (List.getElem?_inj hi L.nd).mp hl
    omega
theorem ajL {q : Bool} {l m : List Gt} (L : LineOk rows wd cut q l) (M : LineOk rows wd cut q m) (hh : l.head? = m.head?) : l = m := by
 refine aqo fun i => ?_
 by_cases h : i < l.length
 ·exact (aeB L M hh i h).2
 ·by_cases h2 : i < m.length
  ·exact ((aeB M L hh.symm i h2).2).symm
  ·rw [aov (by omega), aov (by omega)]
theorem ac2 {q : Bool} {l : List Gt} (L : LineOk rows wd cut q l) {t : Bool × List Gt} (T : LineOk rows wd cut t.1 t.2) (st : abz rows wd cut t) {h : Gt} (hl : h ∈ l) (ht : h ∈ t.2) : ∀ g ∈ l, g ∈ t.2 := by
 obtain ⟨j, hj⟩ := aoJ hl
 obtain ⟨hlt, _⟩ := anT.mp hj
 have up : ∀ n i, i = j + n -> ∀ g, l[i]? = some g -> g ∈ t.2 := fun n => by
  induction n with
  | zero =>
   intro i hi g hg
   rw [hi, Nat.add_zero, hj] at hg
   cases hg
   exact ht
  | succ n ih =>
   intro i hi g hg
   obtain ⟨hl2, _⟩ := anT.mp hg
   have a1 : l[j + n]? = some l[j + n] := anP (by omega)
   rw [show i = j + n + 1 by omega] at hg
   exact aaA T (ih _ rfl _ a1) (L.ch _ _ _ a1 hg)
 have dn : ∀ n i, i + n = j -> ∀ g, l[i]? = some g -> g ∈ t.2 := fun n => by
  induction n with
  | zero =>
   intro i hi g hg
   rw [show i = j by omega, hj] at hg
   cases hg
   exact ht
  | succ n ih =>
   intro i hi g hg
   have a1 : l[i + 1]? = some l[i + 1] := anP (by omega)
   exact aaz T st (L.op g (aof hg)) (ih (i + 1) (by omega) _ a1) (L.ch i _ _ hg a1)
 intro g hg
 obtain ⟨i, hi⟩ := aoJ hg
 by_cases h' : j <= i
 ·exact up (i - j) i (by omega) g hi
 ·exact dn (j - i) i (by omega) g hi
theorem ajM {a b : Gt} (h : gLt a b) (h' : gLt b a) : False := by
 unfold gLt at h h'
 omega
theorem aeC {ts us : List (Bool × List Gt)} (T : Told rows wd cut ts) (U : Told rows wd cut us) (all : ∀ g, opG rows wd cut g = true -> g ∈ flat us) {t : Bool × List Gt} (ht : t ∈ ts) : t ∈ us := by
 have L := T.line t ht
 obtain ⟨h, hh⟩ : ∃ h, t.2.head? = some h := by
  cases q : t.2 with
  | nil => exact absurd q L.ne
  | cons x l => exact ⟨x, rfl⟩
 have hm := aqT hh
 obtain ⟨u, hu, hmu⟩ := aoC.mp (all h (L.op h hm))
 have M := U.line u hu
 have s1 := ac2 L M (U.st u hu) hm hmu
 have s2 := ac2 M L (T.st t ht) hmu hm
 obtain ⟨k, hk⟩ : ∃ k, u.2.head? = some k := by
  cases q : u.2 with
  | nil => exact absurd q M.ne
  | cons x l => exact ⟨x, rfl⟩
 have hkm := aqT hk
 have noPrev : ∀ {r : List Gt} {g : Gt}, LineOk rows wd cut true r -> g ∈ r -> yo rows wd cut g ≠ none := fun R hg z => by
  obtain ⟨n, hn, _⟩ := aaR (R.op _ hg) (ah1 R hg).2
  rw [z] at hn
  cases hn
 have kind : t.1 = u.1 := by
  cases h1 : t.1 with
  | true =>
   cases h2 : u.1 with
   | true => rfl
   | false =>
    rw [h1] at L
    exact absurd (U.st u hu h2 k hk) (noPrev L (s2 k hkm))
  | false =>
   cases h2 : u.1 with
   | false => rfl
   | true =>
    rw [h2] at M
    exact absurd (T.st t ht h1 h hh) (noPrev M hmu)
 have hd : h = k := by
  cases h1 : t.1 with
  | true =>
   rcases T.least t ht h1 h hh k (s2 k hkm) with e | e
   ·exact e.symm
   ·rcases U.least u hu (kind ▸ h1) k hk h hmu with e' | e'
    ·exact e'
    ·exact (ajM e e').elim
  | false =>
   have hp := T.st t ht h1 h hh
   obtain ⟨i, hi⟩ := aoJ hmu
   match i, hi with
   | 0, hi =>
    rw [aoX, hi] at hk
    exact Option.some.inj hk
   | i + 1, hi =>
    obtain ⟨hlt, _⟩ := anT.mp hi
    have a1 : u.2[i]? = some u.2[i] := anP (by omega)
    have := next_prev (M.op _ (aof a1)) (M.ch i _ _ a1 hi)
    rw [hp] at this
    cases this
 have e2 : t.2 = u.2 := by
  rw [<- kind] at M
  exact ajL L M (by rw [hh, hk, hd])
 have : t = u := Prod.ext kind e2
 rw [this]
 exact hu
end
open PySem PySem.Spec PyProof.Rows L2
abbrev scr (ns : List Int) : PyData := .list (ns.map .int)
theorem agJ {K : anS} {H : Hp} {a : Addr} {ns : List Int} (h : SqL K H a (ns.map V.int)) : Rep K (hide H L2.f0) (scr ns) (.ref a) := by
 rw [yQ]
 exact rep_list.mpr ⟨a, _, rfl, h, Reps.ints' ns⟩
theorem ale {K : anS} {H : Hp} {v : V} {ns : List Int} (h : Rep K (hide H L2.f0) (scr ns) v) : ∃ a, v = .ref a /\ SqL K H a (ns.map V.int) := by
 rw [yQ] at h
 obtain ⟨a, xs, rfl, h1, h2⟩ := rep_list.mp h
 rw [h2.ints] at h1
 exact ⟨a, rfl, h1⟩
def afC (K : anS) : Sp := fun vs H Q _ => ∃ (a : Addr) (ns : List Int) (i : Int), vs = [.ref a, .int i] /\ SqL K H a (ns.map V.int) /\ ns.length <= 63 /\ 0 <= i /\ i <= 63 /\
 ∀ (p : Addr) (x y : Int) (H' : Hp), Same H H' -> H p = none -> H' p = some (.lst [.int x, .int y]) -> 0 <= x -> 0 <= y -> y < 2147483647 -> Q (.ref p) H'
def agK (K : anS) : Sp := fun vs H Q _ => ∃ (a : Addr) (ns : List Int), vs = [.ref a] /\ SqL K H a (ns.map V.int) /\ ns.length <= 63 /\ ∀ H', Q (.bl true) H'
theorem alf {K : anS} {f : Fx} {t : TA} {ρ : zy} {R R' : List DV -> Prop} (h : PAd K f t ρ R) (i : ∀ xs, R xs -> R' xs) : PAd K f t ρ R' := fun σ H Q e q => h σ H Q e fun xs vs H' g r p => q xs vs H' g r (i xs p)
theorem am6 {K : anS} {ρ : zy} {ns : List Int} {i : Int} {E2 : XK} (h0 : ρ[0]? = some (some (.dat (scr ns)))) (h1 : ρ[1]? = some (some (.dat (.int i)))) (hl : ns.length <= 63) (i0 : 0 <= i) (i1 : i <= 63) :
  ∀ (σ : L2.St) (H : Hp) (Q : VK), EnvOk K L2.f0 ρ σ H -> (∀ (p : Addr) (x y : Int) (H' : Hp), Same H H' -> H p = none -> H' p = some (.lst [.int x, .int y]) -> 0 <= x -> 0 <= y -> y < 2147483647 -> Q (.ref p) H') -> aa2 (afC K) [] E2 (zW (yb 0) (zW (yb 1) yP)) σ H Q := by
 intro σ H Q e q
 obtain ⟨v0, hv0, r0⟩ := e.get 0 _ h0
 obtain ⟨v1, hv1, r1⟩ := e.get 1 _ h1
 obtain ⟨a, rfl, hS⟩ := ale r0
 have e1 : v1 = .int i := rep_int.mp (show Rep K (hide H L2.f0) (.int i) v1 from r1)
 subst e1
 exact ⟨_, hv0, _, hv1, a, ns, i, rfl, hS, hl, i0, i1, q⟩
section
variable {P : Program} {w : World} {K : anS} {mg : Str -> Option Value} {base : Heap} {k : Nat}
theorem alg (F : Def K mg "_law_feed" qq ["_law_script", "_law_k"]) (m_len : mg "len" = none) (m_abs : mg "abs" = none) : FnIn P w K mg base (k + 1) "_law_feed" ["_law_script", "_law_k"] (afC K) := by
 refine F.raw sc_law_feed (fun vs H Q E h => ?_) fun fa cdv A outer s H vs Q E hr hs => ⟨_, (zi (zM (i := 2) sc_law_feed.nd rfl (Or.inl rfl) zj) (zi (z8 (zL aid (zC (zT (K := K) rfl) rfl m_len aoy (zc (pv 0) zh)) zj (zN _)) (zp (zM (i := 2) sc_law_feed.nd rfl (Or.inl rfl) (zV (zH (K := K) rfl) (pv 0) (zJ vW (pv 1) (zC (zT (K := K) rfl) rfl m_len aoy (zc (pv 0) zh))) (fun _ _ => rfl)))) zK) (zp (zB (yr (zc (zC (aii) rfl m_abs PyProof.Rows.boot_abs (zc (pv 2) zh)) (zc (zJ yd (zJ aaY zj (pv 1)) zj) zh))))))), ?_⟩
 ·obtain ⟨a, ns, i, rfl, _⟩ := h
  rfl
 obtain ⟨a, ns, i, rfl, hS, h63, i0, i1, q⟩ := hs
 have e0 : EnvOk K L2.f0 (qD vw [.dat (scr ns), .dat (.int i)]) (start vw [.ref a, .int i]) H := qN (.cons (agJ hS) (.cons (show RepV K L2.f0 H (.dat (.int i)) (.int i) from (rep_int (K := K) (H := hide H L2.f0)).mpr rfl) .nil)) (L2.fok0 H)
 refine aiz (D := { nx := fun ρ => ρ = [some (.dat (scr ns)), some (.dat (.int i)), some (.dat (.int 0))], rt := fun _ => False }) ?_ e0 ?_ (fun _ _ _ _ _ z => z.elim) (fun _ z => z) (fun _ z => z)
 ·repeat walk_at "dl"
  rfl
 rintro _ σ1 H1 g1 e1 rfl
 refine aiz (D := { nx := fun ρ => ∃ c : Int, ρ = [some (.dat (scr ns)), some (.dat (.int i)), some (.dat (.int c))], rt := fun _ => False }) ?_ e1 ?_ (fun _ _ _ _ _ z => z.elim) (fun _ z => z) (fun _ z => z)
 ·repeat walk_at "dl"
  rw [anQ]
  by_cases h : 0 < ns.length
  ·rw [if_pos (by simpa using h)]
   repeat walk_at "dl"
   rw [anQ]
   have z0 := ara i (b := (ns.length : Int)) (by omega)
   have z1 := apK i (b := (ns.length : Int)) (by omega)
   refine ⟨by omega, _, rfl, _, yq (j := (i % (ns.length : Int)).toNat) (by omega) (by omega), ?_⟩
   repeat walk_at "dl"
   exact ⟨_, rfl⟩
  ·rw [if_neg (by simpa using h)]
   repeat walk_at "dl"
   exact ⟨_, rfl⟩
 rintro _ σ2 H2 g2 e2 ⟨c, rfl⟩
 unfold aeJ
 have ss : Same H H2 := (L2.same0 g1).trans (L2.same0 g2)
 refine aiA (R := fun ds => ∃ x y : Int, ds = [.int x, .int y] /\ 0 <= x /\ 0 <= y /\ y < 2147483647) ?_ e2 ?_
 ·repeat walk_at "dl"
  omega
 ·rintro p ds vs H3 g3 hn rs ⟨x, y, rfl, hx, hy, hy'⟩
  have sf : Same H H3 := ss.trans (L2.same0 g3)
  have ev : vs = [.int x, .int y] := Reps.ints (ns := [x, y]) rs
  subst ev
  exact q p x y _ (sf.trans (zZ hn _)) (sf.free hn) zA hx hy hy'
end
open PySem PySem.Spec PyProof.Rows L2
instance (a b : Gt) : Decidable (gLt a b) := by unfold gLt; infer_instance
abbrev Ln := Str × List Gt
def lnD (t : Ln) : PyData := .tuple [.str t.1, .tuple (t.2.map gD3)]
def chB (rows : List (List Int)) (wd : Nat) (cut : Int) (l : List Gt) : Bool := (ass (fun a b => decide (zQ rows wd cut a = some b)) l (l.drop 1)).all id
def clB (rows : List (List Int)) (wd : Nat) (cut : Int) : List Gt -> Bool
 | [] => false
 | h :: l => decide (zQ rows wd cut ((h :: l).getLast (aoH _ _)) = some h) && (h :: l).all fun g => decide (g = h \/ gLt h g)
def edB (rows : List (List Int)) (wd : Nat) (cut : Int) : List Gt -> Bool
 | [] => false
 | h :: l => decide (yo rows wd cut h = none) && decide (zQ rows wd cut ((h :: l).getLast (aoH _ _)) = none)
def jj (rows : List (List Int)) (wd : Nat) (cut : Int) (t : Ln) : Bool := if t.2 = [] \/ ¬ t.2.Nodup then false else if t.2.all (opG rows wd cut) = false \/ chB rows wd cut t.2 = false then false else if t.1 = "ring" then clB rows wd cut t.2 else decide (t.1 = "run") && edB rows wd cut t.2
theorem abC (g : Gt) : abN (gD3 g) := ⟨⟨rfl, by show 1 <= 8; decide⟩, _, rfl⟩
theorem nodup_g {l : List Gt} : (l.map gD3).Nodup ↔ l.Nodup := ⟨fun h => (apq.mp h).imp fun ne e => ne (congrArg gD3 e), fun h => apq.mpr (h.imp fun ne e => ne (vT e))⟩
theorem ajN {α : Type} [DecidableEq α] : ∀ (l us : List α), us.Nodup -> (∀ x, x ∈ us ↔ x ∈ l) -> ¬ l.Nodup -> us.length < l.length
 | [], us, _, _, h => absurd ao4 h
 | x :: t, us, nd, mm, h => by
  by_cases hx : x ∈ t
  ·have := nd.length_le_of_subset (l₂ := t) fun y hy => by
    rcases aoa.mp ((mm y).mp hy) with e | e
    ·rw [e]; exact hx
    ·exact e
   rw [aoe]
   omega
  ·have nt : ¬ t.Nodup := fun z => h (aoY.mpr ⟨hx, z⟩)
   have := ajN t (us.erase x) (nd.erase x) (fun y => by
    rw [nd.mem_erase_iff, mm y, aoa]
    exact ⟨fun z => z.2.resolve_left z.1, fun z => ⟨fun e => hx (e ▸ z), .inr z⟩⟩) nt
   rw [ap6 ((mm x).mpr an0)] at this
   rw [aoe]
   omega
theorem afD {α : Type} [DecidableEq α] {us l : List α} (nd : us.Nodup) (mm : ∀ x, x ∈ us ↔ x ∈ l) : us.length < l.length ↔ ¬ l.Nodup :=
 ⟨fun h n => by
  have := n.length_le_of_subset fun x hx => (mm x).mpr hx
  omega, ajN l us nd mm⟩
theorem agL (q : Option Gt) (g : Gt) : aoo (aaG q) (gD3 g) = decide (q = some g) := by
 cases q with
 | none => rfl
 | some a =>
  show aoo (gD3 a) (gD3 g) = _
  rw [adt]
  exact decide_eq_decide.mpr ⟨fun z => by rw [z], fun z => Option.some.inj z⟩
theorem agM (q : Option Gt) : (aaG q).canLay0 = true := by cases q <;> rfl
theorem acv (q : Option Gt) : (aaG q).depth <= 1 := by
 cases q with
 | none => exact aoI _
 | some g => exact anW 1
section
variable {P : Program} {w : World} {K : anS} {mg : Str -> Option Value} {base : Heap} {k : Nat}
abbrev TPa := List (List Int) × Nat × Int × List Gt
abbrev alN (c : TPa) (xs : List DV) : Prop := xs = [.dat (tab c.1), .dat (.int c.2.2.1), .dat (.tuple (c.2.2.2.map gD3))] /\ Good c.2.1 c.1 /\ c.2.2.2.length <= 900
abbrev ajO (c : TPa) (xs : List DV) : Prop := alN c xs /\ (∀ g ∈ c.2.2.2, opG c.1 c.2.1 c.2.2.1 g = true) /\ c.2.2.2 ≠ []
abbrev acw (K : anS) : Sp := spD K 3 alN fun c r => r = .bool (c.2.2.2.all (opG c.1 c.2.1 c.2.2.1))
theorem afE (F : Def K mg "all_open" qm ["rows", "cut", "path"]) (G_is_open : FnIn P w K mg base k "is_open" ["rows", "cut", "gate"] (abr K)) : FnIn P w K mg base (k + 1) "all_open" ["rows", "cut", "path"] (acw K) := by
 refine F.ok sc_all_open rfl fun fa cdv A outer s H E hr => ⟨_, (zi (jz aoU rfl (qO (K := K) rfl (pv 2)) (zt (i := 3) sc_all_open.nd rfl (Or.inl rfl) (Or.inr rfl)) (zp (z8 (qd (yj (K := K) rfl (zm G_is_open hr rfl (zc (pv 0) (zc (pv 1) (zc (pv 3) zh)))) (fun _ => rfl))) (zp (zB qy)) zK))) (zp (zB qy))), ?_⟩
 rintro f xs ⟨rows, wd, cut, l⟩ hl ⟨rfl, g, few⟩
 try dsimp only [yf, zq]
 dsimp only at *
 refine z9 (aly (ab6 (zw rfl ⟨_, rfl, fun n ρ => (∃ u, ρ = [some (.dat (tab rows)), some (.dat (.int cut)), some (.dat (.tuple (l.map gD3))), u]) /\ ∀ q ∈ l.take n, opG rows wd cut q = true, ⟨⟨_, rfl⟩, fun q hq => by rw [aqt] at hq; cases hq⟩, ?_, ?_⟩)))
 ·rintro n d _ hd ⟨⟨u, rfl⟩, ha⟩
  rw [aob] at hd
  cases et : l[n]? with
  | none => rw [et] at hd; cases hd
  | some q =>
   rw [et] at hd
   cases hd
   refine zv (aeW (vB (yW (zx (rows, wd, cut, q.1, q.2.1, q.2.2) ?_))))
   show PAd K f (zW (yb 0) (zW (yb 1) (zW (yb 3) yP))) [some (.dat (tab rows)), some (.dat (.int cut)), some (.dat (.tuple (l.map gD3))), some (.dat (gD3 q))] _
   unfold gD3
   repeat walk_at "dl"
   rintro _ rfl
   refine ⟨_, rfl, ?_⟩
   cases ho : yI rows wd cut q.1 q.2.1 q.2.2 with
   | true =>
    rw [aoQ, if_neg anR]
    refine yX ⟨⟨_, rfl⟩, fun z hz => ?_⟩
    rw [apo, et] at hz
    rcases aop.mp hz with hz | hz
    ·exact ha z hz
    ·rw [aom.mp hz]; exact ho
   | false =>
    rw [apL, if_pos rfl]
    refine ym (adJ ?_)
    show PyData.bool false = PyData.bool _
    congr 1
    symm
    rw [List.all_eq_false]
    exact ⟨q, aof et, by unfold opG; rw [ho]; exact anR⟩
 ·rintro _ ⟨⟨u, rfl⟩, ha⟩
  rw [anQ, aoG] at ha
  refine ym (adJ ?_)
  show PyData.bool true = PyData.bool _
  congr 1
  symm
  exact aoR.mpr ha
abbrev aeD (K : anS) : Sp := spD K 3 ajO fun c r => r = .bool (chB c.1 c.2.1 c.2.2.1 c.2.2.2)
theorem ah2 (F : Def K mg "goes_on" qV ["rows", "cut", "path"]) (m_all : mg "all" = none) (m_zip : mg "zip" = none) (G_gate_ahead : FnIn P w K mg base k "gate_ahead" ["rows", "cut", "gate"] (abx K)) : FnIn P w K mg base (k + 1) "goes_on" ["rows", "cut", "path"] (aeD K) := by
 refine F.ok afr rfl fun fa cdv A outer s H E hr => ⟨_, (zp (zB (zC (v9 (K := K) rfl rfl) rfl m_all aqX (zc (yK (N := ["gate", "after", "rows", "cut"]) (own := 2) (fr := [0, 1]) ⟨rfl, by decide +kernel, of_decide_eq_true (by kernel_rfl), of_decide_eq_true (by kernel_rfl), of_decide_eq_true (by kernel_rfl), rfl⟩ rfl (ajd (K := K) rfl rfl m_zip (zc (pv 2) (zc (aa4 (akj (K := K) rfl) (pv 2) (acD zj) acC) zh))) (fun _ _ _ _ => (z4 (K := K) (n := 2) rfl rfl (zu (zt (i := 0) (show (["gate", "after", "rows", "cut"] : List Str).Nodup by decide +kernel) rfl (Or.inl rfl) (Or.inr rfl)) (zu (zt (i := 1) (show (["gate", "after", "rows", "cut"] : List Str).Nodup by decide +kernel) rfl (Or.inl rfl) (Or.inr rfl)) z3)))) (fun _ _ _ _ => yO) (fun _ _ _ _ => (yR (yy (K := K) rfl hr.units) (zm G_gate_ahead hr rfl (zc (pv 2) (zc (pv 3) (zc (pv 0) zh)))) (pv 1) (zN _))) rfl rfl (fun _ => rfl)) zh)))), ?_⟩
 rintro f xs ⟨rows, wd, cut, l⟩ hl ⟨⟨rfl, g, few⟩, op, ne⟩
 try dsimp only [yf, zq]
 dsimp only at *
 have pos : 0 < l.length := apt.mpr ne
 refine ym (aiE (PEdO.ped (ab7 (A := fun p : Gt × Gt => .tuple [gD3 p.1, gD3 p.2]) (B := fun p => PyData.bool (decide (zQ rows wd cut p.1 = some p.2))) (l.zip (l.drop 1)) (amL (zS (zw rfl (zS (amv (zw rfl ⟨_, rfl, ?_⟩)) )))))))
 repeat walk_at "dl"
 have e1 : HT.sIx (l.map gD3).length 0 (some 1) = 1 := by
  rw [anQ]
  unfold HT.sIx
  simp
  omega
 have e2 : HT.sIx (l.map gD3).length (l.map gD3).length none = (l.map gD3).length := rfl
 refine ⟨fun z => by rw [e1] at z; exact absurd z.1 (by decide), yB ⟨_, _, rfl, ?_, ?_, ?_, ?_⟩⟩
 ·unfold L2.cutD aja
  rw [e1, e2, apF (by rw [ao6]; omega), <- aqI, List.zipWith_map, List.zip, List.map_zipWith]
 ·rw [List.length_zip]; omega
 ·rintro D ⟨a, b⟩ ρ' es hq ho hes
  have ha := aq8 hq
  obtain ⟨u, v, rfl⟩ := ho.two
  refine yY rfl (zF (zv (zF (zv (yt (qu ?_))))))
  rw [if_pos rfl]
  refine jn hes (yV (zx (rows, wd, cut, a) ?_))
  repeat walk_at "dl"
  refine ⟨⟨rfl, g, op a ha.1⟩, ?_⟩
  rintro _ rfl
  refine zw rfl ⟨agM _, rfl, ?_, ?_, ?_⟩
  ·exact aou (ar1 _ _) (aou (acv _) (by decide))
  ·exact .mk2
  ·rw [if_neg anR, agL]
 ·refine ⟨(l.zip (l.drop 1)).map fun p => decide (zQ rows wd cut p.1 = some p.2), by rw [ap1]; rfl, ?_⟩
  unfold chB
  rw [List.zip, List.map_zipWith]
end
open PySem PySem.Spec PyProof.Rows L2
theorem agN {α : Type} {F : α -> PyData} {h : α} {l : List α} : atI ((h :: l).map F) (-1) = some (F ((h :: l).getLast (aoH _ _))) := by
 have e : ixN ((h :: l).map F).length (-1) = some l.length := by
  unfold ixN
  simp
  omega
 unfold atI
 rw [e]
 show ((h :: l).map F)[l.length]? = _
 rw [aob, List.getLast_eq_getElem, anP (by simp)]
 simp
theorem anD (a b : Gt) : qH (gD3 a) (gD3 b) = true := by
 obtain ⟨x, y, w⟩ := a
 obtain ⟨x', y', w'⟩ := b
 show qH (.tuple [.int x, .int y, .int w]) (.tuple [.int x', .int y', .int w']) = true
 simp only [qH, vp]
 split
 ·split
  ·split <;> rfl
  ·rfl
 ·rfl
theorem alh (a b : Gt) : gLt a b \/ a = b \/ gLt b a := by
 obtain ⟨x, y, w⟩ := a
 obtain ⟨x', y', w'⟩ := b
 unfold gLt
 simp only [Prod.mk.injEq]
 omega
theorem abD {α : Type} {F : α -> PyData} {h : α} {l : List α} : atI ((h :: l).map F) 0 = some (F h) := aaH (j := 0) rfl
section
variable {P : Program} {w : World} {K : anS} {mg : Str -> Option Value} {base : Heap} {k : Nat}
abbrev aeE (K : anS) : Sp := spD K 3 ajO fun c r => r = .bool (clB c.1 c.2.1 c.2.2.1 c.2.2.2)
theorem ah3 (F : Def K mg "is_closed" jM ["rows", "cut", "path"]) (m_min : mg "min" = none) (G_gate_ahead : FnIn P w K mg base k "gate_ahead" ["rows", "cut", "gate"] (abx K)) : FnIn P w K mg base (k + 1) "is_closed" ["rows", "cut", "path"] (aeE K) := by
 refine F.ok adi rfl fun fa cdv A outer s H E hr => ⟨_, (zp (zB (vi (yR (yy (K := K) rfl hr.units) (zm G_gate_ahead hr rfl (zc (pv 0) (zc (pv 1) (zc (zV (yx (K := K) rfl) (pv 2) (als aib zj) (fun _ _ => rfl)) zh)))) (zV (yx (K := K) rfl) (pv 2) zj (fun _ _ => rfl)) (zN _)) (vV (yR (yy (K := K) rfl hr.units) (zV (yx (K := K) rfl) (pv 2) zj (fun _ _ => rfl)) (zC (afe (K := K) rfl rfl hr.units) rfl m_min boot_min (zc (pv 2) zh)) (zN _)))))), ?_⟩
 rintro f xs ⟨rows, wd, cut, l⟩ hl ⟨⟨rfl, g, few⟩, op, ne⟩
 try dsimp only [yf, zq]
 dsimp only at *
 obtain ⟨h, t, rfl⟩ := aps ne
 have ol := op _ (arQ (aoH h t))
 refine ym (v3 (yV (zx (rows, wd, cut, (h :: t).getLast (aoH _ _)) ?_)))
 refine zS (zw rfl (zS (zw rfl (zS (qt (zw rfl ⟨_, rfl, alC (jB ⟨_, rfl, _, rfl, _, agN, yB ⟨rfl, ⟨rfl, g, ol⟩, ?_⟩⟩)⟩))))))
 rintro _ rfl
 refine qt (zw rfl ⟨_, rfl, jB ⟨_, rfl, _, abD, agM _, rfl, aou (ar1 _ _) (aou (acv _) (by decide)), _, rfl, ?_⟩⟩)
 rw [if_neg anR, agL]
 refine yH (fun hq => ?_) fun hq => ?_
 ·refine yV (qt (zw rfl ⟨_, rfl, jB ⟨_, rfl, _, abD, amI (zw rfl ⟨_, rfl, by simp, ?_, ?_, ?_, ?_⟩)⟩⟩))
  ·exact fun d hd => by obtain ⟨z, _, rfl⟩ := aos.mp hd; rfl
  ·intro d hd e he
   obtain ⟨z, _, rfl⟩ := aos.mp hd
   obtain ⟨z', _, rfl⟩ := aos.mp he
   exact anD z z'
  ·exact fun d hd => by obtain ⟨z, _, rfl⟩ := aos.mp hd; show 1 <= 50; decide
  ·intro d hd le
   obtain ⟨m, hm, rfl⟩ := aos.mp hd
   refine ⟨rfl, rfl, by show 1 <= 60; decide, ?_⟩
   rw [if_neg anR, adt]
   show PyData.bool _ = PyData.bool (decide (zQ rows wd cut ((h :: t).getLast (aoH _ _)) = some h) && _)
   rw [hq, apy]
   congr 1
   have lm : ∀ g ∈ h :: t, ¬ gLt g m := fun g hg z => by
    have := le (gD3 g) (ari hg)
    rw [aju z] at this
    cases this
   rw [apB, decide_eq_true_eq, aoR]
   constructor
   ·rintro rfl g hg
    refine decide_eq_true ?_
    rcases alh g h with e | e | e
    ·exact absurd e (lm g hg)
    ·exact .inl e
    ·exact .inr e
   ·intro z
    rcases of_decide_eq_true (z m hm) with e | e
    ·exact e.symm
    ·exact absurd e (lm h an0)
 ·show PyData.bool false = PyData.bool (decide (zQ rows wd cut ((h :: t).getLast (aoH _ _)) = some h) && _)
  rw [hq, apJ]
abbrev agO (K : anS) : Sp := spD K 3 ajO fun c r => r = .bool (edB c.1 c.2.1 c.2.2.1 c.2.2.2)
theorem ajP (F : Def K mg "is_from_edge_to_edge" ye ["rows", "cut", "path"]) (G_comes_in : FnIn P w K mg base k "comes_in" ["rows", "cut", "gate"] (adq K)) (G_gate_ahead : FnIn P w K mg base k "gate_ahead" ["rows", "cut", "gate"] (abx K)) : FnIn P w K mg base (k + 1) "is_from_edge_to_edge" ["rows", "cut", "path"] (agO K) := by
 refine F.ok j8 rfl fun fa cdv A outer s H E hr => ⟨_, (zp (zB (vi (zm G_comes_in hr rfl (zc (pv 0) (zc (pv 1) (zc (zV (yx (K := K) rfl) (pv 2) zj (fun _ _ => rfl)) zh)))) (vV (yR aie (zm G_gate_ahead hr rfl (zc (pv 0) (zc (pv 1) (zc (zV (yx (K := K) rfl) (pv 2) (als aib zj) (fun _ _ => rfl)) zh)))) vU (zN _)))))), ?_⟩
 rintro f xs ⟨rows, wd, cut, l⟩ hl ⟨⟨rfl, g, few⟩, op, ne⟩
 try dsimp only [yf, zq]
 dsimp only at *
 obtain ⟨h, t, rfl⟩ := aps ne
 have ol := op _ (arQ (aoH h t))
 have oh := op h an0
 refine ym (v3 (zx (rows, wd, cut, h) (zS (zw rfl (zS (zw rfl (zS (qt (zw rfl ⟨_, rfl, jB ⟨_, rfl, _, abD, yB ⟨rfl, ⟨rfl, g, oh⟩, ?_⟩⟩⟩)))))))))
 rintro _ rfl
 refine ⟨_, rfl, ?_⟩
 have ei : (!zX rows wd (bhC rows cut h).1 (bhC rows cut h).2) = decide (yo rows wd cut h = none) := by
  rw [apB, decide_eq_true_eq]
  exact afB oh
 show if (!zX rows wd (bhC rows cut h).1 (bhC rows cut h).2) = true then _ else _
 rw [ei]
 refine yH (fun hq => ?_) fun hq => ?_
 ·refine ajI (zx (rows, wd, cut, (h :: t).getLast (aoH _ _)) (zS (zw rfl (zS (zw rfl (zS (qt (zw rfl ⟨_, rfl, alC (jB ⟨_, rfl, _, rfl, _, agN, yB ⟨rfl, ⟨rfl, g, ol⟩, ?_⟩⟩)⟩))))))))
  rintro _ rfl
  refine ⟨abB _, ?_⟩
  show PyData.bool _ = PyData.bool (decide (yo rows wd cut h = none) && decide (zQ rows wd cut ((h :: t).getLast (aoH _ _)) = none))
  rw [hq, apy]
  congr 1
  cases zQ rows wd cut ((h :: t).getLast (aoH _ _)) <;> rfl
 ·show PyData.bool false = PyData.bool (decide (yo rows wd cut h = none) && _)
  rw [hq, apJ]
abbrev TLn := List (List Int) × Nat × Int × Ln
abbrev anE (c : TLn) (xs : List DV) : Prop := xs = [.dat (tab c.1), .dat (.int c.2.2.1), .dat (lnD c.2.2.2)] /\ Good c.2.1 c.1 /\ c.2.2.2.2.length <= 900 /\ aox c.2.2.2.1 = true /\ ∀ us : List Gt, us.Nodup -> (∀ x ∈ us, x ∈ c.2.2.2.2) -> us.length < 300
abbrev ajQ (K : anS) : Sp := spD K 3 anE fun c r => r = .bool (jj c.1 c.2.1 c.2.2.1 c.2.2.2)
theorem ali (F : Def K mg "is_line" qU ["rows", "cut", "line"]) (m_len : mg "len" = none) (m_set : mg "set" = none) (G_all_open : FnIn P w K mg base k "all_open" ["rows", "cut", "path"] (acw K)) (G_goes_on : FnIn P w K mg base k "goes_on" ["rows", "cut", "path"] (aeD K)) (G_is_closed : FnIn P w K mg base k "is_closed" ["rows", "cut", "path"] (aeE K)) (G_is_from_edge_to_edge : FnIn P w K mg base k "is_from_edge_to_edge" ["rows", "cut", "path"] (agO K)) : FnIn P w K mg base (k + 1) "is_line" ["rows", "cut", "line"] (ajQ K) := by
 refine F.ok sc_is_line rfl fun fa cdv A outer s H E hr => ⟨_, (zi (yc (pv 2) (z4 (K := K) (n := 2) rfl rfl (zu (zt (i := 3) sc_is_line.nd rfl (Or.inl rfl) (Or.inr rfl)) (zu (zt (i := 4) sc_is_line.nd rfl (Or.inl rfl) (Or.inr rfl)) z3)))) (zi (z8 (PW.pt (abX (qd (yj (K := K) rfl (pv 4) (fun _ => rfl))) (aaU (zL afK (zC (afj (w := w) rfl) rfl m_len aoy (zc (jw (aeb (w := w) (K := K) rfl rfl rfl hr.units100) rfl m_set ar5 (zc (pv 4) zh)) zh)) (zC (zT (K := K) rfl) rfl m_len aoy (zc (pv 4) zh)) (zN _))))) (zp (zB qy)) zK) (zi (z8 (PW.pt (abX (qd (yj (K := K) rfl (zm G_all_open hr rfl (zc (pv 0) (zc (pv 1) (zc (pv 4) zh)))) (fun _ => rfl))) (aaU (qd (yj (K := K) rfl (zm G_goes_on hr rfl (zc (pv 0) (zc (pv 1) (zc (pv 4) zh)))) (fun _ => rfl)))))) (zp (zB qy)) zK) (zi (z8 (zL (yy (K := K) rfl hr.units) (pv 3) y3 (zN _)) (zp (zB (zm G_is_closed hr rfl (zc (pv 0) (zc (pv 1) (zc (pv 4) zh)))))) zK) (zp (zB (vi (yR (yy (K := K) rfl hr.units) (pv 3) y3 (zN _)) (vV (zm G_is_from_edge_to_edge hr rfl (zc (pv 0) (zc (pv 1) (zc (pv 4) zh)))))))))))), ?_⟩
 rintro f xs ⟨rows, wd, cut, wo, l⟩ hl ⟨rfl, g, few, so, fd⟩
 try dsimp only [yf, zq]
 dsimp only at *
 refine z9 (ya (zw rfl (yY rfl (zF (zv (zF (zv (yt ?_))))))))
 refine z9 (qw (l = [] \/ ¬ l.Nodup) (aeV (vB (yW (zw rfl ⟨_, rfl, ?_⟩)))) (fun hp => ym (adJ ?_)) fun hp => yX ?_)
 ·refine yH (fun hq => ?_) fun hq => ?_
  ·cases l with
   | nil => rfl
   | cons a l => cases hq
  ·have ne : l ≠ [] := fun z => by subst z; cases hq
   refine t_b (adL (ajh (zw rfl ⟨_, rfl, fun x hx => ?_, fun us un us2 => ?_, fun us un mm => ?_⟩)))
   ·obtain ⟨z, _, rfl⟩ := aos.mp hx
    exact abC z
   ·have : ∃ vs : List Gt, us = vs.map gD3 := by
     clear un
     induction us with
     | nil => exact ⟨[], rfl⟩
     | cons a us ih =>
      obtain ⟨vs, rfl⟩ := ih fun x hx => us2 x (anY _ hx)
      obtain ⟨v, _, rfl⟩ := aos.mp (us2 a an0)
      exact ⟨v :: vs, rfl⟩
    obtain ⟨vs, rfl⟩ := this
    rw [anQ]
    refine fd vs (nodup_g.mp un) fun x hx => ?_
    obtain ⟨z, hz, e⟩ := aos.mp (us2 _ (ari hx))
    rw [<- vT e]
    exact hz
   ·repeat walk_at "dl"
    have q : us.length < (l.map gD3).length ↔ ¬ (l.map gD3).Nodup := afD un mm
    rw [nodup_g] at q
    have e : decide (((us.length : Nat) : Int) < (((l.map gD3).length : Nat) : Int)) = decide (l = [] \/ ¬ l.Nodup) := decide_eq_decide.mpr ⟨fun z => .inr (q.mp (by omega)), fun z => by
     have := q.mpr (z.resolve_left ne)
     omega⟩
    exact e
 ·show PyData.bool false = PyData.bool (jj rows wd cut (wo, l))
  unfold jj
  rw [if_pos hp]
 have ne : l ≠ [] := fun z => hp (.inl z)
 have nd : l.Nodup := aoO fun z => hp (.inr z)
 refine z9 (qw (l.all (opG rows wd cut) = false \/ chB rows wd cut l = false) ?_ (fun hp2 => ym (adJ ?_)) fun hp2 => yX ?_)
 ·refine aeV (vB (yW (zx (rows, wd, cut, l) (afk rfl rfl rfl ⟨rfl, ⟨rfl, g, few⟩, ?_⟩))))
  rintro _ rfl
  refine ⟨_, rfl, ?_⟩
  cases ha : l.all (opG rows wd cut) with
  | false =>
   rw [apL, if_pos rfl]
   exact (decide_eq_true (.inl rfl)).symm
  | true =>
   rw [aoQ, if_neg anR]
   refine vB (yW (zx (rows, wd, cut, l) (afk rfl rfl rfl ⟨rfl, ⟨⟨rfl, g, few⟩, aoR.mp ha, ne⟩, ?_⟩)))
   rintro _ rfl
   refine ⟨_, rfl, ?_⟩
   cases hc : chB rows wd cut l <;> simp [hc]
 ·show PyData.bool false = PyData.bool (jj rows wd cut (wo, l))
  unfold jj
  rw [if_neg hp, if_pos hp2]
 have op : ∀ q ∈ l, opG rows wd cut q = true := aoR.mp (by
  cases ha : l.all (opG rows wd cut) with
  | true => rfl
  | false => exact absurd (.inl ha) hp2)
 refine z9 (qw (wo = "ring") ?_ (fun hw => ?_) fun hw => yX ?_)
 ·refine yw (yV (zw rfl (afV ⟨so, by decide +kernel, by show min 0 0 <= 60; decide, _, rfl, ?_⟩)))
  show (wo == apE "ring") = decide (wo = "ring")
  rw [apB, beq_iff_eq, decide_eq_true_eq]
 ·refine ym (zx (rows, wd, cut, l) (afk rfl rfl rfl ⟨rfl, ⟨⟨rfl, g, few⟩, op, ne⟩, ?_⟩))
  rintro _ rfl
  show PyData.bool (clB rows wd cut l) = PyData.bool (jj rows wd cut (wo, l))
  unfold jj
  rw [if_neg hp, if_neg hp2, if_pos hw]
 refine ym (v3 (yV (zw rfl (afV ⟨so, by decide +kernel, by show min 0 0 <= 60; decide, _, rfl, ?_⟩))))
 show if (wo == apE "run") = true then _ else _
 have er : (wo == apE "run") = decide (wo = "run") := by rw [apB, beq_iff_eq, decide_eq_true_eq]
 rw [er]
 have eo : jj rows wd cut (wo, l) = (decide (wo = "run") && edB rows wd cut l) := by
  unfold jj
  rw [if_neg hp, if_neg hp2, if_neg hw]
 rw [eo]
 refine yH (fun hq => ?_) fun hq => ?_
 ·refine zx (rows, wd, cut, l) (afk rfl rfl rfl ⟨rfl, ⟨⟨rfl, g, few⟩, op, ne⟩, ?_⟩)
  rintro _ rfl
  show PyData.bool (edB rows wd cut l) = PyData.bool (decide (wo = "run") && edB rows wd cut l)
  rw [hq, apy]
 ·show PyData.bool false = PyData.bool (decide (wo = "run") && edB rows wd cut l)
  rw [hq, apJ]
end
open PySem PySem.Spec PyProof.Rows L2
def z5 (l : List Gt) : List (PyData × PyData) := l.map fun g => (gD3 g, .bool true)
theorem ah4 (l : List Gt) : (z5 l).map (·.1) = l.map gD3 := by unfold z5; rw [ap1]; rfl
theorem seen_mem {l : List Gt} {g : Gt} : gD3 g ∈ (z5 l).map (·.1) ↔ g ∈ l := by
 rw [ah4]
 refine ⟨fun h => ?_, ari⟩
 obtain ⟨z, hz, e⟩ := aos.mp h
 rw [<- vT e]
 exact hz
theorem aeF {l : List Gt} {g : Gt} (h : g ∉ l) : dput (gD3 g) (.bool true) (z5 l) = z5 (l ++ [g]) := by
 unfold dput
 rw [if_neg fun z => h (seen_mem.mp z)]
 unfold z5
 rw [aoE]
 rfl
def fw (rows : List (List Int)) (wd : Nat) (cut : Int) : List Ln -> List Gt -> Nat -> Option Nat
 | [], _, _ => none
 | t :: ts, seen, i => if jj rows wd cut t = false \/ t.2.any (fun g => decide (g ∈ seen)) = true then some i else fw rows wd cut ts (seen ++ t.2) (i + 1)
def fwD (rows : List (List Int)) (wd : Nat) (cut : Int) (us : List Ln) : PyData := match fw rows wd cut us [] 0 with
 | some i => .int i
 | none => if (us.flatMap (·.2)).length = (zG rows wd cut).length then .none else .int us.length
theorem jS {rows : List (List Int)} {wd : Nat} {cut : Int} {t : Ln} (h : jj rows wd cut t = true) : t.2.Nodup /\ t.2 ≠ [] /\ ∀ g ∈ t.2, opG rows wd cut g = true := by
 unfold jj at h
 by_cases h1 : t.2 = [] \/ ¬ t.2.Nodup
 ·rw [if_pos h1] at h; cases h
 ·rw [if_neg h1] at h
  by_cases h2 : t.2.all (opG rows wd cut) = false \/ chB rows wd cut t.2 = false
  ·rw [if_pos h2] at h; cases h
  ·refine ⟨aoO fun z => h1 (.inr z), fun z => h1 (.inl z), aoR.mp ?_⟩
   cases ha : t.2.all (opG rows wd cut) with
   | true => rfl
   | false => exact absurd (.inl ha) h2
section
variable {P : Program} {w : World} {K : anS} {mg : Str -> Option Value} {base : Heap} {k : Nat}
abbrev aeG (w : World) (K : anS) : Sp := spD K 2 (fun (c : Ln × List Gt) xs => xs = [.dat (lnD c.1), .mon (ac8 w K (z5 c.2))] /\ c.1.2.length <= 900) fun c r => r = .bool (c.1.2.any fun g => decide (g ∈ c.2))
theorem ah5 (F : Def K mg "shares_gate" jg ["line", "seen"]) (m_any : mg "any" = none) : FnIn P w K mg base (k + 1) "shares_gate" ["line", "seen"] (aeG w K) := by
 refine F.ok abq rfl fun fa cdv A outer s H E hr => ⟨_, (zp (zB (zC (ahi (K := K) rfl rfl) rfl m_any PyProof.Rows.boot_any (zc (yK (N := ["gate", "seen"]) (own := 1) (fr := [1]) ⟨rfl, by decide +kernel, of_decide_eq_true (by kernel_rfl), of_decide_eq_true (by kernel_rfl), of_decide_eq_true (by kernel_rfl), rfl⟩ rfl (qO (K := K) rfl (zV (yx (K := K) rfl) (pv 0) zj (fun _ _ => rfl))) (fun _ _ _ _ => (zt (i := 0) (show (["gate", "seen"] : List Str).Nodup by decide +kernel) rfl (Or.inl rfl) (Or.inr rfl))) (fun _ _ _ _ => yO) (fun _ _ _ _ => (yR (aci (w := w) (K := K) rfl rfl hr.units) (pv 0) (pv 1) rfl)) rfl rfl (fun _ => rfl)) zh)))), ?_⟩
 rintro f xs ⟨⟨wo, l⟩, seen⟩ hl ⟨rfl, few⟩
 try dsimp only [yf, zq]
 dsimp only at *
 refine ym (ano (PEdO.ped (ab7 (A := gD3) (B := fun q => PyData.bool (decide (q ∈ seen))) l (ab6 (qt (zw rfl ⟨_, rfl, jB ⟨_, rfl, .tuple (l.map gD3), rfl, _, rfl, rfl, by omega, ?_, ?_⟩⟩))))))
 ·rintro D q ρ' es hq ho hes
  obtain ⟨u, rfl⟩ := ho.one
  refine zv (qu ?_)
  rw [if_pos rfl]
  refine jn hes (alK (zw rfl ⟨abC q, z5 seen, rfl, .mk1, ?_⟩))
  have : decide (gD3 q ∈ (z5 seen).map (·.1)) = decide (q ∈ seen) := decide_eq_decide.mpr seen_mem
  rw [this]
 ·refine ⟨l.map fun q => decide (q ∈ seen), by rw [ap1]; rfl, ?_⟩
  show PyData.bool _ = PyData.bool _
  rw [asq]
  rfl
abbrev TFw := List (List Int) × Nat × Int × List Ln
abbrev afF (t : Ln) : Prop := t.2.length <= 900 /\ aox t.1 = true /\ ∀ us : List Gt, us.Nodup -> (∀ x ∈ us, x ∈ t.2) -> us.length < 300
abbrev anF (K : anS) : Sp := spD K 3 (fun (c : TFw) xs => xs = [.dat (tab c.1), .dat (.int c.2.2.1), .dat (.list (c.2.2.2.map lnD))] /\ Good c.2.1 c.1 /\ c.2.2.2.length <= 900 /\ ∀ t ∈ c.2.2.2, afF t) fun c r => r = fwD c.1 c.2.1 c.2.2.1 c.2.2.2
theorem anG (F : Def K mg "first_wrong" jf ["rows", "cut", "some"]) (m_len : mg "len" = none) (m_enumerate : mg "enumerate" = none) (G_ask_table : FnIn P w K mg base k "ask_table" ["rows"] (agt K)) (G_is_line : FnIn P w K mg base k "is_line" ["rows", "cut", "line"] (ajQ K)) (G_shares_gate : FnIn P w K mg base k "shares_gate" ["line", "seen"] (aeG w K)) (G_gates : FnIn P w K mg base k "gates" ["rows", "cut"] (adm K)) : FnIn P w K mg base (k + 1) "first_wrong" ["rows", "cut", "some"] (anF K) := by
 refine F.ok sc_first_wrong rfl fun fa cdv A outer s H E hr => ⟨_, (zi (y7 (zm G_ask_table hr rfl (zc (pv 0) zh))) (zi (zM (i := 3) sc_first_wrong.nd rfl (Or.inl rfl) (aaf (w := w) rfl)) (zi (jz aoU rfl (adP (K := K) rfl rfl m_enumerate (zc (pv 2) zh)) (z4 (K := K) (n := 2) rfl rfl (zu (zt (i := 4) sc_first_wrong.nd rfl (Or.inl rfl) (Or.inr rfl)) (zu (zt (i := 5) sc_first_wrong.nd rfl (Or.inl rfl) (Or.inr rfl)) z3))) (zi (z8 (PW.pt (abX (qd (yj (K := K) rfl (zm G_is_line hr rfl (zc (pv 0) (zc (pv 1) (zc (pv 5) zh)))) (fun _ => rfl))) (aaU (yj (K := K) rfl (zm G_shares_gate hr rfl (zc (pv 5) (zc (pv 3) zh))) (fun _ => rfl))))) (zp (zB (pv 4))) zK) (zp (jz aoU rfl (qO (K := K) rfl (zV (yx (K := K) rfl) (pv 5) zj (fun _ _ => rfl))) (zt (i := 6) sc_first_wrong.nd rfl (Or.inl rfl) (Or.inr rfl)) (zp (yc qy (jT (pv 3) (pv 6) (vJ (w := w) (K := K) rfl rfl hr.units)))))))) (zp (zB (qz (zL (yy (K := K) rfl hr.units) (zC (vO (w := w) rfl) rfl m_len aoy (zc (pv 3) zh)) (zC (zT (K := K) rfl) rfl m_len aoy (zc (zm G_gates hr rfl (zc (pv 0) (zc (pv 1) zh))) zh)) (zN _)) vU (zC (zT (K := K) rfl) rfl m_len aoy (zc (pv 2) zh)))))))), ?_⟩
 rintro f xs ⟨rows, wd, cut, us⟩ hl ⟨rfl, g, few, gd⟩
 try dsimp only [yf, zq]
 dsimp only at *
 refine z9 (aa9 (zx (rows, wd) ?_))
 repeat walk_at "dl"
 rintro _ rfl
 refine aae (w := w) (acf (afc ⟨show 3 < 7 by decide, fun D => ?_⟩))
 have key : ∀ n t, us[n]? = some t -> us.take (n + 1) = us.take n ++ [t] /\ us.drop n = t :: us.drop (n + 1) := fun n t ht => by
  refine ⟨by rw [apo, ht]; rfl, ?_⟩
  obtain ⟨hlt, e⟩ := anT.mp ht
  rw [<- e]
  exact aqz hlt
 have lenOp : ∀ l : List Gt, l.Nodup -> (∀ g ∈ l, opG rows wd cut g = true) -> l.length <= (zG rows wd cut).length := fun l nd op => nd.length_le_of_subset fun x hx => mem_gates.mpr (op x hx)
 have gl := qa (cut := cut) g
 refine yD (aax (amn (aaF rfl ⟨_, rfl, fun n ρ cs => (∃ x y z, ρ = [some (.dat (tab rows)), some (.dat (.int cut)), some (.dat (.list (us.map lnD))), some (.own (f.M.length + 0)), x, y, z]) /\ cs = [.dic (z5 ((us.take n).flatMap (·.2)))] /\ fw rows wd cut us [] 0 = fw rows wd cut (us.drop n) ((us.take n).flatMap (·.2)) n /\ ((us.take n).flatMap (·.2)).Nodup /\ ∀ g ∈ (us.take n).flatMap (·.2), opG rows wd cut g = true, ⟨⟨_, _, _, rfl⟩, rfl, rfl, ao4, fun g hg => (nomatch hg)⟩, ?_, ?_⟩)))
 ·rintro n d _ _ hd ⟨⟨x, y, z, rfl⟩, rfl, hf, nd, op⟩
  obtain ⟨⟨wo, l⟩, ht, rfl⟩ := ajk hd
  have hm := aof ht
  obtain ⟨few1, so, fd⟩ := gd _ hm
  obtain ⟨k1, k2⟩ := key n _ ht
  generalize hs : (us.take n).flatMap (·.2) = seen at *
  have fr : ∀ x y z, apw (yA w K f.M.length [OC.dic (z5 seen)]) [some (DV.dat (tab rows)), some (.dat (.int cut)), some (.dat (.list (us.map lnD))), some (.own (f.M.length + 0)), some (.dat x), some (.dat y), z] = [some (.dat (tab rows)), some (.dat (.int cut)), some (.dat (.list (us.map lnD))), some (.mon (ac8 w K (z5 seen))), some (.dat x), some (.dat y), yA w K f.M.length [OC.dic (z5 seen)] z] := fun x y z => by simp [yA]
  refine yY rfl (zF (zv (zF (zv (yt ?_)))))
  refine yD (ahv (abo ?_))
  show PTd K f _ (apw (yA w K f.M.length [OC.dic (z5 seen)]) [some (DV.dat (tab rows)), some (.dat (.int cut)), some (.dat (.list (us.map lnD))), some (.own (f.M.length + 0)), some (.dat (.int n)), some (.dat (lnD (wo, l))), z]) _
  rw [fr]
  refine aeV (vB (yW (zx (rows, wd, cut, wo, l) (afk rfl rfl rfl ⟨rfl, ⟨rfl, g, few1, so, fd⟩, ?_⟩))))
  rintro _ rfl
  refine ⟨_, rfl, ?_⟩
  have stop : jj rows wd cut (wo, l) = false \/ l.any (fun g => decide (g ∈ seen)) = true -> fwD rows wd cut us = .int n := fun h => by
   unfold fwD
   rw [hf, k2, fw, if_pos h]
  show if (!jj rows wd cut (wo, l)) = true then _ else _
  refine yH (fun hq => ?_) fun hq => ?_
  ·rw [if_pos rfl]
   refine jX (ym (zw rfl ?_))
   exact (stop (.inl (by cases h : jj rows wd cut (wo, l) with | true => rw [h] at hq; cases hq | false => rfl))).symm
  have hok : jj rows wd cut (wo, l) = true := by cases h : jj rows wd cut (wo, l) with | true => rfl | false => rw [h] at hq; cases hq
  refine yW (zx ((wo, l), seen) (zS (zw rfl (anA (v_var rfl (yB ⟨rfl, ⟨rfl, few1⟩, ?_⟩))))))
  rintro _ rfl
  refine ⟨_, rfl, ?_⟩
  show if (l.any fun g => decide (g ∈ seen)) = true then _ else _
  refine yH (fun hq2 => ?_) fun hq2 => ?_
  ·refine jX (ym (zw rfl ?_))
   exact (stop (.inr hq2)).symm
  obtain ⟨ndl, nel, opl⟩ := jS hok
  dsimp only at ndl nel opl
  have dis : ∀ q ∈ l, q ∉ seen := fun q hq' hs' => by
   have := List.any_eq_false.mp hq2 q hq'
   exact this (decide_eq_true hs')
  refine yC ?_
  have hall : (us.take (n + 1)).flatMap (·.2) = seen ++ l := by
   rw [k1, ao8, hs]
   simp
  have ndA : (seen ++ l).Nodup := ao1.mpr ⟨nd, ndl, fun a ha b hb e => dis b hb (e ▸ ha)⟩
  have opA : ∀ q ∈ seen ++ l, opG rows wd cut q = true := fun q hq' => (aop.mp hq').elim (op q) (opl q)
  have leA := lenOp _ ndA opA
  rw [aoh] at leA
  refine aax (ab6 (qt (zw rfl ⟨_, rfl, jB ⟨_, rfl, .tuple (l.map gD3), rfl, _, rfl, fun m ρ cs => (∃ z, ρ = [some (.dat (tab rows)), some (.dat (.int cut)), some (.dat (.list (us.map lnD))), some (.own (f.M.length + 0)), some (.dat (.int n)), some (.dat (lnD (wo, l))), z]) /\ cs = [.dic (z5 (seen ++ l.take m))], ⟨⟨_, rfl⟩, by rw [aqt, aoN]⟩, ?_, ?_⟩⟩)))
  ·rintro m d _ _ hd ⟨⟨z, rfl⟩, rfl⟩
   rw [aob] at hd
   cases et : l[m]? with
   | none => rw [et] at hd; cases hd
   | some q =>
    rw [et] at hd
    cases hd
    have tk : l.take (m + 1) = l.take m ++ [q] := by rw [apo, et]; rfl
    have fresh : q ∉ seen ++ l.take m := fun z => by
     rcases aop.mp z with z | z
     ·exact dis q (aof et) z
     ·have n2 : (l.take (m + 1)).Nodup := ndl.sublist (arD _ _)
      rw [tk] at n2
      exact (ao1.mp n2).2.2 q z q (aom.mpr rfl) rfl
    have lt : (l.take m).length <= l.length := by rw [aoA]; omega
    refine zv (agn (i := 3) (j := 0) rfl rfl ?_ (adJ (zw rfl ⟨abC q, ⟨_, rfl⟩, ?_⟩)))
    ·unfold z5
     rw [anQ, aoh]
     omega
    ·show [OC.dic (dput (gD3 q) (.bool true) (z5 (seen ++ l.take m)))] = _
     rw [aeF fresh, tk, apr]
  ·rintro _ _ ⟨⟨z, rfl⟩, rfl⟩
   rw [anQ, aoG]
   refine ⟨⟨_, _, _, rfl⟩, by rw [hall], ?_, by rw [hall]; exact ndA, by rw [hall]; exact opA⟩
   rw [hf, k2, fw, if_neg (fun z => z.elim (fun z => by rw [hok] at z; cases z) fun z => by rw [show ((wo, l) : Ln).2 = l from rfl, hq2] at z; cases z), hall]
 ·rintro _ _ ⟨⟨x, y, z, rfl⟩, rfl, hf, nd, op⟩
  rw [ahH, anQ] at *
  rw [aoG] at nd op
  rw [aoG, List.drop_length] at hf
  rw [aoG]
  have le := lenOp _ nd op
  have fr : apw (yA w K f.M.length [OC.dic (z5 (us.flatMap (·.2)))]) [some (DV.dat (tab rows)), some (.dat (.int cut)), some (.dat (.list (us.map lnD))), some (.own (f.M.length + 0)), x, y, z] = [some (.dat (tab rows)), some (.dat (.int cut)), some (.dat (.list (us.map lnD))), some (.mon (ac8 w K (z5 (us.flatMap (·.2))))), yA w K f.M.length [OC.dic (z5 (us.flatMap (·.2)))] x, yA w K f.M.length [OC.dic (z5 (us.flatMap (·.2)))] y, yA w K f.M.length [OC.dic (z5 (us.flatMap (·.2)))] z] := by simp [yA]
  refine akK ?_
  rw [fr]
  have sl : (z5 (us.flatMap (·.2))).length = (us.flatMap (·.2)).length := by unfold z5; rw [anQ]
  have out : fwD rows wd cut us = if (us.flatMap (·.2)).length = (zG rows wd cut).length then .none else .int us.length := by
   unfold fwD
   rw [hf]
   rfl
  refine ym (ais (yw (yV (ajj rfl (by omega) (qC (zS (PEdO.ped (abf (rows, wd, cut) (amM rfl rfl ⟨rfl, ⟨rfl, g⟩, ?_⟩)))))))))
  rintro _ rfl
  refine yB (.inl ⟨_, rfl, rfl, rfl, by show min 0 0 <= 60; decide, _, rfl, ?_⟩)
  rw [if_neg anR, adk, anQ, sl, <- j9]
  dsimp only
  refine yH (fun hq => ?_) fun hq => ?_
  ·refine afW ?_
   show PyData.none = fwD rows wd cut us
   have := of_decide_eq_true hq
   rw [out, if_pos (by omega)]
  ·refine qC (aaF rfl (.inl ⟨_, rfl, ?_⟩))
   show PyData.int _ = fwD rows wd cut us
   have := of_decide_eq_false hq
   rw [out, if_neg (by omega), anQ]
end
open PySem PySem.Spec PyProof.Rows L2
def qx (t : Bool × List Gt) : Ln := (if t.1 = true then "ring" else "run", t.2)
theorem abE (ts : List (Bool × List Gt)) : ts.map yp = (ts.map qx).map lnD := by rw [ap1]; rfl
theorem ajR : ¬ (("run" : Str) = "ring") := by decide +kernel
section
variable {rows : List (List Int)} {wd : Nat} {cut : Int}
theorem chB_iff {l : List Gt} : chB rows wd cut l = true ↔ ∀ (i : Nat) a b, l[i]? = some a -> l[i + 1]? = some b -> zQ rows wd cut a = some b := by
 unfold chB
 rw [aoR]
 constructor
 ·intro h i a b ha hb
  have : (ass (fun a b => decide (zQ rows wd cut a = some b)) l (l.drop 1))[i]? = some (decide (zQ rows wd cut a = some b)) := by
   rw [aqW, ha, aqL, asr 1 i, hb]
  exact of_decide_eq_true (h _ (aof this))
 ·intro h x hx
  obtain ⟨i, hi⟩ := aoJ hx
  rw [aqW] at hi
  cases ha : l[i]? with
  | none => rw [ha] at hi; cases hi
  | some a =>
   cases hb : (l.drop 1)[i]? with
   | none => rw [ha, hb] at hi; cases hi
   | some b =>
    rw [ha, hb] at hi
    cases hi
    rw [aqL, asr 1 i] at hb
    exact decide_eq_true (h i a b ha hb)
theorem abF {h : Gt} {t : List Gt} : (h :: t).getLast? = some ((h :: t).getLast (aoH _ _)) := aq6 _
theorem agP {t : Bool × List Gt} (L : LineOk rows wd cut t.1 t.2) (st : abz rows wd cut t) (le : t.1 = true -> ∀ h, t.2.head? = some h -> ∀ g ∈ t.2, g = h \/ gLt h g) : jj rows wd cut (qx t) = true := by
 obtain ⟨q, l⟩ := t
 dsimp only at L st le
 unfold jj qx
 dsimp only
 have hc := chB_iff.mpr L.ch
 have ho : l.all (opG rows wd cut) = true := aoR.mpr L.op
 rw [if_neg (fun z => z.elim L.ne fun z => z L.nd), if_neg (fun z => z.elim (fun z => by rw [ho] at z; cases z) fun z => by rw [hc] at z; cases z)]
 obtain ⟨h, m, rfl⟩ := aps L.ne
 have la := L.last _ abF
 cases q with
 | true =>
  rw [if_pos rfl, if_pos rfl]
  rw [if_pos rfl] at la
  show (decide (zQ rows wd cut ((h :: m).getLast (aoH _ _)) = some h) && (h :: m).all fun g => decide (g = h \/ gLt h g)) = true
  rw [decide_eq_true (show zQ rows wd cut ((h :: m).getLast (aoH _ _)) = some h from la), apy, aoR]
  exact fun g hg => decide_eq_true (le rfl h rfl g hg)
 | false =>
  rw [if_neg anR, if_neg ajR, decide_eq_true rfl, apy]
  rw [if_neg anR] at la
  show (decide (yo rows wd cut h = none) && decide (zQ rows wd cut ((h :: m).getLast (aoH _ _)) = none)) = true
  rw [decide_eq_true la, aq2]
  exact decide_eq_true (st rfl h rfl)
structure Dealt (rows : List (List Int)) (wd : Nat) (cut : Int) (us : List Ln) : Prop where
 ok : ∀ t ∈ us, jj rows wd cut t = true
 nd : (us.flatMap (·.2)).Nodup
 str : ∀ t ∈ us, aox t.1 = true
theorem alj (t : Bool × List Gt) : aox (qx t).1 = true := by
 obtain ⟨q, l⟩ := t
 cases q
 ·show aox "run" = true
  decide +kernel
 ·show aox "ring" = true
  decide +kernel
theorem aeH {ts : List (Bool × List Gt)} {us : List Ln} (T : Told rows wd cut ts) (p : us.Perm (ts.map qx)) : Dealt rows wd cut us where
 ok := fun t ht => by
  obtain ⟨u, hu, rfl⟩ := aos.mp (p.mem_iff.mp ht)
  exact agP (T.line u hu) (T.st u hu) (T.least u hu)
 nd := by
  have := (p.flatMap_right (fun t : Ln => t.2)).nodup_iff.mpr
  refine this ?_
  rw [aqw]
  exact T.nd
 str := fun t ht => by
  obtain ⟨u, hu, rfl⟩ := aos.mp (p.mem_iff.mp ht)
  exact alj u
theorem Dealt.good {us : List Ln} (g : Good wd rows) (D : Dealt rows wd cut us) : us.length <= 98 /\ ∀ t ∈ us, afF t /\ t.2.length <= 98 := by
 have gl := qa (cut := cut) g
 have le : ∀ l : List Gt, l.Nodup -> (∀ q ∈ l, opG rows wd cut q = true) -> l.length <= 98 := fun l nd op => aou (nd.length_le_of_subset fun x hx => mem_gates.mpr (op x hx)) gl
 refine ⟨?_, fun t ht => ?_⟩
 ·have h1 := le _ D.nd fun q hq => by
   obtain ⟨t, ht, hq⟩ := aoC.mp hq
   exact (jS (D.ok t ht)).2.2 q hq
  have h2 : ∀ us : List Ln, (∀ t ∈ us, t.2 ≠ []) -> us.length <= (us.flatMap (·.2)).length := fun us => by
   induction us with
   | nil => exact fun _ => anW 0
   | cons t us ih =>
    intro h
    have := ih fun u hu => h u (anY _ hu)
    have := apt.mpr (h t an0)
    rw [arE, aoh, aoe]
    omega
  have := h2 us fun t ht => (jS (D.ok t ht)).2.1
  omega
 ·obtain ⟨nd, ne, op⟩ := jS (D.ok t ht)
  have := le _ nd op
  exact ⟨⟨by omega, D.str t ht, fun vs vn vs2 => by have := le vs vn fun q hq => op q (vs2 q hq); omega⟩, this⟩
theorem adu (t : Ln) (h : aox t.1 = true) : (lnD t).canLay0 = true /\ (lnD t).depth <= 3 := by
 obtain ⟨wo, l⟩ := t
 have hg : ∀ l : List Gt, aoL (l.map gD3) = true := fun l => by
  induction l with
  | nil => rfl
  | cons g l ih => exact ih
 refine ⟨?_, ?_⟩
 ·show ((PyData.str wo).canLay0 && (aoL (l.map gD3) && true)) = true
  rw [hg l, show (PyData.str wo).canLay0 = true from h]
  rfl
 ·show max 0 (max (aog (l.map gD3) + 1) 0) + 1 <= 3
  have := aaB l
  omega
theorem aaT : ∀ (us : List Ln), (∀ t ∈ us, aox t.1 = true) -> aoL (us.map lnD) = true /\ aog (us.map lnD) <= 3
 | [], _ => ⟨rfl, aoI _⟩
 | t :: us, h => by
  obtain ⟨a, b⟩ := aaT us fun u hu => h u (anY _ hu)
  obtain ⟨c, d⟩ := adu t (h t an0)
  exact ⟨by show ((lnD t).canLay0 && aoL (us.map lnD)) = true; rw [a, c]; rfl, Nat.max_le.mpr ⟨d, b⟩⟩
theorem alk {ts : List (Bool × List Gt)} {us : List Ln} (T : Told rows wd cut ts) (aT : ∀ g, opG rows wd cut g = true -> g ∈ flat ts) (p : us.Perm (ts.map qx)) : (us.flatMap (·.2)).length = (zG rows wd cut).length := by
 have e : (us.flatMap (·.2)).length = (flat ts).length := by
  rw [(p.flatMap_right (fun t : Ln => t.2)).length_eq, aqw]
  rfl
 have h1 := T.nd.length_le_of_subset (l₂ := zG rows wd cut) fun x hx => mem_gates.mpr (by
  obtain ⟨t, ht, hq⟩ := aoC.mp hx
  exact (T.line t ht).op x hq)
 have h2 := (gates_nd (rows := rows) (wd := wd) (cut := cut)).length_le_of_subset (l₂ := flat ts) fun x hx => aT x (mem_gates.mp hx)
 omega
end
section
variable {P : Program} {w : World} {K : anS} {mg : Str -> Option Value} {base : Heap} {k : Nat}
abbrev agQ (K : anS) : Sp := spN K 2 (fun (c : List PyData) xs => xs = [.feed, .dat (.list c)] /\ c.length <= 900 /\ aoL c = true) fun c es => es.Perm c
theorem aeI {α : Type} : ∀ (l : List α) (n : Nat) (h : n < l.length), (l[n] :: l.eraseIdx n).Perm l
 | a :: l, 0, _ => .refl _
 | a :: l, n + 1, h => by
  have hn : n < l.length := aqQ h
  have := aeI l n hn
  show (l[n] :: a :: l.eraseIdx n).Perm (a :: l)
  exact (List.Perm.swap a l[n] _).trans (this.cons a)
theorem acx : ∀ (l : List PyData) (k : Nat), aoL l = true -> aoL (l.eraseIdx k) = true
 | [], _, _ => rfl
 | d :: l, 0, h => by
  have h : (d.canLay0 && aoL l) = true := h
  rw [anZ] at h
  exact h.2
 | d :: l, k + 1, h => by
  have h : (d.canLay0 && aoL l) = true := h
  rw [anZ] at h
  show (d.canLay0 && aoL (l.eraseIdx k)) = true
  rw [h.1, acx l k h.2]
  rfl
theorem ajS (F : Def K mg "_law_dealt" jP ["_law_feed_here", "_law_some"]) (m_len : mg "len" = none) (m_list : mg "list" = none) (G__law_draw : FnIn P w K mg base k "_law_draw" ["_law_feed_here", "_law_many"] (vx K)) : FnIn P w K mg base (k + 1) "_law_dealt" ["_law_feed_here", "_law_some"] (agQ K) := by
 refine F.okN sc_law_dealt rfl fun fa cdv A outer s H E hr => ⟨_, (zi (zM (i := 2) sc_law_dealt.nd rfl (Or.inl rfl) (jw (vm (K := K) rfl) rfl m_list aql (zc (pv 1) zh))) (zi (zM (i := 3) sc_law_dealt.nd rfl (Or.inl rfl) (yr zh)) (zi (adz aoU (zL (qE (K := K) rfl hr.units) (pv 2) (yr zh) (zN _)) (zp (y7 (aa6 ao2 aqJ aqK vZ (pv 3) (zc (aa6 ao2 ar6 ar7 adB (pv 2) (zc (zm G__law_draw hr rfl (zc (pv 0) (zc (zC (zT (K := K) rfl) rfl m_len aoy (zc (pv 2) zh)) zh))) zh)) zh))))) (zp (zB (pv 3)))))), ?_⟩
 rintro f xs c hl ⟨rfl, few, lay⟩
 try dsimp only [yf, zq]
 refine akN (w := w) (amP (qP (aed (zw rfl ⟨c, .inl rfl, show 2 < 4 by decide, fun D => ?_⟩))))
 refine akO (qP (alz ⟨show 3 < 4 by decide, fun D2 => ?_⟩))
 refine amN (agj (fun ρ cs => ∃ l m, ρ = [some .feed, some (.dat (.list c)), some (.own (f.M.length + 0)), some (.own (f.M.length + 1))] /\ cs = [.lst l, .lst m] /\ (m ++ l).Perm c /\ aoL l = true) (fun _ cs => match cs with | [.lst l, _] => l.length | _ => 0) ⟨c, [], rfl, rfl, .refl _, lay⟩ ?_)
 rintro _ _ ⟨l, m, rfl, rfl, pm, ll⟩
 have lp := pm.length_eq
 rw [aoh] at lp
 have fr : apw (freed f.M.length [OC.lst l, OC.lst m]) [some DV.feed, some (.dat (.list c)), some (.own (f.M.length + 0)), some (.own (f.M.length + 1))] = [some .feed, some (.dat (.list c)), some (.dat (.list l)), some (.dat (.list m))] := by simp [freed]
 refine aaN ?_
 rw [fr]
 refine yw (yV (zw rfl (aap (yB ⟨_, rfl, aoI _, ll, rfl, aou (aqu _ _) (by show 1 <= 60; decide), _, rfl, ?_⟩))))
 rw [if_pos rfl]
 cases l with
 | nil =>
  rw [show aoo (.list []) (.list []) = true from rfl, aoQ, if_neg anR]
  rw [aoN] at pm
  exact amO (i := 3) (j := 1) rfl rfl pm
 | cons d l =>
  rw [show aoo (.list (d :: l)) (.list []) = false from rfl, apL, if_pos rfl]
  rw [aoe] at lp
  refine aji (i := 3) (n := 2) (a := 1) (b := 0) rfl rfl rfl rfl (by decide) (by omega) (by rw [aoe]; omega) ?_
  refine vM ?_
  rw [fr]
  refine zx ((d :: l).length : Nat) (qB rfl (zS (qC (aaF rfl (.inl ⟨_, rfl, yB ⟨rfl, ⟨rfl, ?_, ?_⟩, ?_⟩⟩)))))
  ·rw [aoe]; omega
  ·rw [aoe]; omega
  rintro _ ⟨i, rfl, i0, i1⟩
  obtain ⟨n, rfl⟩ := api i0
  have hn : n < (d :: l).length := by omega
  refine ⟨_, rfl, n, rfl, (d :: l)[n], anP hn, ⟨(d :: l).eraseIdx n, m ++ [(d :: l)[n]], rfl, rfl, ?_, acx _ _ ll⟩, ?_⟩
  ·refine List.Perm.trans ?_ pm
   rw [apr]
   refine List.Perm.append_left m ?_
   rw [List.singleton_append]
   exact aeI _ _ hn
  ·show ((d :: l).eraseIdx n).length < (d :: l).length
   rw [ary hn, aoe]
   omega
end
open PySem PySem.Spec PyProof.Rows L2
def bnd (j : Nat) : Nat := 99 * 2 ^ j - 1
structure OkS (j : Nat) (t : Ln) : Prop where
 len : t.2.length <= bnd j
 str : aox t.1 = true
 dst : ∀ us : List Gt, us.Nodup -> (∀ x ∈ us, x ∈ t.2) -> us.length <= 98 + j
theorem ajT (j : Nat) : bnd (j + 1) = 2 * bnd j + 1 := by
 unfold bnd
 have : 0 < 2 ^ j := Nat.two_pow_pos j
 rw [Nat.pow_succ]
 omega
theorem OkS.up {j : Nat} {t : Ln} (h : OkS j t) : OkS (j + 1) t := ⟨by have := h.len; rw [ajT]; omega, h.str, fun us a b => by have := h.dst us a b; omega⟩
structure Sp2 (l m : List Gt) : Prop where
 len : m.length <= 2 * l.length + 1
 mem : ∃ g0, ∀ x ∈ m, x ∈ l \/ x = g0
theorem OkS.sp {j : Nat} {wo wo' : Str} {l m : List Gt} (h : OkS j (wo, l)) (s : Sp2 l m) (w : aox wo' = true) : OkS (j + 1) (wo', m) := by
 obtain ⟨g0, hg⟩ := s.mem
 refine ⟨?_, w, fun us un us2 => ?_⟩
 ·have a := h.len
  have b := s.len
  rw [ajT]
  dsimp only at a b ⊢
  omega
 ·have := h.dst (us.erase g0) (un.erase g0) fun x hx => by
   rw [un.mem_erase_iff] at hx
   exact (hg x (us2 x hx.2)).resolve_right hx.1
  have l1 : us.length <= (us.erase g0).length + 1 := by
   by_cases hm : g0 ∈ us
   ·rw [ap6 hm]; omega
   ·rw [List.erase_of_not_mem hm]; omega
  omega
theorem Sp2.refl (l : List Gt) : Sp2 l l := ⟨by omega, (0, 0, 0), fun x hx => .inl hx⟩
theorem Sp2.of {l m : List Gt} (h : m.length <= 2 * l.length + 1) (s : ∀ x ∈ m, x ∈ l) : Sp2 l m := ⟨h, (0, 0, 0), fun x hx => .inl (s x hx)⟩
section
variable {P : Program} {w : World} {K : anS} {mg : Str -> Option Value} {base : Heap} {k : Nat}
theorem isG (a b c : Int) : ∃ g : Gt, PyData.tuple [.int a, .int b, .int c] = gD3 g := ⟨(a, b, c), rfl⟩
abbrev agR (K : anS) : Sp := spD K 2 (fun (c : Gt) xs => xs = [.feed, .dat (gD3 c)]) fun _ r => ∃ g, r = gD3 g
theorem ajU (F : Def K mg "_law_other" jQ ["_law_feed_here", "_law_gate"]) (G__law_draw : FnIn P w K mg base k "_law_draw" ["_law_feed_here", "_law_many"] (vx K)) : FnIn P w K mg base (k + 1) "_law_other" ["_law_feed_here", "_law_gate"] (agR K) := by
 refine F.ok sc_law_other rfl fun fa cdv A outer s H E hr => ⟨_, (zi (yc (pv 1) (z4 (K := K) (n := 3) rfl rfl (zu (zt (i := 2) sc_law_other.nd rfl (Or.inl rfl) (Or.inr rfl)) (zu (zt (i := 3) sc_law_other.nd rfl (Or.inl rfl) (Or.inr rfl)) (zu (zt (i := 4) sc_law_other.nd rfl (Or.inl rfl) (Or.inr rfl)) z3))))) (zi (zM (i := 5) sc_law_other.nd rfl (Or.inl rfl) (yr (zc (zR (zc (pv 2) (zc (pv 3) (zc (zJ jk zj (pv 4)) zh)))) (zc (zR (zc (zJ yd (pv 2) zj) (zc (pv 3) (zc (pv 4) zh)))) (zc (zR (zc (pv 2) (zc (zJ jk (pv 3) zj) (zc (pv 4) zh)))) (zc (zR (zc (pv 2) (zc (pv 3) (zc zj zh)))) (zc (zR (zc (zJ vX zj zj) (zc (pv 3) (zc (pv 4) zh)))) (zc (zR (zc (zJ jk (zJ jk zj (pv 2)) zj) (zc (pv 3) (zc (pv 4) zh)))) zh)))))))) (zp (zB (zV (zH (K := K) rfl) (zJ (vF (K := K) rfl) (pv 5) (yr (zc (zR (zc (pv 2) (zc (pv 3) (zc (zJ jk (pv 4) zj) zh)))) zh))) (zm G__law_draw hr rfl (zc (pv 0) (zc zj zh))) (fun _ _ => rfl)))))), ?_⟩
 rintro f xs ⟨x, y, wy⟩ hl rfl
 try dsimp only [yf, zq]
 refine z9 (ya (zw rfl (yY rfl (zF (zv (zF (zv (zF (zv (yt ?_))))))))))
 refine z9 (ya (aap ?_))
 repeat walk_at "dl"
 refine acP (zw rfl ⟨_, rfl, aap ?_⟩)
 repeat walk_at "dl"
 refine zx 7 ?_
 repeat walk_at "dl"
 rintro _ ⟨i, rfl, i0, i1⟩
 have : i = 0 \/ i = 1 \/ i = 2 \/ i = 3 \/ i = 4 \/ i = 5 \/ i = 6 := by omega
 rcases this with rfl | rfl | rfl | rfl | rfl | rfl | rfl <;> exact ⟨_, rfl, _, rfl, isG _ _ _⟩
abbrev acy (K : anS) : Sp := spD K 2 (fun (c : Nat × Ln) xs => xs = [.feed, .dat (lnD c.2)] /\ OkS c.1 c.2 /\ c.1 <= 2 /\ c.2.2 ≠ []) fun c r => ∃ t, r = lnD t /\ OkS (c.1 + 1) t
theorem abG {α β : Type} {F : α -> β} : ∀ (l : List α) (n : Nat), (l.map F).eraseIdx n = (l.eraseIdx n).map F
 | [], _ => rfl
 | _ :: _, 0 => rfl
 | a :: l, n + 1 => by
  show F a :: (l.map F).eraseIdx n = F a :: (l.eraseIdx n).map F
  rw [abG l n]
theorem afM {n d k : Nat} (h : k <= n) : HT.sIx n d (some (k : Int)) = k := by
 unfold HT.sIx
 simp only
 rw [if_neg (by omega)]
 omega
theorem adv {α : Type} (l : List α) (n : Nat) : ∀ x ∈ l.eraseIdx n, x ∈ l := fun x hx => (List.eraseIdx_sublist l n).subset hx
theorem am7 {j : Nat} (h : j <= 2) : bnd j <= 395 := by
 unfold bnd
 have : j = 0 \/ j = 1 \/ j = 2 := by omega
 rcases this with rfl | rfl | rfl <;> decide
theorem afG (F : Def K mg "_law_spoiled" jh ["_law_feed_here", "_law_line"]) (m_len : mg "len" = none) (m_list : mg "list" = none) (m_tuple : mg "tuple" = none) (m_reversed : mg "reversed" = none) (G__law_draw : FnIn P w K mg base k "_law_draw" ["_law_feed_here", "_law_many"] (vx K)) (G__law_other : FnIn P w K mg base k "_law_other" ["_law_feed_here", "_law_gate"] (agR K)) : FnIn P w K mg base (k + 1) "_law_spoiled" ["_law_feed_here", "_law_line"] (acy K) := by
 refine F.ok sc_law_spoiled rfl fun fa cdv A outer s H E hr => ⟨_, (zi (yc (pv 1) (z4 (K := K) (n := 2) rfl rfl (zu (zt (i := 2) sc_law_spoiled.nd rfl (Or.inl rfl) (Or.inr rfl)) (zu (zt (i := 3) sc_law_spoiled.nd rfl (Or.inl rfl) (Or.inr rfl)) z3)))) (zi (zM (i := 4) sc_law_spoiled.nd rfl (Or.inl rfl) (jw (vm (K := K) rfl) rfl m_list aql (zc (pv 3) zh))) (zi (zM (i := 5) sc_law_spoiled.nd rfl (Or.inl rfl) (zm G__law_draw hr rfl (zc (pv 0) (zc (zC (zT (K := K) rfl) rfl m_len aoy (zc (pv 4) zh)) zh)))) (zi (zM (i := 6) sc_law_spoiled.nd rfl (Or.inl rfl) (zm G__law_draw hr rfl (zc (pv 0) (zc zj zh)))) (zi (z8 (zL (yy (K := K) rfl hr.units) (pv 6) zj (zN _)) (zp (y7 (aa6 ao2 ar6 ar7 adB (pv 4) (zc (pv 5) zh)))) zK) (zi (z8 (zL (yy (K := K) rfl hr.units) (pv 6) zj (zN _)) (zp (y7 (aa6 ao2 arJ arK ack (pv 4) (zc (pv 5) (zc (zV (zH (K := K) rfl) (pv 4) (pv 5) (fun _ _ => rfl)) zh))))) zK) (zi (z8 (zL (yy (K := K) rfl hr.units) (pv 6) zj (zN _)) (zp (yc (zm G__law_other hr rfl (zc (pv 0) (zc (zV (zH (K := K) rfl) (pv 4) (pv 5) (fun _ _ => rfl)) zh))) (jT (pv 4) (pv 5) set_list))) zK) (zi (z8 (zL (yy (K := K) rfl hr.units) (pv 6) zj (zN _)) (zp (yc (zR (zc (zV (zH (K := K) rfl) (pv 4) (zJ jk (pv 5) zj) (fun _ _ => rfl)) (zc (zV (zH (K := K) rfl) (pv 4) (pv 5) (fun _ _ => rfl)) zh))) (z4 (K := K) (n := 2) rfl rfl (zu (jT (pv 4) (pv 5) set_list) (zu (jT (pv 4) (zJ jk (pv 5) zj) set_list) z3))))) zK) (zi (z8 (zL (yy (K := K) rfl hr.units) (pv 6) zj (zN _)) (zp (zM (i := 4) sc_law_spoiled.nd rfl (Or.inl rfl) (ae1 (K := K) rfl rfl rfl m_list aql rfl m_reversed boot_reversed (pv 4)))) zK) (zi (z8 (zL (yy (K := K) rfl hr.units) (pv 6) zj (zN _)) (zp (zM (i := 4) sc_law_spoiled.nd rfl (Or.inl rfl) (zJ (vF (K := K) rfl) (aa4 (adR (K := K) rfl) (pv 4) (acD (pv 5)) acC) (aa4 (adR (K := K) rfl) (pv 4) acC (acD (pv 5)))))) zK) (zi (z8 (zL (yy (K := K) rfl hr.units) (pv 6) zj (zN _)) (zp (zM (i := 2) sc_law_spoiled.nd rfl (Or.inl rfl) (zV (zH (K := K) rfl) (yr (zc y3 (zc y3 (zc y3 (zc y3 (zc y3 zh)))))) (zm G__law_draw hr rfl (zc (pv 0) (zc zj zh))) (fun _ _ => rfl)))) zK) (zi (z8 (zL (yy (K := K) rfl hr.units) (pv 6) zj (zN _)) (zp (zM (i := 4) sc_law_spoiled.nd rfl (Or.inl rfl) (yr zh))) zK) (zi (z8 (zL (yy (K := K) rfl hr.units) (pv 6) zj (zN _)) (zp (zM (i := 4) sc_law_spoiled.nd rfl (Or.inl rfl) (zJ (vF (K := K) rfl) (pv 4) (pv 4)))) zK) (zp (zB (zR (zc (pv 2) (zc (jw (aar (K := K) rfl) rfl m_tuple arR (zc (pv 4) zh)) zh)))))))))))))))))), ?_⟩
 rintro f xs ⟨j, wo, l⟩ hl ⟨rfl, ok, j2, ne⟩
 try dsimp only [yf, zq]
 dsimp only at *
 have pos : 0 < l.length := apt.mpr ne
 have few : l.length <= 395 := aou ok.len (am7 j2)
 have ml : (l.map gD3).length = l.length := anQ _
 refine z9 (ya (zw rfl (yY rfl (zF (zv (zF (zv (yt ?_))))))))
 refine aae (w := w) (acf (qP (aed (zw rfl ⟨_, .inr rfl, show 4 < 7 by decide, fun D => ?_⟩))))
 have fr : ∀ (es : List PyData) (wo : Str) (a b : Option DV), apw (freed f.M.length [OC.lst es]) [some DV.feed, some (.dat (lnD (wo, l))), some (.dat (.str wo)), some (.dat (.tuple (l.map gD3))), some (.own (f.M.length + 0)), a, b] = [some .feed, some (.dat (lnD (wo, l))), some (.dat (.str wo)), some (.dat (.tuple (l.map gD3))), some (.dat (.list es)), freed f.M.length [OC.lst es] a, freed f.M.length [OC.lst es] b] := fun es wo a b => by simp [freed]
 refine yD (ai8 (vM ?_))
 show PEd K f _ (apw (freed f.M.length [OC.lst (l.map gD3)]) [some DV.feed, some (.dat (lnD (wo, l))), some (.dat (.str wo)), some (.dat (.tuple (l.map gD3))), some (.own (f.M.length + 0)), none, none]) _
 rw [fr]
 refine zx (l.length : Nat) (qB rfl (zS (qC (aaF rfl (.inl ⟨_, rfl, yB ⟨rfl, ⟨by rw [ml], by omega, by omega⟩, ?_⟩⟩)))))
 rintro _ ⟨at_, rfl, a0, a1⟩
 obtain ⟨at_, rfl⟩ := api a0
 have hat : at_ < l.length := by omega
 refine ⟨_, rfl, yD (ai8 (vc (zx 9 ?_)))⟩
 repeat walk_at "dl"
 rintro _ ⟨wv, rfl, w0, w1⟩
 show PSm w K f [D] _ [some DV.feed, some (.dat (lnD (wo, l))), some (.dat (.str wo)), some (.dat (.tuple (l.map gD3))), some (.own (f.M.length + 0)), some (.dat (.int at_)), some (.dat (.int wv))] [OC.lst (l.map gD3)] _
 by_cases hw : wv < 4
 ·have sk : ∀ (k : Int) (m : List Gt), wv < k \/ m = l -> ¬ wv = k -> wv < k + 1 \/ m = l := fun k m h n => h.elim (fun h => .inl (by omega)) .inr
  have J0 : ∃ m, [OC.lst (l.map gD3)] = [OC.lst (m.map gD3)] /\ Sp2 l m /\ (wv < 0 \/ m = l) := ⟨l, rfl, .refl l, .inr rfl⟩
  obtain ⟨m, em, sm, hm⟩ := J0
  rw [em]
  clear em
  refine acj (fun ρ cs => ρ = [some DV.feed, some (.dat (lnD (wo, l))), some (.dat (.str wo)), some (.dat (.tuple (l.map gD3))), some (.own (f.M.length + 0)), some (.dat (.int at_)), some (.dat (.int wv))] /\ ∃ m, cs = [OC.lst (m.map gD3)] /\ Sp2 l m /\ (wv < 1 \/ m = l)) ?_ ?_
  ·refine j7 (wv = 0) (aaD (yZ rfl)) (fun hk => ?_) fun hk => yC ⟨rfl, _, rfl, sm, sk 0 _ hm hk⟩
   obtain rfl := hm.resolve_left (by omega)
   refine akJ (n := 4) (b := 0) rfl rfl (by rw [anQ]; omega) (vc (zw rfl ⟨at_, rfl, by rw [anQ]; omega, rfl, m.eraseIdx at_, ?_, ?_, .inl (by omega)⟩))
   ·show [OC.lst ((m.map gD3).eraseIdx at_)] = _
    rw [abG]
   ·exact .of (by rw [ary hat]; omega) (adv m at_)
  rintro _ _ ⟨rfl, m, rfl, sm, hm⟩
  refine acj (fun ρ cs => ρ = [some DV.feed, some (.dat (lnD (wo, l))), some (.dat (.str wo)), some (.dat (.tuple (l.map gD3))), some (.own (f.M.length + 0)), some (.dat (.int at_)), some (.dat (.int wv))] /\ ∃ m, cs = [OC.lst (m.map gD3)] /\ Sp2 l m /\ (wv < 2 \/ m = l)) ?_ ?_
  ·refine j7 (wv = 1) (aaD (yZ rfl)) (fun hk => ?_) fun hk => yC ⟨rfl, _, rfl, sm, sk 1 _ hm hk⟩
   obtain rfl := hm.resolve_left (by omega)
   refine aee (i := 4) (j := 0) rfl rfl (by rw [anQ]; omega) (vc (zw rfl ⟨at_, rfl, by rw [anQ]; omega, acm (i := 4) (j := 0) rfl rfl (vc (zw rfl ⟨_, rfl, gD3 m[at_], yq rfl hat, rfl, m.take at_ ++ m[at_] :: m.drop at_, ?_, ?_, .inl (by omega)⟩))⟩))
   ·show [OC.lst ((m.map gD3).take at_ ++ gD3 m[at_] :: (m.map gD3).drop at_)] = _
    rw [aoE, aor, aq1, aqI]
   ·refine .of ?_ fun x hx => ?_
    ·rw [aoh, aoe, aoA, ao6]
     omega
    ·rcases aop.mp hx with h | h
     ·exact aqs h
     ·rcases aoa.mp h with h | h
      ·rw [h]; exact aot hat
      ·exact aq7 h
  rintro _ _ ⟨rfl, m, rfl, sm, hm⟩
  refine acj (fun ρ cs => ρ = [some DV.feed, some (.dat (lnD (wo, l))), some (.dat (.str wo)), some (.dat (.tuple (l.map gD3))), some (.own (f.M.length + 0)), some (.dat (.int at_)), some (.dat (.int wv))] /\ ∃ m, cs = [OC.lst (m.map gD3)] /\ Sp2 l m /\ (wv < 3 \/ m = l)) ?_ ?_
  ·refine j7 (wv = 2) (aaD (yZ rfl)) (fun hk => ?_) fun hk => yC ⟨rfl, _, rfl, sm, sk 2 _ hm hk⟩
   obtain rfl := hm.resolve_left (by omega)
   refine ai9 (i := 4) (j := 0) rfl rfl (agr (agq rfl (aaO (acm (i := 4) (j := 0) rfl rfl (vc (zw rfl ⟨_, rfl, gD3 m[at_], yq rfl hat, afl ⟨m[at_], rfl, rfl, ?_⟩⟩))))))
   rintro _ ⟨g', rfl⟩
   refine vc (zw rfl ⟨_, at_, rfl, by rw [anQ]; exact acM rfl hat, rfl, m.set at_ g', ?_, ⟨by rw [apf]; omega, g', fun x hx => ?_⟩, .inl (by omega)⟩)
   ·show [OC.lst ((m.map gD3).set at_ (gD3 g'))] = _
    rw [arY]
   ·exact (apT hx)
  rintro _ _ ⟨rfl, m, rfl, sm, hm⟩
  refine acj (fun ρ cs => ρ = [some DV.feed, some (.dat (lnD (wo, l))), some (.dat (.str wo)), some (.dat (.tuple (l.map gD3))), some (.own (f.M.length + 0)), some (.dat (.int at_)), some (.dat (.int wv))] /\ ∃ m, cs = [OC.lst (m.map gD3)] /\ Sp2 l m /\ (wv < 4 \/ m = l)) ?_ ?_
  ·refine j7 (wv = 3) (aaD (yZ rfl)) (fun hk => ?_) fun hk => yC ⟨rfl, _, rfl, sm, sk 3 _ hm hk⟩
   obtain rfl := hm.resolve_left (by omega)
   have hpr : ∃ pr : Nat, pr < m.length /\ atI (m.map gD3) ((at_ : Int) - 1) = some (gD3 (m.getD pr (0, 0, 0))) /\ ixN m.length ((at_ : Int) - 1) = some pr := by
    by_cases h0 : at_ = 0
    ·refine ⟨m.length - 1, by omega, ?_, ?_⟩
     ·subst h0
      have : ixN (m.map gD3).length (((0 : Nat) : Int) - 1) = some (m.length - 1) := by
       unfold ixN
       simp
       omega
      unfold atI
      rw [this]
      show (m.map gD3)[m.length - 1]? = _
      rw [aob, anP (by omega), anU, anP (by omega)]
      rfl
     ·subst h0
      unfold ixN
      simp
      omega
    ·refine ⟨at_ - 1, by omega, ?_, acM (by omega) (by omega)⟩
     rw [anU, anP (by omega)]
     exact yq (by omega) (by omega)
   obtain ⟨pr, hpr, ha, hi⟩ := hpr
   have mpr : m.getD pr (0, 0, 0) ∈ m := by rw [anU, anP hpr]; exact aot hpr
   refine amR (i := 4) (j := 0) rfl rfl (amQ (aaO (acm (i := 4) (j := 0) rfl rfl (vc (adK (zw rfl ?_))))))
   repeat walk_at "dl"
   refine ⟨_, ha, aaO (acm (i := 4) (j := 0) rfl rfl (vc (zw rfl ⟨_, rfl, _, yq rfl hat, afl ⟨_, rfl, by show 2 <= 1000; decide, _, _, rfl, ?_⟩⟩)))⟩
   refine zw rfl ⟨_, at_, rfl, by rw [anQ]; exact acM rfl hat, adK (zw rfl ?_)⟩
   repeat walk_at "dl"
   refine ⟨_, pr, rfl, by rw [anQ]; exact hi, rfl, (m.set at_ (m.getD pr (0, 0, 0))).set pr m[at_], ?_, .of (by rw [apf, apf]; omega) fun x hx => ?_, .inl (by omega)⟩
   ·show [OC.lst (((m.map gD3).set at_ (gD3 (m.getD pr (0, 0, 0)))).set pr (gD3 m[at_]))] = _
    rw [arY, arY]
   ·rcases apT hx with h | h
    ·rcases apT h with h | h
     ·exact h
     ·rw [h]; exact mpr
    ·rw [h]; exact aot hat
  rintro _ _ ⟨rfl, m, rfl, sm, hm⟩
  refine yD (j7 (wv = 4) (aaD (yZ rfl)) (fun hk => absurd hk (by omega)) fun hk => yC ?_)
  refine yD (j7 (wv = 5) (aaD (yZ rfl)) (fun hk => absurd hk (by omega)) fun hk => yC ?_)
  refine yD (j7 (wv = 6) (aaD (yZ rfl)) (fun hk => absurd hk (by omega)) fun hk => yC ?_)
  refine yD (j7 (wv = 7) (aaD (yZ rfl)) (fun hk => absurd hk (by omega)) fun hk => yC ?_)
  refine yD (j7 (wv = 8) (aaD (yZ rfl)) (fun hk => absurd hk (by omega)) fun hk => yC ?_)
  refine ac3 ?_
  rw [fr]
  refine ym (aaq (zS (zw rfl (zS (acN (aaF rfl ?_))))))
  refine .inl ⟨_, rfl, yB ⟨_, rfl, by show 2 <= 1000; decide, (wo, m), rfl, ok.sp sm ok.str⟩⟩
 ·refine ac3 ?_
  rw [fr]
  show PSd K f _ [some DV.feed, some (.dat (lnD (wo, l))), some (.dat (.str wo)), some (.dat (.tuple (l.map gD3))), some (.dat (.list (l.map gD3))), some (.dat (.int at_)), some (.dat (.int wv))] _
  refine z9 (qw (wv = 0) (yZ rfl) (fun hk => absurd hk (by omega)) fun hk => yX ?_)
  refine z9 (qw (wv = 1) (yZ rfl) (fun hk => absurd hk (by omega)) fun hk => yX ?_)
  refine z9 (qw (wv = 2) (yZ rfl) (fun hk => absurd hk (by omega)) fun hk => yX ?_)
  refine z9 (qw (wv = 3) (yZ rfl) (fun hk => absurd hk (by omega)) fun hk => yX ?_)
  have sk : ∀ (k : Int) (m : List Gt), wv < k \/ m = l -> ¬ wv = k -> wv < k + 1 \/ m = l := fun k m h n => h.elim (fun h => .inl (by omega)) .inr
  have J0 : ∃ m, l.map gD3 = m.map gD3 /\ Sp2 l m /\ (wv < 4 \/ m = l) := ⟨l, rfl, .refl l, .inr rfl⟩
  obtain ⟨m, em, sm, hm⟩ := J0
  have swo := ok.str
  dsimp only at swo
  show PSd K f _ [some DV.feed, some (.dat (lnD (wo, l))), some (.dat (.str wo)), some (.dat (.tuple (l.map gD3))), some (.dat (.list (l.map gD3))), some (.dat (.int at_)), some (.dat (.int wv))] _
  refine ad8 (fun ρ => ∃ wo' m, ρ = [some DV.feed, some (.dat (lnD (wo, l))), some (.dat (.str wo')), some (.dat (.tuple (l.map gD3))), some (.dat (.list (m.map gD3))), some (.dat (.int at_)), some (.dat (.int wv))] /\ aox wo' = true /\ Sp2 l m /\ (wv < 5 \/ m = l)) ?_ ?_
  ·obtain rfl := hm.resolve_left hw
   refine qw (wv = 4) (yZ rfl) (fun hk => ya (ahm (zw rfl ⟨_, rfl, zv ⟨wo, m.reverse, by rw [<- List.map_reverse]; rfl, swo, .of (by rw [apC]; omega) (fun x hx => apx.mp hx), .inl (by omega)⟩⟩))) fun hk => yX ⟨wo, m, rfl, swo, sm, .inr rfl⟩
  clear em sm hm m
  rintro _ ⟨w1', m, rfl, sw, sm, hm⟩
  refine ad8 (fun ρ => ∃ wo' m, ρ = [some DV.feed, some (.dat (lnD (wo, l))), some (.dat (.str wo')), some (.dat (.tuple (l.map gD3))), some (.dat (.list (m.map gD3))), some (.dat (.int at_)), some (.dat (.int wv))] /\ aox wo' = true /\ Sp2 l m /\ (wv < 6 \/ m = l)) ?_ ?_
  ·refine qw (wv = 5) (yZ rfl) (fun hk => ?_) fun hk => yX ⟨_, m, rfl, sw, sm, sk 5 _ hm hk⟩
   obtain rfl := hm.resolve_left (by omega)
   refine ya (acP (alA (zw rfl ⟨_, rfl, ?_⟩)))
   repeat walk_at "dl"
   have s1 : ∀ d, HT.sIx (m.map gD3).length d (some (at_ : Int)) = at_ := fun d => afM (by rw [anQ]; omega)
   have e1 : L2.cutD (m.map gD3) (some (at_ : Int)) none = (m.drop at_).map gD3 := by
    unfold L2.cutD
    rw [s1, show HT.sIx (m.map gD3).length (m.map gD3).length none = (m.map gD3).length from rfl, apF (by rw [ao6]; omega), aqI]
   have e2 : L2.cutD (m.map gD3) none (some (at_ : Int)) = (m.take at_).map gD3 := by
    unfold L2.cutD
    rw [s1, show HT.sIx (m.map gD3).length 0 none = 0 from rfl, List.drop_zero, Nat.sub_zero, aq1]
   rw [e1, e2]
   refine ⟨by rw [anQ, anQ, ao6, aoA]; omega, ?_⟩
   refine zv ?_
   refine ⟨w1', m.drop at_ ++ m.take at_, by rw [aoE]; rfl, sw, .of (by rw [aoh, ao6, aoA]; omega) fun x hx => ?_, .inl (by omega)⟩
   rcases aop.mp hx with h | h
   ·exact aq7 h
   ·exact aqs h
  clear sm hm m sw w1'
  rintro _ ⟨w1', m, rfl, sw, sm, hm⟩
  refine ad8 (fun ρ => ∃ wo' m, ρ = [some DV.feed, some (.dat (lnD (wo, l))), some (.dat (.str wo')), some (.dat (.tuple (l.map gD3))), some (.dat (.list (m.map gD3))), some (.dat (.int at_)), some (.dat (.int wv))] /\ aox wo' = true /\ Sp2 l m /\ (wv < 7 \/ m = l)) ?_ ?_
  ·refine qw (wv = 6) (yZ rfl) (fun hk => ?_) fun hk => yX ⟨_, m, rfl, sw, sm, sk 6 _ hm hk⟩
   obtain rfl := hm.resolve_left (by omega)
   refine ya (aa8 (aap ?_))
   repeat walk_at "dl"
   refine zx 5 ?_
   repeat walk_at "dl"
   rintro _ ⟨i, rfl, i0, i1⟩
   have : i = 0 \/ i = 1 \/ i = 2 \/ i = 3 \/ i = 4 := by omega
   rcases this with rfl | rfl | rfl | rfl | rfl <;> exact ⟨_, rfl, _, rfl, zv ⟨_, m, rfl, by decide +kernel, sm, .inl (by omega)⟩⟩
  clear sm hm m sw w1'
  rintro _ ⟨w1', m, rfl, sw, sm, hm⟩
  refine ad8 (fun ρ => ∃ wo' m, ρ = [some DV.feed, some (.dat (lnD (wo, l))), some (.dat (.str wo')), some (.dat (.tuple (l.map gD3))), some (.dat (.list (m.map gD3))), some (.dat (.int at_)), some (.dat (.int wv))] /\ aox wo' = true /\ Sp2 l m /\ (wv < 8 \/ m = l)) ?_ ?_
  ·refine qw (wv = 7) (yZ rfl) (fun hk => ?_) fun hk => yX ⟨_, m, rfl, sw, sm, sk 7 _ hm hk⟩
   obtain rfl := hm.resolve_left (by omega)
   refine ya (aap (yB ⟨_, rfl, by decide, zv ⟨w1', [], rfl, sw, .of (by show 0 <= _; omega) (fun x hx => (nomatch hx)), .inl (by omega)⟩⟩))
  clear sm hm m sw w1'
  rintro _ ⟨w1', m, rfl, sw, sm, hm⟩
  refine ad8 (fun ρ => ∃ wo' m, ρ = [some DV.feed, some (.dat (lnD (wo, l))), some (.dat (.str wo')), some (.dat (.tuple (l.map gD3))), some (.dat (.list (m.map gD3))), some (.dat (.int at_)), some (.dat (.int wv))] /\ aox wo' = true /\ Sp2 l m /\ (wv < 9 \/ m = l)) ?_ ?_
  ·refine qw (wv = 8) (yZ rfl) (fun hk => ?_) fun hk => yX ⟨_, m, rfl, sw, sm, sk 8 _ hm hk⟩
   obtain rfl := hm.resolve_left (by omega)
   refine ya (acP (zw rfl ⟨_, rfl, zw rfl ⟨_, rfl, by rw [anQ]; omega, zv ⟨w1', m ++ m, by rw [aoE]; rfl, sw, .of (by rw [aoh]; omega) fun x hx => ?_, .inl (by omega)⟩⟩⟩))
   exact (aop.mp hx).elim id id
  clear sm hm m sw w1'
  rintro _ ⟨w1', m, rfl, sw, sm, hm⟩
  refine ym (aaq (zS (zw rfl (zS (acN (aaF rfl ?_))))))
  refine .inl ⟨_, rfl, yB ⟨_, rfl, by show 2 <= 1000; decide, (w1', m), rfl, ok.sp sm sw⟩⟩
end
open PySem PySem.Spec PyProof.Rows L2
def duF (told : List Ln) : List Ln -> List Gt -> Nat -> Option Nat
 | [], _, _ => none
 | t :: ts, seen, i => if t ∉ told \/ ∃ g ∈ t.2, g ∈ seen then some i else duF told ts (seen ++ t.2) (i + 1)
noncomputable instance decLn (told : List Ln) (t : Ln) (seen : List Gt) : Decidable (t ∉ told \/ ∃ g ∈ t.2, g ∈ seen) := aoW _
def aal (told us : List Ln) (many : Nat) : PyData := match duF told us [] 0 with
 | some i => .int i
 | none => if (us.flatMap (·.2)).length < many then .int us.length else .none
theorem ajV : ∀ l m : List Gt, aqm (l.map gD3) (m.map gD3) = decide (l = m)
 | [], [] => rfl
 | [], b :: m => rfl
 | a :: l, [] => rfl
 | a :: l, b :: m => by
  show (aoo (gD3 a) (gD3 b) && aqm (l.map gD3) (m.map gD3)) = _
  rw [adt, ajV l m]
  by_cases h1 : a = b <;> by_cases h2 : l = m <;> simp [h1, h2]
theorem ajW (t u : Ln) : aoo (lnD t) (lnD u) = decide (t = u) := by
 obtain ⟨a, l⟩ := t
 obtain ⟨b, m⟩ := u
 show ((a == b) && (aqm (l.map gD3) (m.map gD3) && true)) = _
 rw [ajV, aq2]
 by_cases h1 : a = b <;> by_cases h2 : l = m <;> simp [h1, h2]
theorem am8 (told : List Ln) (t : Ln) : ((told.map lnD).any fun e => aoo e (lnD t)) = decide (t ∈ told) := by
 rw [asq, apB, aqZ, decide_eq_true_eq]
 constructor
 ·rintro ⟨e, he, h⟩
  have h : aoo (lnD e) (lnD t) = true := h
  rw [ajW, decide_eq_true_eq] at h
  exact h ▸ he
 ·intro h
  exact ⟨t, h, by show aoo (lnD t) (lnD t) = true; rw [ajW, decide_eq_true rfl]⟩
section
variable {P : Program} {w : World} {K : anS} {mg : Str -> Option Value} {base : Heap} {k : Nat}
abbrev TDu := List Ln × List Ln × Nat
abbrev ajX (K : anS) : Sp := spD K 3 (fun (c : TDu) xs => xs = [.dat (.list (c.1.map lnD)), .dat (.list (c.2.1.map lnD)), .dat (.int c.2.2)] /\ c.2.1.length <= 900 /\ (∀ t ∈ c.2.1, aox t.1 = true /\ t.2.length <= 900) /\ (∀ t ∈ c.1, aox t.1 = true /\ t.2.Nodup /\ t.2.length <= 98) /\ ∀ l : List Gt, l.Nodup -> (∀ g ∈ l, g ∈ c.1.flatMap (·.2)) -> l.length <= 98) fun c r => r = aal c.1 c.2.1 c.2.2
theorem alm (F : Def K mg "_law_due" qX ["_law_told", "_law_some", "_law_many"]) (m_len : mg "len" = none) (m_range : mg "range" = none) : FnIn P w K mg base (k + 1) "_law_due" ["_law_told", "_law_some", "_law_many"] (ajX K) := by
 refine F.ok sc_law_due rfl fun fa cdv A outer s H E hr => ⟨_, (zi (zM (i := 3) sc_law_due.nd rfl (Or.inl rfl) (aaf (w := w) rfl)) (zi (jz aoU rfl (y4 rfl m_range (zc (zC (zT (K := K) rfl) rfl m_len aoy (zc (pv 1) zh)) zh)) (zt (i := 4) sc_law_due.nd rfl (Or.inl rfl) (Or.inr rfl)) (zi (z8 (zL (aeZ (K := K) rfl hr.units) (zV (zH (K := K) rfl) (pv 1) (pv 4) (fun _ _ => rfl)) (pv 0) rfl) (zp (zB (pv 4))) zK) (zp (jz aoU rfl (qO (K := K) rfl (zV (yx (K := K) rfl) (zV (zH (K := K) rfl) (pv 1) (pv 4) (fun _ _ => rfl)) zj (fun _ _ => rfl))) (zt (i := 5) sc_law_due.nd rfl (Or.inl rfl) (Or.inr rfl)) (zi (z8 (zL (aci (w := w) (K := K) rfl rfl hr.units) (pv 5) (pv 3) rfl) (zp (zB (pv 4))) zK) (zp (yc qy (jT (pv 3) (pv 5) (vJ (w := w) (K := K) rfl rfl hr.units))))))))) (zi (z8 (zL afK (zC (vO (w := w) rfl) rfl m_len aoy (zc (pv 3) zh)) (pv 2) (zN _)) (zp (zB (zC (zT (K := K) rfl) rfl m_len aoy (zc (pv 1) zh)))) zK) (zp (zB vU))))), ?_⟩
 rintro f xs ⟨told, us, many⟩ hl ⟨rfl, few, so, st, sd⟩
 try dsimp only [yf, zq]
 dsimp only at *
 have key : ∀ n t, us[n]? = some t -> us.take (n + 1) = us.take n ++ [t] /\ us.drop n = t :: us.drop (n + 1) := fun n t ht => by
  refine ⟨by rw [apo, ht]; rfl, ?_⟩
  obtain ⟨hlt, e⟩ := anT.mp ht
  rw [<- e]
  exact aqz hlt
 have ml : (us.map lnD).length = us.length := anQ _
 refine aae (w := w) (acf (afc ⟨show 3 < 6 by decide, fun D => ?_⟩))
 refine yD (aax (vE (zS (qC (aaF rfl (.inl ⟨_, rfl, yB ⟨_, rfl, by rw [ml]; omega, by rw [ml]; omega, fun n ρ cs => (∃ x y, ρ = [some (.dat (.list (told.map lnD))), some (.dat (.list (us.map lnD))), some (.dat (.int many)), some (.own (f.M.length + 0)), x, y]) /\ cs = [.dic (z5 ((us.take n).flatMap (·.2)))] /\ duF told us [] 0 = duF told (us.drop n) ((us.take n).flatMap (·.2)) n /\ ((us.take n).flatMap (·.2)).Nodup /\ ∀ g ∈ (us.take n).flatMap (·.2), g ∈ told.flatMap (·.2), ⟨⟨_, _, rfl⟩, rfl, rfl, ao4, fun g hg => (nomatch hg)⟩, ?_, ?_⟩⟩))))))
 ·rintro n d _ _ hd ⟨⟨x, y, rfl⟩, rfl, hf, nd, op⟩
  obtain ⟨hn, rfl⟩ := qJ hd
  rw [apm, ml] at hn
  have ht : us[n]? = some us[n] := anP hn
  have hm := aof ht
  obtain ⟨k1, k2⟩ := key n _ ht
  generalize us[n] = t at *
  obtain ⟨wo, l⟩ := t
  obtain ⟨so1, fl⟩ := so _ hm
  dsimp only at so1 fl
  have hat : atI (us.map lnD) (n : Int) = some (lnD (wo, l)) := aaH (by rw [aob, ht]; rfl)
  generalize hs : (us.take n).flatMap (·.2) = seen at *
  obtain ⟨ly, dp⟩ := adu (wo, l) so1
  have stop : (wo, l) ∉ told \/ (∃ g ∈ l, g ∈ seen) -> aal told us many = .int n := fun h => by
   unfold aal
   rw [hf, k2, duF, if_pos h]
  refine zv (yD (j7 ((wo, l) ∉ told) (aaD ?_) (fun hp => ?_) fun hp => yC ?_))
  ·refine yw (aiH (aa8 (zw rfl ⟨_, rfl, zw rfl ⟨_, rfl, _, hat, zw rfl ⟨_, rfl, ly, fun e he => ?_, by omega, _, rfl, ?_⟩⟩⟩)))
   ·obtain ⟨u, hu, rfl⟩ := aos.mp he
    exact (adu u (st u hu).1).1
   ·rw [am8]
    by_cases h : (wo, l) ∈ told <;> simp [h]
  ·exact jX (ym (zw rfl (stop (.inl hp)).symm))
  have hin : (wo, l) ∈ told := aoO hp
  obtain ⟨_, ndl, ll⟩ := st _ hin
  dsimp only at ndl ll
  refine aax (ab6 (qt (aa8 (zw rfl ⟨_, rfl, zw rfl ⟨_, rfl, _, hat, _, rfl, jB ⟨_, rfl, .tuple (l.map gD3), rfl, _, rfl, fun m ρ cs => (∃ y, ρ = [some (.dat (.list (told.map lnD))), some (.dat (.list (us.map lnD))), some (.dat (.int many)), some (.own (f.M.length + 0)), some (.dat (.int n)), y]) /\ cs = [.dic (z5 (seen ++ l.take m))] /\ ∀ g ∈ l.take m, g ∉ seen, ⟨⟨_, rfl⟩, by rw [aqt, aoN], fun g hg => by rw [aqt] at hg; cases hg⟩, ?_, ?_⟩⟩⟩))))
  ·rintro m d _ _ hd ⟨⟨y, rfl⟩, rfl, fr⟩
   rw [aob] at hd
   cases et : l[m]? with
   | none => rw [et] at hd; cases hd
   | some q =>
    rw [et] at hd
    cases hd
    have hql := aof et
    have tk : l.take (m + 1) = l.take m ++ [q] := by rw [apo, et]; rfl
    have nt : q ∉ l.take m := fun z => by
     have n2 : (l.take (m + 1)).Nodup := ndl.sublist (arD _ _)
     rw [tk] at n2
     exact (ao1.mp n2).2.2 q z q (aom.mpr rfl) rfl
    have lt : (l.take m).length <= l.length := by rw [aoA]; omega
    have ls := sd seen nd op
    refine zv (yD (j7 (q ∈ seen) (abo ?_) (fun hq => ?_) fun hq => yC ?_))
    ·have frE : apw (yA w K f.M.length [OC.dic (z5 (seen ++ l.take m))]) [some (DV.dat (.list (told.map lnD))), some (.dat (.list (us.map lnD))), some (.dat (.int many)), some (.own (f.M.length + 0)), some (.dat (.int n)), some (.dat (gD3 q))] = [some (DV.dat (.list (told.map lnD))), some (.dat (.list (us.map lnD))), some (.dat (.int many)), some (.mon (ac8 w K (z5 (seen ++ l.take m)))), some (.dat (.int n)), some (.dat (gD3 q))] := by simp [yA]
     show PTd K f _ (apw (yA w K f.M.length [OC.dic (z5 (seen ++ l.take m))]) [some (DV.dat (.list (told.map lnD))), some (.dat (.list (us.map lnD))), some (.dat (.int many)), some (.own (f.M.length + 0)), some (.dat (.int n)), some (.dat (gD3 q))]) _
     rw [frE]
     refine yw (alK (zw rfl ⟨abC q, _, rfl, _, rfl, ?_⟩))
     refine decide_eq_decide.mpr (seen_mem.trans ?_)
     rw [aop]
     exact ⟨fun z => z.resolve_right nt, .inl⟩
    ·exact jX (ym (zw rfl (stop (.inr ⟨q, hql, hq⟩)).symm))
    ·refine agn (i := 3) (j := 0) rfl rfl ?_ (adJ (zw rfl ⟨abC q, ⟨_, rfl⟩, ?_, fun g hg => ?_⟩))
     ·unfold z5
      rw [anQ, aoh]
      omega
     ·show [OC.dic (dput (gD3 q) (.bool true) (z5 (seen ++ l.take m)))] = _
      rw [aeF (fun z => (aop.mp z).elim hq nt), tk, apr]
     ·rw [tk] at hg
      rcases aop.mp hg with h | h
      ·exact fr g h
      ·rw [aom.mp h]; exact hq
  ·rintro _ _ ⟨⟨y, rfl⟩, rfl, fr⟩
   rw [anQ, aoG] at *
   have hall : (us.take (n + 1)).flatMap (·.2) = seen ++ l := by
    rw [k1, ao8, hs]
    simp
   refine ⟨⟨_, _, rfl⟩, by rw [hall], ?_, ?_, ?_⟩
   ·rw [hf, k2, duF, if_neg, hall]
    rintro (z | ⟨g, hg, hs'⟩)
    ·exact z hin
    ·exact fr g hg hs'
   ·rw [hall]
    exact ao1.mpr ⟨nd, ndl, fun a ha b hb e => fr b hb (e ▸ ha)⟩
   ·rw [hall]
    intro g hg
    rcases aop.mp hg with h | h
    ·exact op g h
    ·exact aoC.mpr ⟨_, hin, h⟩
 ·rintro _ _ ⟨⟨x, y, rfl⟩, rfl, hf, nd, op⟩
  rw [qY, apm, ml] at *
  rw [aoG] at nd op
  rw [aoG, List.drop_length] at hf
  rw [aoG]
  have ls := sd _ nd op
  have sl : (z5 (us.flatMap (·.2))).length = (us.flatMap (·.2)).length := by unfold z5; rw [anQ]
  have out : aal told us many = if (us.flatMap (·.2)).length < many then .int us.length else .none := by
   unfold aal
   rw [hf]
   rfl
  refine yD (j7 ((us.flatMap (·.2)).length < many) ?_ (fun hp => ?_) fun hp => yC ?_)
  ·refine abo ?_
   have frE : apw (yA w K f.M.length [OC.dic (z5 (us.flatMap (·.2)))]) [some (DV.dat (.list (told.map lnD))), some (.dat (.list (us.map lnD))), some (.dat (.int many)), some (.own (f.M.length + 0)), x, y] = [some (DV.dat (.list (told.map lnD))), some (.dat (.list (us.map lnD))), some (.dat (.int many)), some (.mon (ac8 w K (z5 (us.flatMap (·.2))))), yA w K f.M.length [OC.dic (z5 (us.flatMap (·.2)))] x, yA w K f.M.length [OC.dic (z5 (us.flatMap (·.2)))] y] := by simp [yA]
   rw [frE]
   refine t_b (adL (ajj rfl (by omega) ?_))
   repeat walk_at "dl"
   rw [sl]
   exact decide_eq_decide.mpr (by omega)
  ·refine jX (ym (qC (aaF rfl (.inl ⟨_, rfl, ?_⟩))))
   show PyData.int _ = aal told us many
   rw [out, if_pos hp, anQ]
  ·refine jX (ym (afW ?_))
   show PyData.none = aal told us many
   rw [out, if_neg hp]
end
section
variable {rows : List (List Int)} {wd : Nat} {cut : Int}
theorem aln {ts : List (Bool × List Gt)} (T : Told rows wd cut ts) (aT : ∀ g, opG rows wd cut g = true -> g ∈ flat ts) (t : Ln) : jj rows wd cut t = true ↔ t ∈ ts.map qx := by
 constructor
 ·intro h
  obtain ⟨nd, ne, op⟩ := jS h
  obtain ⟨wo, l⟩ := t
  dsimp only at nd ne op
  unfold jj at h
  dsimp only at h
  rw [if_neg (fun z => z.elim ne fun z => z nd)] at h
  by_cases h2 : l.all (opG rows wd cut) = false \/ chB rows wd cut l = false
  ·rw [if_pos h2] at h; cases h
  rw [if_neg h2] at h
  have ch : chB rows wd cut l = true := by
   cases hc : chB rows wd cut l with
   | true => rfl
   | false => exact absurd (.inr hc) h2
  obtain ⟨a, m, rfl⟩ := aps ne
  by_cases hw : wo = "ring"
  ·rw [if_pos hw] at h
   have h : (decide (zQ rows wd cut ((a :: m).getLast (aoH _ _)) = some a) && (a :: m).all fun g => decide (g = a \/ gLt a g)) = true := h
   rw [anZ, decide_eq_true_eq, aoR] at h
   have L : LineOk rows wd cut true (a :: m) := ⟨op, nd, chB_iff.mp ch, ne, fun g hg => by
    rw [abF] at hg
    cases hg
    rw [if_pos rfl]
    exact h.1⟩
   have U : Told rows wd cut [(true, a :: m)] := ⟨fun t ht => by rw [aom.mp ht]; exact L, fun t ht => by rw [aom.mp ht]; exact (fun z => nomatch z), by show ((a :: m) ++ []).Nodup; rw [aoN]; exact nd, fun t ht => by
    rw [aom.mp ht]
    intro _ b hb g hg
    cases hb
    exact of_decide_eq_true (h.2 g hg)⟩
   exact aos.mpr ⟨_, aeC U T aT an0, by unfold qx; rw [if_pos rfl, hw]⟩
  ·rw [if_neg hw, anZ, decide_eq_true_eq] at h
   obtain ⟨hr, h⟩ := h
   have h : (decide (yo rows wd cut a = none) && decide (zQ rows wd cut ((a :: m).getLast (aoH _ _)) = none)) = true := h
   rw [anZ, decide_eq_true_eq, decide_eq_true_eq] at h
   have L : LineOk rows wd cut false (a :: m) := ⟨op, nd, chB_iff.mp ch, ne, fun g hg => by
    rw [abF] at hg
    cases hg
    rw [if_neg anR]
    exact h.2⟩
   have U : Told rows wd cut [(false, a :: m)] := ⟨fun t ht => by rw [aom.mp ht]; exact L, fun t ht => by
    rw [aom.mp ht]
    intro _ b hb
    cases hb
    exact h.1, by show ((a :: m) ++ []).Nodup; rw [aoN]; exact nd, fun t ht => by rw [aom.mp ht]; exact (fun z => nomatch z)⟩
   exact aos.mpr ⟨_, aeC U T aT an0, by unfold qx; rw [if_neg anR, hr]⟩
 ·intro h
  obtain ⟨u, hu, rfl⟩ := aos.mp h
  exact agP (T.line u hu) (T.st u hu) (T.least u hu)
theorem alO {told : List Ln} (h : ∀ t, jj rows wd cut t = true ↔ t ∈ told) : ∀ (us : List Ln) (seen : List Gt) (i : Nat), fw rows wd cut us seen i = duF told us seen i
 | [], _, _ => rfl
 | t :: us, seen, i => by
  have e : (jj rows wd cut t = false \/ t.2.any (fun g => decide (g ∈ seen)) = true) ↔ (t ∉ told \/ ∃ g ∈ t.2, g ∈ seen) := by
   rw [<- h t, aqZ]
   refine or_congr ?_ ?_
   ·cases jj rows wd cut t <;> simp
   ·simp only [decide_eq_true_eq]
  rw [fw, duF]
  by_cases hp : jj rows wd cut t = false \/ t.2.any (fun g => decide (g ∈ seen)) = true
  ·rw [if_pos hp, if_pos (e.mp hp)]
  ·rw [if_neg hp, if_neg (fun z => hp (e.mpr z)), alO h us]
theorem agS {told : List Ln} (sd : (told.flatMap (·.2)).Nodup) (st : ∀ t ∈ told, t.2.Nodup) : ∀ (us : List Ln) (seen : List Gt) (i : Nat), seen.Nodup -> (∀ g ∈ seen, g ∈ told.flatMap (·.2)) -> duF told us seen i = none -> (seen ++ us.flatMap (·.2)).Nodup /\ ∀ g ∈ seen ++ us.flatMap (·.2), g ∈ told.flatMap (·.2)
 | [], seen, _, nd, op, _ => by rw [List.flatMap_nil, aoN]; exact ⟨nd, op⟩
 | t :: us, seen, i, nd, op, h => by
  rw [duF] at h
  by_cases hp : t ∉ told \/ ∃ g ∈ t.2, g ∈ seen
  ·rw [if_pos hp] at h; cases h
  ·rw [if_neg hp] at h
   have hin : t ∈ told := aoO fun z => hp (.inl z)
   rw [arE, <- apr]
   refine agS sd st us (seen ++ t.2) (i + 1) (ao1.mpr ⟨nd, st t hin, fun a ha b hb e => hp (.inr ⟨b, hb, e ▸ ha⟩)⟩) (fun g hg => ?_) h
   rcases aop.mp hg with z | z
   ·exact op g z
   ·exact aoC.mpr ⟨t, hin, z⟩
theorem am9 {ts : List (Bool × List Gt)} (T : Told rows wd cut ts) (aT : ∀ g, opG rows wd cut g = true -> g ∈ flat ts) (us : List Ln) : fwD rows wd cut us = aal (ts.map qx) us (zG rows wd cut).length := by
 unfold fwD aal
 rw [alO (aln T aT)]
 cases e : duF (ts.map qx) us [] 0 with
 | some i => rfl
 | none =>
  have fe : (ts.map qx).flatMap (·.2) = flat ts := by rw [aqw]; rfl
  obtain ⟨nd, op⟩ := agS (by rw [fe]; exact T.nd) (fun t ht => by obtain ⟨u, hu, rfl⟩ := aos.mp ht; exact (T.line u hu).nd) us [] 0 ao4 (fun g hg => nomatch hg) e
  rw [List.nil_append] at nd op
  have le := nd.length_le_of_subset (l₂ := zG rows wd cut) fun x hx => mem_gates.mpr (by
   have := op x hx
   rw [fe] at this
   obtain ⟨t, ht, hq⟩ := aoC.mp this
   exact (T.line t ht).op x hq)
  dsimp only
  by_cases h : (us.flatMap (·.2)).length = (zG rows wd cut).length
  ·rw [if_pos h, if_neg (by omega)]
  ·rw [if_neg h, if_pos (by omega)]
end
open PySem PySem.Spec PyProof.Rows L2
theorem alo {us : List Ln} (h : aoL (us.map lnD) = true) : aoo (.list (us.map lnD)) (.list (us.map lnD)) = true := asf _ h
theorem agT : ∀ ts : List (Bool × List Gt), ((ts.map fun t => ((t.2.length : Nat) : Int)).sum : Int) = ((flat ts).length : Nat)
 | [] => rfl
 | t :: ts => by
  rw [aor, List.sum_cons, agT ts]
  show _ = (((t.2 ++ flat ts).length : Nat) : Int)
  rw [aoh]
  omega
theorem agU {us : List Ln} {j : Nat} (h : ∀ t ∈ us, OkS j t) : ∀ t ∈ us, aox t.1 = true := fun t ht => (h t ht).str
section
variable {P : Program} {w : World} {K : anS} {mg : Str -> Option Value} {base : Heap} {k : Nat}
theorem ana {f : Addr} {fd : FuncData} (F : Fun K "law" "law" aay f fd) (m_len : mg "len" = none) (m_range : mg "range" = none) (m_max : mg "max" = none) (m_min : mg "min" = none) (m_sum : mg "sum" = none) (m_list : mg "list" = none) (m_isinstance : mg "isinstance" = none) (m_bool : mg "bool" = none)
  (kB : apl K (.type "int") (.type "bool") = some false) (kN : apl K (.type "NoneType") (.type "bool") = some false)
  (G__law_feed : FnIn P w K mg base k "_law_feed" ["_law_script", "_law_k"] (afC K)) (G__law_table : FnIn P w K mg base k "_law_table" ["_law_feed_here"] (agu K)) (G__law_draw : FnIn P w K mg base k "_law_draw" ["_law_feed_here", "_law_many"] (vx K))
  (G__law_cut : FnIn P w K mg base k "_law_cut" ["_law_feed_here", "_law_rows"] (alL K)) (G_lines : FnIn P w K mg base k "lines" ["rows", "cut"] (agI K)) (G__law_dealt : FnIn P w K mg base k "_law_dealt" ["_law_feed_here", "_law_some"] (agQ K)) (G__law_spoiled : FnIn P w K mg base k "_law_spoiled" ["_law_feed_here", "_law_line"] (acy K)) (G__law_due : FnIn P w K mg base k "_law_due" ["_law_told", "_law_some", "_law_many"] (ajX K)) (G_first_wrong : FnIn P w K mg base k "first_wrong" ["rows", "cut", "some"] (anF K)) :
  FnOk P w K mg base CX0 (k + 1) f fd ["_law_script"] (agK K) := by
 refine F.ok sc_law (fun vs H Q E h => ?_) fun cdv A outer s H vs Q E hr hs => ⟨_, (zi (jz aoU rfl (y4 rfl m_range (zc (zC (agZ rfl) rfl m_max boot_max (zc zj (zc (zC (abZ rfl) rfl m_min boot_min (zc zj (zc (zC (zT (K := K) rfl) rfl m_len aoy (zc (pv 0) zh)) zh))) zh))) zh)) (zt (i := 1) sc_law.nd rfl (Or.inl rfl) (Or.inr rfl)) (zi (zM (i := 2) sc_law.nd rfl (Or.inl rfl) (zm G__law_feed hr rfl (zc (pv 0) (zc (pv 1) zh)))) (zi (zM (i := 3) sc_law.nd rfl (Or.inl rfl) (zm G__law_table hr rfl (zc (pv 2) zh))) (zi (zM (i := 4) sc_law.nd rfl (Or.inl rfl) (zm G__law_cut hr rfl (zc (pv 2) (zc (pv 3) zh)))) (zi (zM (i := 5) sc_law.nd rfl (Or.inl rfl) (zm G_lines hr rfl (zc (pv 3) (zc (pv 4) zh)))) (zi (zM (i := 6) sc_law.nd rfl (Or.inl rfl) (zC (abd (K := K) rfl rfl) rfl m_sum ar3 (zc (yK (N := ["_law_word", "_law_path"]) (own := 2) (fr := []) ⟨rfl, by decide +kernel, of_decide_eq_true (by kernel_rfl), of_decide_eq_true (by kernel_rfl), of_decide_eq_true (by kernel_rfl), rfl⟩ rfl (yM (K := K) rfl (pv 5)) (fun _ _ _ _ => (z4 (K := K) (n := 2) rfl rfl (zu (zt (i := 0) (show (["_law_word", "_law_path"] : List Str).Nodup by decide +kernel) rfl (Or.inl rfl) (Or.inr rfl)) (zu (zt (i := 1) (show (["_law_word", "_law_path"] : List Str).Nodup by decide +kernel) rfl (Or.inl rfl) (Or.inr rfl)) z3)))) (fun _ _ _ _ => yO) (fun _ _ _ _ => (zC (zT (K := K) rfl) rfl m_len aoy (zc (pv 1) zh))) rfl rfl (fun _ => rfl)) zh))) (zi (zM (i := 7) sc_law.nd rfl (Or.inl rfl) (zm G__law_dealt hr rfl (zc (pv 2) (zc (pv 5) zh)))) (zi (jz aoU rfl (y4 rfl m_range (zc (zm G__law_draw hr rfl (zc (pv 2) (zc zj zh))) zh)) (zt (i := 8) sc_law.nd rfl (Or.inl rfl) (Or.inr rfl)) (zp (z8 (zL (qE (K := K) rfl hr.units) (pv 7) (yr zh) (zN _)) (zi (zM (i := 9) sc_law.nd rfl (Or.inl rfl) (zm G__law_draw hr rfl (zc (pv 2) (zc (zC (zT (K := K) rfl) rfl m_len aoy (zc (pv 7) zh)) zh)))) (zi (z8 (zL (qE (K := K) rfl hr.units) (zV (yx (K := K) rfl) (zV (zH (K := K) rfl) (pv 7) (pv 9) (fun _ _ => rfl)) zj (fun _ _ => rfl)) (zR zh) (zN _)) (zp (yc (zm G__law_spoiled hr rfl (zc (pv 2) (zc (zV (zH (K := K) rfl) (pv 7) (pv 9) (fun _ _ => rfl)) zh))) (jT (pv 7) (pv 9) set_list))) zK) (zp (z8 (zL (yy (K := K) rfl hr.units) (zm G__law_draw hr rfl (zc (pv 2) (zc zj zh))) zj (zN _)) (zp (y7 (aa6 ao2 arJ arK ack (pv 7) (zc (zm G__law_draw hr rfl (zc (pv 2) (zc (zJ yd (zC (zT (K := K) rfl) rfl m_len aoy (zc (pv 7) zh)) zj) zh))) (zc (zV (zH (K := K) rfl) (pv 7) (pv 9) (fun _ _ => rfl)) zh))))) zK)))) zK))) (zi (zM (i := 10) sc_law.nd rfl (Or.inl rfl) (jw (vm (K := K) rfl) rfl m_list aql (zc (pv 7) zh))) (zi (zM (i := 11) sc_law.nd rfl (Or.inl rfl) (zm G_first_wrong hr rfl (zc (pv 3) (zc (pv 4) (zc (pv 10) zh))))) (zp (z8 (PW.pt (abX (zL (qE (K := K) rfl hr.units) (pv 11) (zm G__law_due hr rfl (zc (pv 5) (zc (pv 7) (zc (pv 6) zh)))) (zN _)) (abX (yj (K := K) rfl (zC (ahf (K := K) rfl) rfl m_isinstance boot_isinstance (zc (pv 11) (zc (aj1 (v := .ty "bool") rfl m_bool PyProof.Rows.boot_bool rfl) zh))) (fun _ => rfl)) (aaU (zL (qE (K := K) rfl hr.units) (pv 10) (pv 7) (zN _)))))) (zp (zB qy)) zK)))))))))))) (zp (zB qy))), ?_⟩
 ·obtain ⟨a, ns, rfl, _⟩ := h
  rfl
 obtain ⟨a, ns, rfl, hS, h63, q⟩ := hs
 have e0 : EnvOk K L2.f0 (qD ags [.dat (scr ns)]) (start ags [.ref a]) H := qN (.cons (agJ hS) .nil) (L2.fok0 H)
 suffices h : PSd K L2.f0 _ (qD ags [.dat (scr ns)]) { nx := fun _ => False, rt := fun d => d = .bool true } from
  h _ H _ e0 (fun _ _ _ _ _ z => z.elim) (fun d v H' _ r z => by
   subst z
   rw [rep_bool.mp r]
   exact q H') (fun _ _ _ _ _ z => z) (fun _ _ _ _ _ z => z)
 refine z9 (aly (vE (alf (R := fun xs => ∃ j : Int, xs = [.dat (.int j)] /\ 0 <= j /\ j <= 63) ?_ ?_)))
 ·repeat walk_at "dl"
  rw [anQ]
  split <;> split <;> omega
 rintro _ ⟨j, rfl, j0, j1⟩
 refine ⟨j, rfl, by omega, by omega, fun i ρ => ∃ x1 x2 x3 x4 x5 x6 x7 x8 x9 x10 x11, ρ = [some (.dat (scr ns)), x1, x2, x3, x4, x5, x6, x7, x8, x9, x10, x11], ⟨_, _, _, _, _, _, _, _, _, _, _, rfl⟩, ?_, ?_⟩
 ·rintro i d _ hi ⟨x1, x2, x3, x4, x5, x6, x7, x8, x9, x10, x11, rfl⟩
  obtain ⟨hi, rfl⟩ := qJ hi
  refine zv (amq (am6 rfl rfl h63 (by omega) (by omega)) fun p => ?_)
  refine z9 (ya (zx () ?_))
  repeat walk_at "dl"
  rintro _ ⟨wd, rows, rfl, g⟩
  have g1 := g.h1
  have g2 := g.h2
  refine zv (z9 (ya (zx (rows, wd) ?_)))
  repeat walk_at "dl"
  rintro _ ⟨ct, rfl, c0, c1⟩
  refine zv (z9 (ya (PEdO.ped (abf (rows, wd, ct) (amM rfl rfl ⟨rfl, ⟨rfl, g⟩, ?_⟩)))))
  rintro _ ⟨ts, rfl, T, aT, pT⟩
  dsimp only at T aT
  have fT := T.few g
  have D0 : Dealt rows wd ct (ts.map qx) := aeH T (.refl _)
  obtain ⟨_, gd0⟩ := D0.good g
  have gl := qa (cut := ct) g
  have full : (flat ts).length = (zG rows wd ct).length := by
   have := alk T aT (.refl _)
   rw [aqw] at this
   exact this
  have mlt : (ts.map yp).length = ts.length := anQ _
  refine zv (z9 (ya (alE (PEdO.ped (ab7 (A := yp) (B := fun t => PyData.int t.2.length) ts (jW (zw rfl ⟨_, rfl, rfl, by omega, ?_, ?_⟩)))))))
  ·rintro D t ρ' es ht ho hes
   obtain ⟨u, v, rfl⟩ := ho.two
   refine yY rfl (zF (zv (zF (zv (yt (qu ?_))))))
   rw [if_pos rfl]
   refine jn hes (qC (aaF rfl (.inr ⟨_, rfl, .mk2, ?_⟩)))
   rw [anQ]
  refine ⟨ts.map fun t => ((t.2.length : Nat) : Int), by rw [ap1]; rfl, ?_⟩
  rw [agT, full]
  refine zv ?_
  refine aae (w := w) (acf (qP (akP (qB rfl (zS (zw rfl (yB ⟨ts.map yp, rfl, ⟨rfl, by omega, ?_⟩, fun es hp => ⟨show 7 < 12 by decide, fun D => ?_⟩⟩)))))))
  ·rw [abE]
   exact (aaT _ D0.str).1
  rw [abE] at hp
  obtain ⟨us, pu, rfl⟩ := L2.perm_map_inv hp
  have Du := aeH T pu
  obtain ⟨lu, gu⟩ := Du.good g
  have ok0 : ∀ t ∈ us, OkS 0 t := fun t ht => ⟨(gu t ht).2, (gu t ht).1.2.1, fun vs vn v2 => by
   have := (jS (Du.ok t ht)).2.2
   exact aou (vn.length_le_of_subset (l₂ := zG rows wd ct) fun x hx => mem_gates.mpr (this x (v2 x hx))) gl⟩
  have fr : ∀ (es : List PyData) (y8 y9 y10 y11 : Option DV), apw (freed (Fx.M ⟨some p, []⟩).length [OC.lst es]) [some (DV.dat (scr ns)), some (.dat (.int i)), some .feed, some (.dat (tab rows)), some (.dat (.int ct)), some (.dat (.list (ts.map yp))), some (.dat (.int (zG rows wd ct).length)), some (.own 0), y8, y9, y10, y11] = [some (DV.dat (scr ns)), some (.dat (.int i)), some .feed, some (.dat (tab rows)), some (.dat (.int ct)), some (.dat (.list (ts.map yp))), some (.dat (.int (zG rows wd ct).length)), some (.dat (.list es)), freed 0 [OC.lst es] y8, freed 0 [OC.lst es] y9, freed 0 [OC.lst es] y10, freed 0 [OC.lst es] y11] := fun es y8 y9 y10 y11 => by simp [freed]
  show PSm w K ⟨some p, []⟩ [D] _ [some (DV.dat (scr ns)), some (.dat (.int i)), some .feed, some (.dat (tab rows)), some (.dat (.int ct)), some (.dat (.list (ts.map yp))), some (.dat (.int (zG rows wd ct).length)), some (.own 0), x8, x9, x10, x11] [OC.lst (us.map lnD)] _
  refine acj (fun ρ cs => ∃ (vs : List Ln) (y8 y9 : Option DV), ρ = [some (DV.dat (scr ns)), some (.dat (.int i)), some .feed, some (.dat (tab rows)), some (.dat (.int ct)), some (.dat (.list (ts.map yp))), some (.dat (.int (zG rows wd ct).length)), some (.own 0), y8, y9, x10, x11] /\ cs = [OC.lst (vs.map lnD)] /\ vs.length <= 101 /\ ∀ t ∈ vs, OkS 3 t) ?_ ?_
  ·refine aax (vE (zS (zx 4 (qB rfl (zS (jB (yB ⟨rfl, ⟨rfl, by omega, by omega⟩, ?_⟩)))))))
   rintro _ ⟨n4, rfl, n0, n1⟩
   refine yB ⟨_, rfl, by omega, by omega, fun m ρ cs => ∃ (vs : List Ln) (y8 y9 : Option DV), ρ = [some (DV.dat (scr ns)), some (.dat (.int i)), some .feed, some (.dat (tab rows)), some (.dat (.int ct)), some (.dat (.list (ts.map yp))), some (.dat (.int (zG rows wd ct).length)), some (.own 0), y8, y9, x10, x11] /\ cs = [OC.lst (vs.map lnD)] /\ vs.length <= 98 + m /\ ∀ t ∈ vs, OkS m t, ⟨us, _, _, rfl, rfl, lu, ok0⟩, ?_, ?_⟩
   ·rintro m d _ _ hd ⟨vs, y8, y9, rfl, rfl, lv, okv⟩
    obtain ⟨hm, rfl⟩ := qJ hd
    have hm2 : m <= 2 := by omega
    have mlv : (vs.map lnD).length = vs.length := anQ _
    obtain ⟨lay, dep⟩ := aaT vs (agU okv)
    refine zv (ahv (aaN ?_))
    show PTd K _ _ (apw (freed (Fx.M ⟨some p, []⟩).length [OC.lst (vs.map lnD)]) [some (DV.dat (scr ns)), some (.dat (.int i)), some .feed, some (.dat (tab rows)), some (.dat (.int ct)), some (.dat (.list (ts.map yp))), some (.dat (.int (zG rows wd ct).length)), some (.own 0), some (.dat (.int m)), y9, x10, x11]) _
    rw [fr]
    refine yw (yV (zw rfl (aap (yB ⟨_, rfl, aoI _, lay, rfl, aou (aqu _ _) (by show 1 <= 60; decide), _, rfl, ?_⟩))))
    rw [if_pos rfl]
    by_cases hne : vs = []
    ·subst hne
     rw [show aoo (.list (([] : List Ln).map lnD)) (.list []) = true from rfl, aoQ, if_neg anR]
     exact yC ⟨[], _, _, rfl, rfl, by show 0 <= _; omega, (fun t ht => nomatch ht)⟩
    have lp : 0 < vs.length := apt.mpr hne
    rw [show aoo (.list (vs.map lnD)) (.list []) = false from by
     obtain ⟨a, b, rfl⟩ := aps hne
     rfl, apL, if_pos rfl]
    refine yD (ai8 (vM ?_))
    show PEd K _ _ (apw (freed (Fx.M ⟨some p, []⟩).length [OC.lst (vs.map lnD)]) [some (DV.dat (scr ns)), some (.dat (.int i)), some .feed, some (.dat (tab rows)), some (.dat (.int ct)), some (.dat (.list (ts.map yp))), some (.dat (.int (zG rows wd ct).length)), some (.own 0), some (.dat (.int m)), y9, x10, x11]) _
    rw [fr]
    refine zx (vs.length : Nat) (qB rfl (zS (qC (aaF rfl (.inl ⟨_, rfl, yB ⟨rfl, ⟨by rw [mlv], by omega, by omega⟩, ?_⟩⟩)))))
    rintro _ ⟨at_, rfl, a0, a1⟩
    obtain ⟨at_, rfl⟩ := api a0
    have hat : at_ < vs.length := by omega
    refine ⟨_, rfl, ?_⟩
    show PSm w K ⟨some p, []⟩ [D] _ [some (DV.dat (scr ns)), some (.dat (.int i)), some .feed, some (.dat (tab rows)), some (.dat (.int ct)), some (.dat (.list (ts.map yp))), some (.dat (.int (zG rows wd ct).length)), some (.own 0), some (.dat (.int m)), some (.dat (.int at_)), x10, x11] [OC.lst (vs.map lnD)] _
    have okat := okv _ (aot hat)
    refine acj (fun ρ cs => ∃ vs' : List Ln, ρ = [some (DV.dat (scr ns)), some (.dat (.int i)), some .feed, some (.dat (tab rows)), some (.dat (.int ct)), some (.dat (.list (ts.map yp))), some (.dat (.int (zG rows wd ct).length)), some (.own 0), some (.dat (.int m)), some (.dat (.int at_)), x10, x11] /\ cs = [OC.lst (vs'.map lnD)] /\ vs'.length = vs.length /\ ∀ t ∈ vs', OkS (m + 1) t) ?_ ?_
    ·refine j7 (vs[at_].2 ≠ []) (aaN ?_) (fun hp => ?_) fun hp => yC ⟨vs, rfl, rfl, rfl, fun t ht => (okv t ht).up⟩
     ·rw [fr]
      refine yw (yV (qt (aa8 (zw rfl ⟨_, rfl, zw rfl ⟨_, rfl, _, yq rfl hat, _, rfl, jB ⟨_, rfl, .tuple (vs[at_].2.map gD3), rfl, aaq (yB ⟨_, rfl, by show 0 <= 1000; decide, ?_, rfl, aou (aqu _ _) (by show 1 <= 60; decide), _, rfl, ?_⟩)⟩⟩⟩))))
      ·have := (adu vs[at_] okat.str).1
       have h : ((PyData.str vs[at_].1).canLay0 && (aoL (vs[at_].2.map gD3) && true)) = true := this
       rw [anZ, aq2] at h
       exact h.2
      ·rw [if_pos rfl]
       cases vs[at_].2 with
       | nil => rfl
       | cons a b => rfl
     ·refine ai9 (i := 7) (j := 0) rfl rfl (agr (agq rfl (aaO (acm (i := 7) (j := 0) rfl rfl (vc (zw rfl ⟨_, rfl, lnD vs[at_], yq rfl hat, afl ⟨(m, vs[at_]), rfl, ⟨rfl, okat, hm2, hp⟩, ?_⟩⟩))))))
      rintro _ ⟨t', rfl, ok'⟩
      refine vc (zw rfl ⟨_, at_, rfl, by rw [mlv]; exact acM rfl hat, vs.set at_ t', rfl, ?_, by rw [apf], fun t ht => ?_⟩)
      ·show [OC.lst ((vs.map lnD).set at_ (lnD t'))] = _
       rw [arY]
      ·rcases apT ht with h | h
       ·exact (okv t h).up
       ·rw [h]; exact ok'
    rintro _ _ ⟨vs', rfl, rfl, lv', okv'⟩
    have mlv' : (vs'.map lnD).length = vs'.length := anQ _
    have hat' : at_ < vs'.length := by omega
    refine ahv (aaD (yw (yV (zx 3 ?_))))
    repeat walk_at "dl"
    rintro _ ⟨i3, rfl, _, _⟩
    repeat walk_at "dl"
    refine yH (fun h => ?_) fun h => yC ⟨vs', _, _, rfl, rfl, by omega, okv'⟩
    refine aee (i := 7) (j := 0) rfl rfl (by omega) (vM ?_)
    rw [fr]
    refine zx ((vs'.length : Nat) + 1) (qB rfl (zS (adK (qC (aaF rfl (.inl ⟨_, rfl, ?_⟩))))))
    repeat walk_at "dl"
    refine ⟨⟨by rw [mlv'], by omega, by omega⟩, ?_⟩
    rintro _ ⟨q', rfl, q0, q1⟩
    obtain ⟨q', rfl⟩ := api q0
    refine ⟨_, rfl, q', rfl, by omega, acm (i := 7) (j := 0) rfl rfl (vc (zw rfl ⟨_, rfl, lnD vs'[at_], yq rfl hat', vs'.take q' ++ vs'[at_] :: vs'.drop q', _, _, rfl, ?_, ?_, fun t ht => ?_⟩))⟩
    ·show [OC.lst ((vs'.map lnD).take q' ++ lnD vs'[at_] :: (vs'.map lnD).drop q')] = _
     rw [aoE, aor, aq1, aqI]
    ·rw [aoh, aoe, aoA, ao6]
     omega
    ·rcases aop.mp ht with h | h
     ·exact okv' t (aqs h)
     ·rcases aoa.mp h with h | h
      ·rw [h]; exact okv' _ (aot hat')
      ·exact okv' t (aq7 h)
   ·rintro _ _ ⟨vs, y8, y9, rfl, rfl, lv, okv⟩
    rw [qY] at lv okv
    refine ⟨vs, _, _, rfl, rfl, by omega, fun t ht => ?_⟩
    have h := okv t ht
    have : n4.toNat = 0 \/ n4.toNat = 1 \/ n4.toNat = 2 \/ n4.toNat = 3 := by omega
    rcases this with e | e | e | e <;> rw [e] at h
    ·exact h.up.up.up
    ·exact h.up.up
    ·exact h.up
    ·exact h
  rintro _ _ ⟨vs, y8, y9, rfl, rfl, lv, okv⟩
  have mlv : (vs.map lnD).length = vs.length := anQ _
  obtain ⟨lay, dep⟩ := aaT vs (agU okv)
  have gv : ∀ t ∈ vs, afF t := fun t ht => ⟨aou (okv t ht).len (by decide), (okv t ht).str, fun us a b => by have := (okv t ht).dst us a b; omega⟩
  refine yD (amJ (i := 7) (n := 10) (j := 0) rfl rfl (show 10 < 12 by decide) ?_)
  have due := am9 T aT vs
  refine yD (jX (ya (zx (rows, wd, ct, vs) (afk rfl rfl rfl ⟨rfl, ⟨rfl, g, by show vs.length <= 900; omega, gv⟩, ?_⟩))))
  rintro _ rfl
  refine zv ?_
  dsimp only
  rw [due]
  have kinds : aal (ts.map qx) vs (zG rows wd ct).length = .none \/ ∃ i : Int, aal (ts.map qx) vs (zG rows wd ct).length = .int i := by
   unfold aal
   cases duF (ts.map qx) vs [] 0 with
   | some i => exact .inr ⟨_, rfl⟩
   | none =>
    dsimp only
    split
    ·exact .inr ⟨_, rfl⟩
    ·exact .inl rfl
  generalize hdu : aal (ts.map qx) vs (zG rows wd ct).length = du at *
  have ldu : du.canLay0 = true /\ du.depth = 0 := by rcases kinds with rfl | ⟨i, rfl⟩ <;> exact ⟨rfl, rfl⟩
  show PSm w K ⟨some p, []⟩ [D] _ [some (DV.dat (scr ns)), some (.dat (.int i)), some .feed, some (.dat (tab rows)), some (.dat (.int ct)), some (.dat (.list (ts.map yp))), some (.dat (.int (zG rows wd ct).length)), some (.own 0), y8, y9, some (.dat (.list (vs.map lnD))), some (.dat du)] [OC.lst (vs.map lnD)] _
  refine ahv (aaN ?_)
  rw [fr]
  refine aeV (yw (yV (zw rfl (zx (ts.map qx, vs, (zG rows wd ct).length) (afk rfl rfl rfl ⟨rfl, ⟨?_, by show vs.length <= 900; omega, fun t ht => ⟨(gv t ht).2.1, (gv t ht).1⟩, fun t ht => ⟨(gd0 t ht).1.2.1, (jS (D0.ok t ht)).1, (gd0 t ht).2⟩, fun l ln l2 => ?_⟩, ?_⟩)))))
  ·rw [abE]
  ·refine aou (ln.length_le_of_subset (l₂ := zG rows wd ct) fun x hx => mem_gates.mpr ?_) gl
   obtain ⟨t, ht, hq⟩ := aoC.mp (l2 x hx)
   exact (jS (D0.ok t ht)).2.2 x hq
  rintro _ rfl
  dsimp only
  rw [hdu]
  refine ⟨ldu.1, ldu.1, by rw [ldu.2]; decide, _, rfl, ?_⟩
  rw [if_pos rfl, asf _ ldu.1, aoQ, if_neg anR]
  have nob : PTd K ⟨some p, []⟩ (akf K (tCB (aiB K) (zW (yb 11) (zW (tC (.ty "bool")) yP)))) [some (DV.dat (scr ns)), some (.dat (.int i)), some .feed, some (.dat (tab rows)), some (.dat (.int ct)), some (.dat (.list (ts.map yp))), some (.dat (.int (zG rows wd ct).length)), some (.dat (.list (vs.map lnD))), freed 0 [OC.lst (vs.map lnD)] y8, freed 0 [OC.lst (vs.map lnD)] y9, freed 0 [OC.lst (vs.map lnD)] (some (.dat (.list (vs.map lnD)))), freed 0 [OC.lst (vs.map lnD)] (some (.dat du))] fun b => b = false := by
   rcases kinds with rfl | ⟨i, rfl⟩
   ·exact yW (akQ kN (zw rfl ⟨rfl, _, rfl, rfl⟩))
   ·exact yW (anq kB (zw rfl ⟨_, rfl, _, rfl, rfl⟩))
  refine aeV (nob.imp fun b hb => ?_)
  subst hb
  rw [if_neg anR]
  refine yw (yV (zw rfl (zw rfl ⟨lay, lay, ?_, _, rfl, ?_⟩)))
  ·exact aou (ar1 _ _) (by show aog (vs.map lnD) + 1 <= 60; omega)
  rw [if_pos rfl, alo lay, aoQ, if_neg anR]
  exact yC ⟨_, _, _, _, _, _, _, _, _, _, _, rfl⟩
 ·rintro _ ⟨x1, x2, x3, x4, x5, x6, x7, x8, x9, x10, x11, rfl⟩
  repeat walk_at "dl"
  rfl
end
open PySem PySem.Spec PyProof.Rows L2
theorem all_mk {l : PySem.W.OpenLaw} {w : World} {K : anS} {h : Heap} {mg : Str -> Option Value} {fa : Addr} (X : K.In h) (G : h.Ns mainGlobals mg) (hfa : mg "law" = some (.ref fa))
  {f1 : Addr} {od1 an1 : Option Addr} {sl1 : Array (Option Value)} {oc1 kV1 dc1 pm1 cd1 ct1 : Value} (a1 : FD K "size" ada f1 od1 an1 sl1 oc1 kV1 dc1 pm1 cd1 ct1)
  {f2 : Addr} {od2 an2 : Option Addr} {sl2 : Array (Option Value)} {oc2 kV2 dc2 pm2 cd2 ct2 : Value} (a2 : FD K "points" vP f2 od2 an2 sl2 oc2 kV2 dc2 pm2 cd2 ct2)
  {f3 : Addr} {od3 an3 : Option Addr} {sl3 : Array (Option Value)} {oc3 kV3 dc3 pm3 cd3 ct3 : Value} (a3 : FD K "has_point" jJ f3 od3 an3 sl3 oc3 kV3 dc3 pm3 cd3 ct3)
  {f4 : Addr} {od4 an4 : Option Addr} {sl4 : Array (Option Value)} {oc4 kV4 dc4 pm4 cd4 ct4 : Value} (a4 : FD K "has_cell" qj f4 od4 an4 sl4 oc4 kV4 dc4 pm4 cd4 ct4)
  {f5 : Addr} {od5 an5 : Option Addr} {sl5 : Array (Option Value)} {oc5 kV5 dc5 pm5 cd5 ct5 : Value} (a5 : FD K "corners" qR f5 od5 an5 sl5 oc5 kV5 dc5 pm5 cd5 ct5)
  {f6 : Addr} {od6 an6 : Option Addr} {sl6 : Array (Option Value)} {oc6 kV6 dc6 pm6 cd6 ct6 : Value} (a6 : FD K "ask_table" jK f6 od6 an6 sl6 oc6 kV6 dc6 pm6 cd6 ct6)
  {f7 : Addr} {od7 an7 : Option Addr} {sl7 : Array (Option Value)} {oc7 kV7 dc7 pm7 cd7 ct7 : Value} (a7 : FD K "fits" adb f7 od7 an7 sl7 oc7 kV7 dc7 pm7 cd7 ct7)
  {f8 : Addr} {od8 an8 : Option Addr} {sl8 : Array (Option Value)} {oc8 kV8 dc8 pm8 cd8 ct8 : Value} (a8 : FD K "is_row" vQ f8 od8 an8 sl8 oc8 kV8 dc8 pm8 cd8 ct8)
  {f9 : Addr} {od9 an9 : Option Addr} {sl9 : Array (Option Value)} {oc9 kV9 dc9 pm9 cd9 ct9 : Value} (a9 : FD K "gates" aaP f9 od9 an9 sl9 oc9 kV9 dc9 pm9 cd9 ct9)
  {f10 : Addr} {od10 an10 : Option Addr} {sl10 : Array (Option Value)} {oc10 kV10 dc10 pm10 cd10 ct10 : Value} (a10 : FD K "stands_high" jc f10 od10 an10 sl10 oc10 kV10 dc10 pm10 cd10 ct10)
  {f11 : Addr} {od11 an11 : Option Addr} {sl11 : Array (Option Value)} {oc11 kV11 dc11 pm11 cd11 ct11 : Value} (a11 : FD K "gate_points" je f11 od11 an11 sl11 oc11 kV11 dc11 pm11 cd11 ct11)
  {f12 : Addr} {od12 an12 : Option Addr} {sl12 : Array (Option Value)} {oc12 kV12 dc12 pm12 cd12 ct12 : Value} (a12 : FD K "has_gate" qk f12 od12 an12 sl12 oc12 kV12 dc12 pm12 cd12 ct12)
  {f13 : Addr} {od13 an13 : Option Addr} {sl13 : Array (Option Value)} {oc13 kV13 dc13 pm13 cd13 ct13 : Value} (a13 : FD K "is_open" qS f13 od13 an13 sl13 oc13 kV13 dc13 pm13 cd13 ct13)
  {f14 : Addr} {od14 an14 : Option Addr} {sl14 : Array (Option Value)} {oc14 kV14 dc14 pm14 cd14 ct14 : Value} (a14 : FD K "cell_gates" jq f14 od14 an14 sl14 oc14 kV14 dc14 pm14 cd14 ct14)
  {f15 : Addr} {od15 an15 : Option Addr} {sl15 : Array (Option Value)} {oc15 kV15 dc15 pm15 cd15 ct15 : Value} (a15 : FD K "is_crossed" jr f15 od15 an15 sl15 oc15 kV15 dc15 pm15 cd15 ct15)
  {f16 : Addr} {od16 an16 : Option Addr} {sl16 : Array (Option Value)} {oc16 kV16 dc16 pm16 cd16 ct16 : Value} (a16 : FD K "has_high_middle" yE f16 od16 an16 sl16 oc16 kV16 dc16 pm16 cd16 ct16)
  {f17 : Addr} {od17 an17 : Option Addr} {sl17 : Array (Option Value)} {oc17 kV17 dc17 pm17 cd17 ct17 : Value} (a17 : FD K "cell_ties" jL f17 od17 an17 sl17 oc17 kV17 dc17 pm17 cd17 ct17)
  {f18 : Addr} {od18 an18 : Option Addr} {sl18 : Array (Option Value)} {oc18 kV18 dc18 pm18 cd18 ct18 : Value} (a18 : FD K "crossed_ties" yU f18 od18 an18 sl18 oc18 kV18 dc18 pm18 cd18 ct18)
  {f19 : Addr} {od19 an19 : Option Addr} {sl19 : Array (Option Value)} {oc19 kV19 dc19 pm19 cd19 ct19 : Value} (a19 : FD K "heading" qT f19 od19 an19 sl19 oc19 kV19 dc19 pm19 cd19 ct19)
  {f20 : Addr} {od20 an20 : Option Addr} {sl20 : Array (Option Value)} {oc20 kV20 dc20 pm20 cd20 ct20 : Value} (a20 : FD K "cell_ahead" jt f20 od20 an20 sl20 oc20 kV20 dc20 pm20 cd20 ct20)
  {f21 : Addr} {od21 an21 : Option Addr} {sl21 : Array (Option Value)} {oc21 kV21 dc21 pm21 cd21 ct21 : Value} (a21 : FD K "comes_in" ql f21 od21 an21 sl21 oc21 kV21 dc21 pm21 cd21 ct21)
  {f22 : Addr} {od22 an22 : Option Addr} {sl22 : Array (Option Value)} {oc22 kV22 dc22 pm22 cd22 ct22 : Value} (a22 : FD K "gate_ahead" ju f22 od22 an22 sl22 oc22 kV22 dc22 pm22 cd22 ct22)
  {f23 : Addr} {od23 an23 : Option Addr} {sl23 : Array (Option Value)} {oc23 kV23 dc23 pm23 cd23 ct23 : Value} (a23 : FD K "first_wrong" jf f23 od23 an23 sl23 oc23 kV23 dc23 pm23 cd23 ct23)
  {f24 : Addr} {od24 an24 : Option Addr} {sl24 : Array (Option Value)} {oc24 kV24 dc24 pm24 cd24 ct24 : Value} (a24 : FD K "shares_gate" jg f24 od24 an24 sl24 oc24 kV24 dc24 pm24 cd24 ct24)
  {f25 : Addr} {od25 an25 : Option Addr} {sl25 : Array (Option Value)} {oc25 kV25 dc25 pm25 cd25 ct25 : Value} (a25 : FD K "is_line" qU f25 od25 an25 sl25 oc25 kV25 dc25 pm25 cd25 ct25)
  {f26 : Addr} {od26 an26 : Option Addr} {sl26 : Array (Option Value)} {oc26 kV26 dc26 pm26 cd26 ct26 : Value} (a26 : FD K "all_open" qm f26 od26 an26 sl26 oc26 kV26 dc26 pm26 cd26 ct26)
  {f27 : Addr} {od27 an27 : Option Addr} {sl27 : Array (Option Value)} {oc27 kV27 dc27 pm27 cd27 ct27 : Value} (a27 : FD K "goes_on" qV f27 od27 an27 sl27 oc27 kV27 dc27 pm27 cd27 ct27)
  {f28 : Addr} {od28 an28 : Option Addr} {sl28 : Array (Option Value)} {oc28 kV28 dc28 pm28 cd28 ct28 : Value} (a28 : FD K "is_closed" jM f28 od28 an28 sl28 oc28 kV28 dc28 pm28 cd28 ct28)
  {f29 : Addr} {od29 an29 : Option Addr} {sl29 : Array (Option Value)} {oc29 kV29 dc29 pm29 cd29 ct29 : Value} (a29 : FD K "is_from_edge_to_edge" ye f29 od29 an29 sl29 oc29 kV29 dc29 pm29 cd29 ct29)
  {f30 : Addr} {od30 an30 : Option Addr} {sl30 : Array (Option Value)} {oc30 kV30 dc30 pm30 cd30 ct30 : Value} (a30 : FD K "lines" aaQ f30 od30 an30 sl30 oc30 kV30 dc30 pm30 cd30 ct30)
  {f31 : Addr} {od31 an31 : Option Addr} {sl31 : Array (Option Value)} {oc31 kV31 dc31 pm31 cd31 ct31 : Value} (a31 : FD K "line_from" jN f31 od31 an31 sl31 oc31 kV31 dc31 pm31 cd31 ct31)
  {f32 : Addr} {od32 an32 : Option Addr} {sl32 : Array (Option Value)} {oc32 kV32 dc32 pm32 cd32 ct32 : Value} (a32 : FD K "_law_feed" qq f32 od32 an32 sl32 oc32 kV32 dc32 pm32 cd32 ct32)
  {f33 : Addr} {od33 an33 : Option Addr} {sl33 : Array (Option Value)} {oc33 kV33 dc33 pm33 cd33 ct33 : Value} (a33 : FD K "_law_draw" qr f33 od33 an33 sl33 oc33 kV33 dc33 pm33 cd33 ct33)
  {f34 : Addr} {od34 an34 : Option Addr} {sl34 : Array (Option Value)} {oc34 kV34 dc34 pm34 cd34 ct34 : Value} (a34 : FD K "_law_height" jv f34 od34 an34 sl34 oc34 kV34 dc34 pm34 cd34 ct34)
  {f35 : Addr} {od35 an35 : Option Addr} {sl35 : Array (Option Value)} {oc35 kV35 dc35 pm35 cd35 ct35 : Value} (a35 : FD K "_law_table" jO f35 od35 an35 sl35 oc35 kV35 dc35 pm35 cd35 ct35)
  {f36 : Addr} {od36 an36 : Option Addr} {sl36 : Array (Option Value)} {oc36 kV36 dc36 pm36 cd36 ct36 : Value} (a36 : FD K "_law_cut" qW f36 od36 an36 sl36 oc36 kV36 dc36 pm36 cd36 ct36)
  {f37 : Addr} {od37 an37 : Option Addr} {sl37 : Array (Option Value)} {oc37 kV37 dc37 pm37 cd37 ct37 : Value} (a37 : FD K "_law_dealt" jP f37 od37 an37 sl37 oc37 kV37 dc37 pm37 cd37 ct37)
  {f38 : Addr} {od38 an38 : Option Addr} {sl38 : Array (Option Value)} {oc38 kV38 dc38 pm38 cd38 ct38 : Value} (a38 : FD K "_law_other" jQ f38 od38 an38 sl38 oc38 kV38 dc38 pm38 cd38 ct38)
  {f39 : Addr} {od39 an39 : Option Addr} {sl39 : Array (Option Value)} {oc39 kV39 dc39 pm39 cd39 ct39 : Value} (a39 : FD K "_law_spoiled" jh f39 od39 an39 sl39 oc39 kV39 dc39 pm39 cd39 ct39)
  {f40 : Addr} {od40 an40 : Option Addr} {sl40 : Array (Option Value)} {oc40 kV40 dc40 pm40 cd40 ct40 : Value} (a40 : FD K "_law_due" qX f40 od40 an40 sl40 oc40 kV40 dc40 pm40 cd40 ct40)
  {f41 : Addr} {od41 an41 : Option Addr} {sl41 : Array (Option Value)} {oc41 kV41 dc41 pm41 cd41 ct41 : Value} (a41 : FD K "law" aay f41 od41 an41 sl41 oc41 kV41 dc41 pm41 cd41 ct41)
  {tk_FEWEST : Tok} (g_FEWEST : aoD K mainGlobals "FEWEST" = some (some (.int (2) tk_FEWEST)))
  {tk_MOST : Tok} (g_MOST : aoD K mainGlobals "MOST" = some (some (.int (7) tk_MOST)))
  {tk_LEAST : Tok} (g_LEAST : aoD K mainGlobals "LEAST" = some (some (.int (-1000000000) tk_LEAST)))
  {tk_GREATEST : Tok} (g_GREATEST : aoD K mainGlobals "GREATEST" = some (some (.int (1000000000) tk_GREATEST)))
  (z_len : aoD K mainGlobals "len" = some none)
  (z_min : aoD K mainGlobals "min" = some none)
  (z_max : aoD K mainGlobals "max" = some none)
  (z_enumerate : aoD K mainGlobals "enumerate" = some none)
  (z_range : aoD K mainGlobals "range" = some none)
  (z_all : aoD K mainGlobals "all" = some none)
  (z_sum : aoD K mainGlobals "sum" = some none)
  (z_tuple : aoD K mainGlobals "tuple" = some none)
  (z_set : aoD K mainGlobals "set" = some none)
  (z_sorted : aoD K mainGlobals "sorted" = some none)
  (z_abs : aoD K mainGlobals "abs" = some none)
  (z_zip : aoD K mainGlobals "zip" = some none)
  (z_any : aoD K mainGlobals "any" = some none)
  (z_list : aoD K mainGlobals "list" = some none)
  (z_reversed : aoD K mainGlobals "reversed" = some none)
  (z_isinstance : aoD K mainGlobals "isinstance" = some none)
  (z_bool : aoD K mainGlobals "bool" = some none)
  {C_AHEAD : Addr} (cG_AHEAD : aoD K mainGlobals "AHEAD" = some (some (.ref C_AHEAD)))
  {C_BEHIND : Addr} (cG_BEHIND : aoD K mainGlobals "BEHIND" = some (some (.ref C_BEHIND)))
  (tab_AHEAD : ahy K C_AHEAD am0 = true)
  (tab_BEHIND : ahy K C_BEHIND ajA = true)
  (kB : apl K (.type "int") (.type "bool") = some false)
  (kN : apl K (.type "NoneType") (.type "bool") = some false) :
  ∃ fd : FuncData, (∀ (s : Shared) (v : Value), BindsTo s fd ⟨[v], []⟩ [("_law_script", v)]) /\ ∀ base : Heap, K.In base -> base.Ns mainGlobals mg -> FnOk l.prog w K mg base CX0 11 fa fd ["_law_script"] (agK K) := by
 have F_size : Def K mg "size" ada ["rows"] := yu X G a1 (fun _ _ _ _ _ _ us hl => match us, hl with | [_], _ => rfl)
 have F_points : Def K mg "points" vP ["rows"] := yu X G a2 (fun _ _ _ _ _ _ us hl => match us, hl with | [_], _ => rfl)
 have F_has_point : Def K mg "has_point" jJ ["rows", "x", "y"] := yu X G a3 (fun _ _ _ _ _ _ us hl => match us, hl with | [_, _, _], _ => rfl)
 have F_has_cell : Def K mg "has_cell" qj ["rows", "x", "y"] := yu X G a4 (fun _ _ _ _ _ _ us hl => match us, hl with | [_, _, _], _ => rfl)
 have F_corners : Def K mg "corners" qR ["x", "y"] := yu X G a5 (fun _ _ _ _ _ _ us hl => match us, hl with | [_, _], _ => rfl)
 have F_ask_table : Def K mg "ask_table" jK ["rows"] := yu X G a6 (fun _ _ _ _ _ _ us hl => match us, hl with | [_], _ => rfl)
 have F_fits : Def K mg "fits" adb ["things"] := yu X G a7 (fun _ _ _ _ _ _ us hl => match us, hl with | [_], _ => rfl)
 have F_is_row : Def K mg "is_row" vQ ["row"] := yu X G a8 (fun _ _ _ _ _ _ us hl => match us, hl with | [_], _ => rfl)
 have F_gates : Def K mg "gates" aaP ["rows", "cut"] := yu X G a9 (fun _ _ _ _ _ _ us hl => match us, hl with | [_, _], _ => rfl)
 have F_stands_high : Def K mg "stands_high" jc ["rows", "cut", "point"] := yu X G a10 (fun _ _ _ _ _ _ us hl => match us, hl with | [_, _, _], _ => rfl)
 have F_gate_points : Def K mg "gate_points" je ["gate"] := yu X G a11 (fun _ _ _ _ _ _ us hl => match us, hl with | [_], _ => rfl)
 have F_has_gate : Def K mg "has_gate" qk ["rows", "gate"] := yu X G a12 (fun _ _ _ _ _ _ us hl => match us, hl with | [_, _], _ => rfl)
 have F_is_open : Def K mg "is_open" qS ["rows", "cut", "gate"] := yu X G a13 (fun _ _ _ _ _ _ us hl => match us, hl with | [_, _, _], _ => rfl)
 have F_cell_gates : Def K mg "cell_gates" jq ["cell"] := yu X G a14 (fun _ _ _ _ _ _ us hl => match us, hl with | [_], _ => rfl)
 have F_is_crossed : Def K mg "is_crossed" jr ["rows", "cut", "cell"] := yu X G a15 (fun _ _ _ _ _ _ us hl => match us, hl with | [_, _, _], _ => rfl)
 have F_has_high_middle : Def K mg "has_high_middle" yE ["rows", "cut", "cell"] := yu X G a16 (fun _ _ _ _ _ _ us hl => match us, hl with | [_, _, _], _ => rfl)
 have F_cell_ties : Def K mg "cell_ties" jL ["rows", "cut", "cell"] := yu X G a17 (fun _ _ _ _ _ _ us hl => match us, hl with | [_, _, _], _ => rfl)
 have F_crossed_ties : Def K mg "crossed_ties" yU ["rows", "cut", "cell"] := yu X G a18 (fun _ _ _ _ _ _ us hl => match us, hl with | [_, _, _], _ => rfl)
 have F_heading : Def K mg "heading" qT ["rows", "cut", "gate"] := yu X G a19 (fun _ _ _ _ _ _ us hl => match us, hl with | [_, _, _], _ => rfl)
 have F_cell_ahead : Def K mg "cell_ahead" jt ["rows", "cut", "gate"] := yu X G a20 (fun _ _ _ _ _ _ us hl => match us, hl with | [_, _, _], _ => rfl)
 have F_comes_in : Def K mg "comes_in" ql ["rows", "cut", "gate"] := yu X G a21 (fun _ _ _ _ _ _ us hl => match us, hl with | [_, _, _], _ => rfl)
 have F_gate_ahead : Def K mg "gate_ahead" ju ["rows", "cut", "gate"] := yu X G a22 (fun _ _ _ _ _ _ us hl => match us, hl with | [_, _, _], _ => rfl)
 have F_first_wrong : Def K mg "first_wrong" jf ["rows", "cut", "some"] := yu X G a23 (fun _ _ _ _ _ _ us hl => match us, hl with | [_, _, _], _ => rfl)
 have F_shares_gate : Def K mg "shares_gate" jg ["line", "seen"] := yu X G a24 (fun _ _ _ _ _ _ us hl => match us, hl with | [_, _], _ => rfl)
 have F_is_line : Def K mg "is_line" qU ["rows", "cut", "line"] := yu X G a25 (fun _ _ _ _ _ _ us hl => match us, hl with | [_, _, _], _ => rfl)
 have F_all_open : Def K mg "all_open" qm ["rows", "cut", "path"] := yu X G a26 (fun _ _ _ _ _ _ us hl => match us, hl with | [_, _, _], _ => rfl)
 have F_goes_on : Def K mg "goes_on" qV ["rows", "cut", "path"] := yu X G a27 (fun _ _ _ _ _ _ us hl => match us, hl with | [_, _, _], _ => rfl)
 have F_is_closed : Def K mg "is_closed" jM ["rows", "cut", "path"] := yu X G a28 (fun _ _ _ _ _ _ us hl => match us, hl with | [_, _, _], _ => rfl)
 have F_is_from_edge_to_edge : Def K mg "is_from_edge_to_edge" ye ["rows", "cut", "path"] := yu X G a29 (fun _ _ _ _ _ _ us hl => match us, hl with | [_, _, _], _ => rfl)
 have F_lines : Def K mg "lines" aaQ ["rows", "cut"] := yu X G a30 (fun _ _ _ _ _ _ us hl => match us, hl with | [_, _], _ => rfl)
 have F_line_from : Def K mg "line_from" jN ["rows", "cut", "start"] := yu X G a31 (fun _ _ _ _ _ _ us hl => match us, hl with | [_, _, _], _ => rfl)
 have F_law_feed : Def K mg "_law_feed" qq ["_law_script", "_law_k"] := yu X G a32 (fun _ _ _ _ _ _ us hl => match us, hl with | [_, _], _ => rfl)
 have F_law_draw : Def K mg "_law_draw" qr ["_law_feed_here", "_law_many"] := yu X G a33 (fun _ _ _ _ _ _ us hl => match us, hl with | [_, _], _ => rfl)
 have F_law_height : Def K mg "_law_height" jv ["_law_feed_here", "_law_far", "_law_base"] := yu X G a34 (fun _ _ _ _ _ _ us hl => match us, hl with | [_, _, _], _ => rfl)
 have F_law_table : Def K mg "_law_table" jO ["_law_feed_here"] := yu X G a35 (fun _ _ _ _ _ _ us hl => match us, hl with | [_], _ => rfl)
 have F_law_cut : Def K mg "_law_cut" qW ["_law_feed_here", "_law_rows"] := yu X G a36 (fun _ _ _ _ _ _ us hl => match us, hl with | [_, _], _ => rfl)
 have F_law_dealt : Def K mg "_law_dealt" jP ["_law_feed_here", "_law_some"] := yu X G a37 (fun _ _ _ _ _ _ us hl => match us, hl with | [_, _], _ => rfl)
 have F_law_other : Def K mg "_law_other" jQ ["_law_feed_here", "_law_gate"] := yu X G a38 (fun _ _ _ _ _ _ us hl => match us, hl with | [_, _], _ => rfl)
 have F_law_spoiled : Def K mg "_law_spoiled" jh ["_law_feed_here", "_law_line"] := yu X G a39 (fun _ _ _ _ _ _ us hl => match us, hl with | [_, _], _ => rfl)
 have F_law_due : Def K mg "_law_due" qX ["_law_told", "_law_some", "_law_many"] := yu X G a40 (fun _ _ _ _ _ _ us hl => match us, hl with | [_, _, _], _ => rfl)
 have F_law : Def K mg "law" aay ["_law_script"] := yu X G a41 (fun _ _ _ _ _ _ us hl => match us, hl with | [_], _ => rfl)
 have m_FEWEST := apH X G g_FEWEST
 have m_MOST := apH X G g_MOST
 have m_LEAST := apH X G g_LEAST
 have m_GREATEST := apH X G g_GREATEST
 have m_len := aoz X G z_len
 have m_min := aoz X G z_min
 have m_max := aoz X G z_max
 have m_enumerate := aoz X G z_enumerate
 have m_range := aoz X G z_range
 have m_all := aoz X G z_all
 have m_sum := aoz X G z_sum
 have m_tuple := aoz X G z_tuple
 have m_set := aoz X G z_set
 have m_sorted := aoz X G z_sorted
 have m_abs := aoz X G z_abs
 have m_zip := aoz X G z_zip
 have m_any := aoz X G z_any
 have m_list := aoz X G z_list
 have m_reversed := aoz X G z_reversed
 have m_isinstance := aoz X G z_isinstance
 have m_bool := aoz X G z_bool
 have m_AHEAD := apH X G cG_AHEAD
 have m_BEHIND := apH X G cG_BEHIND
 have e := hfa.symm.trans (apH X G a41.1)
 cases e
 have F0 := aeT (st := aay) a41.2.1 a41.2.2.1 a41.2.2.2
 refine ⟨ap0 "law" "law" (qf aay) (yS aay) (zr aay) .none kV41 dc41 pm41 an41 cd41 ct41, fun s v => .of_eq rfl, fun base _ _ => ?_⟩
 have H0 := alg (P := l.prog) (w := w) (base := base) (k := 0) F_law_feed m_len m_abs
 have H1 := akX (P := l.prog) (w := w) (base := base) (k := 0) F_law_draw
 have H2 := akW (P := l.prog) (w := w) (base := base) (k := 0) F_fits m_len ⟨_, m_FEWEST⟩ ⟨_, m_MOST⟩
 have H3 := akV (P := l.prog) (w := w) (base := base) (k := 0) F_size m_len
 have H4 := amW (P := l.prog) (w := w) (base := base) (k := 0) F_gate_points
 have H5 := akY (P := l.prog) (w := w) (base := base) (k := 0) F_stands_high
 have H6 := ahU (P := l.prog) (w := w) (base := base) (k := 0) F_cell_gates
 have H7 := afu (P := l.prog) (w := w) (base := base) (k := 0) F_corners
 have H8 := alm (P := l.prog) (w := w) (base := base) (k := 0) F_law_due m_len m_range
 have H9 := ah5 (P := l.prog) (w := w) (base := base) (k := 0) F_shares_gate m_any
 have H10 := ahR (P := l.prog) (w := w) (base := base) (k := 1) F_law_height m_min (H1.mono (by decide))
 have H11 := amX (P := l.prog) (w := w) (base := base) (k := 1) F_law_cut m_len (H1.mono (by decide))
 have H12 := ahQ (P := l.prog) (w := w) (base := base) (k := 1) F_is_row m_min m_max ⟨_, m_LEAST⟩ ⟨_, m_GREATEST⟩ (H2.mono (by decide))
 have H13 := ahS (P := l.prog) (w := w) (base := base) (k := 1) F_points m_range (H3.mono (by decide))
 have H14 := amV (P := l.prog) (w := w) (base := base) (k := 1) F_has_point (H3.mono (by decide))
 have H15 := afx (P := l.prog) (w := w) (base := base) (k := 1) F_heading (H5.mono (by decide))
 have H16 := amZ (P := l.prog) (w := w) (base := base) (k := 1) F_has_high_middle m_sum (H7.mono (by decide))
 have H17 := ajS (P := l.prog) (w := w) (base := base) (k := 1) F_law_dealt m_len m_list (H1.mono (by decide))
 have H18 := ajU (P := l.prog) (w := w) (base := base) (k := 1) F_law_other (H1.mono (by decide))
 have H19 := ajo (P := l.prog) (w := w) (base := base) (k := 2) F_law_table m_range (H1.mono (by decide)) (H10.mono (by decide))
 have H20 := amU (P := l.prog) (w := w) (base := base) (k := 2) F_ask_table m_len m_enumerate (H2.mono (by decide)) (H12.mono (by decide))
 have H21 := akZ (P := l.prog) (w := w) (base := base) (k := 2) F_has_gate m_all (H14.mono (by decide)) (H4.mono (by decide))
 have H22 := ak4 (P := l.prog) (w := w) (base := base) (k := 2) F_has_cell (H14.mono (by decide))
 have H23 := ahX (P := l.prog) (w := w) (base := base) (k := 2) F_cell_ahead m_AHEAD tab_AHEAD (H15.mono (by decide))
 have H24 := ahV (P := l.prog) (w := w) (base := base) (k := 2) F_crossed_ties (H6.mono (by decide)) (H5.mono (by decide)) (H16.mono (by decide))
 have H25 := afG (P := l.prog) (w := w) (base := base) (k := 2) F_law_spoiled m_len m_list m_tuple m_reversed (H1.mono (by decide)) (H18.mono (by decide))
 have H26 := ak0 (P := l.prog) (w := w) (base := base) (k := 3) F_is_open (H21.mono (by decide)) (H4.mono (by decide)) (H5.mono (by decide))
 have H27 := ajC (P := l.prog) (w := w) (base := base) (k := 3) F_comes_in m_BEHIND tab_BEHIND (H15.mono (by decide)) (H22.mono (by decide))
 have H28 := ajv (P := l.prog) (w := w) (base := base) (k := 4) F_gates (H20.mono (by decide)) (H13.mono (by decide)) (H26.mono (by decide))
 have H29 := afv (P := l.prog) (w := w) (base := base) (k := 4) F_is_crossed m_all (H26.mono (by decide)) (H6.mono (by decide))
 have H30 := afE (P := l.prog) (w := w) (base := base) (k := 4) F_all_open (H26.mono (by decide))
 have H31 := ajy (P := l.prog) (w := w) (base := base) (k := 5) F_cell_ties (H29.mono (by decide)) (H24.mono (by decide)) (H6.mono (by decide)) (H26.mono (by decide))
 have H32 := ak9 (P := l.prog) (w := w) (base := base) (k := 6) F_gate_ahead (H23.mono (by decide)) (H22.mono (by decide)) (H31.mono (by decide))
 have H33 := ald (P := l.prog) (w := w) (base := base) (k := 7) F_line_from m_tuple (H32.mono (by decide))
 have H34 := ah2 (P := l.prog) (w := w) (base := base) (k := 7) F_goes_on m_all m_zip (H32.mono (by decide))
 have H35 := ah3 (P := l.prog) (w := w) (base := base) (k := 7) F_is_closed m_min (H32.mono (by decide))
 have H36 := ajP (P := l.prog) (w := w) (base := base) (k := 7) F_is_from_edge_to_edge (H27.mono (by decide)) (H32.mono (by decide))
 have H37 := ajK (P := l.prog) (w := w) (base := base) (k := 8) F_lines m_set m_sorted (H20.mono (by decide)) (H28.mono (by decide)) (H27.mono (by decide)) (H33.mono (by decide))
 have H38 := ali (P := l.prog) (w := w) (base := base) (k := 8) F_is_line m_len m_set (H30.mono (by decide)) (H34.mono (by decide)) (H35.mono (by decide)) (H36.mono (by decide))
 have H39 := anG (P := l.prog) (w := w) (base := base) (k := 9) F_first_wrong m_len m_enumerate (H20.mono (by decide)) (H38.mono (by decide)) (H9.mono (by decide)) (H28.mono (by decide))
 exact ana (P := l.prog) (w := w) (base := base) (k := 10) F0 m_len m_range m_max m_min m_sum m_list m_isinstance m_bool kB kN (H0.mono (by decide)) (H19.mono (by decide)) (H1.mono (by decide)) (H11.mono (by decide)) (H37.mono (by decide)) (H17.mono (by decide)) (H25.mono (by decide)) (H8.mono (by decide)) (H39.mono (by decide))
theorem walk {l : PySem.W.OpenLaw} {q : Program} {loose : List Str} {XP : (Str -> Option Value) -> Heap -> Prop} {YP : World -> Heap -> Prop} {d : DefRec} {K : Params -> anS} (hn : l.most = some 63) (hdf : d.params.defaults = [])
  (hY : ∀ (w : World) (h : Heap), YP w h -> (K w.params).In h)
  (F : ∀ (w : World) (mg : Str -> Option Value) (fa : Addr) (h : Heap), (K w.params).In h -> h.Ns mainGlobals mg -> mg d.name = some (.ref fa) ->
   ∃ fd : FuncData, (∀ (s : Shared) (u : Value), BindsTo s fd ⟨[u], []⟩ [("_law_script", u)]) /\ ∀ base : Heap, (K w.params).In base -> base.Ns mainGlobals mg -> FnOk l.prog w (K w.params) mg base CX0 11 fa fd ["_law_script"] (agK (K w.params))) :
  PySem.W.WalkO q loose XP YP l.row.toRowW d [] (fun f vs => PySem.call f vs) :=
 L2.walk_of (n := 63) (k := 11) (x := "_law_script") (CX := fun _ => CX0) (sp := fun w => agK (K w.params)) hn (by decide) hdf ⟨rfl, by decide, by decide⟩ hY F (fun _ _ a ns hl _ hS => ⟨a, ns, rfl, hS, hl, fun _ => rfl⟩) fun _ _ _ _ _ z => z
end My
def PySem.W.Fast.tw6031572703654367605 : Nat := 0
def PySem.W.Fast.tw4829296231385194735 : Nat := 0
def PySem.W.Fast.tw17165281963071790541 : Nat := 0
def PySem.W.Fast.tw5021607610010605853 : Nat := 0
def PySem.W.Fast.tw5939749909074359012 : Nat := 0
def PySem.W.Fast.tw17218053099593417299 : Nat := 0
def PySem.W.Fast.tw18248284341453353331 : Nat := 0
def PySem.W.Fast.tw12336568221195489465 : Nat := 0
def PySem.W.Fast.tw331976702774459285 : Nat := 0
def PySem.W.Fast.tw3271285745090695999 : Nat := 0
def PySem.W.Fast.tw18056165061587588893 : Nat := 0
def PySem.W.Fast.tw13176828625488753697 : Nat := 0
def PySem.W.Fast.tw3331937534645998203 : Nat := 0
def PySem.W.Fast.tw17732917539864635027 : Nat := 0
def PySem.W.Fast.tw9115845757374444324 : Nat := 0
def PySem.W.Fast.tw3598721660763599779 : Nat := 0
def PySem.W.Fast.tw4827418371516455098 : Nat := 0
def PySem.W.Fast.tw5593683273989634648 : Nat := 0
def PySem.W.Fast.tw2155092443439032484 : Nat := 0
def PySem.W.Fast.tw10072679474869646942 : Nat := 0
def PySem.W.Fast.tw4577796970967355219 : Nat := 0
def PySem.W.Fast.tw14623356170177511830 : Nat := 0
def PySem.W.Fast.tw1395099501935832256 : Nat := 0
def PySem.W.Fast.tw10680786652751790852 : Nat := 0
def PySem.W.Fast.tw1262496775799760759 : Nat := 0
def PySem.W.Fast.tw9419789527279361822 : Nat := 0
def PySem.W.Fast.tw17700644236078024635 : Nat := 0
def PySem.W.Fast.tw5065137617801894405 : Nat := 0
def PySem.W.Fast.tw17068385765367367693 : Nat := 0
def PySem.W.Fast.tw207501701575585150 : Nat := 0
def PySem.W.Fast.tw9794325613873558607 : Nat := 0
def PySem.W.Fast.tw14845610700403057464 : Nat := 0
open PySem PySem.W PyProof.Rows
set_option maxRecDepth 100000 in
set_option maxHeartbeats 0 in
theorem PySem.Challenge.cw_heightrings_k15_looker_tells_the_first_holds : PySem.Challenge.rw_heightrings_k15_looker_tells_the_first.Holds := by
 w_on; o_law; k_head; (case hw => w_witness2)
 k_fill
 refine My.walk (l := PySem.Challenge.rw_heightrings_k15_looker_tells_the_first) rfl rfl (fun w h Y => by first | exact PySem.W.kIn_of Y | exact PySem.W.km_in_of Y) ?F
 case F =>
  intro w mg fa h KX G hmg
  refine' My.all_mk KX G hmg ?a1 ?a2 ?a3 ?a4 ?a5 ?a6 ?a7 ?a8 ?a9 ?a10 ?a11 ?a12 ?a13 ?a14 ?a15 ?a16 ?a17 ?a18 ?a19 ?a20 ?a21 ?a22 ?a23 ?a24 ?a25 ?a26 ?a27 ?a28 ?a29 ?a30 ?a31 ?a32 ?a33 ?a34 ?a35 ?a36 ?a37 ?a38 ?a39 ?a40 ?a41 ?g_FEWEST ?g_MOST ?g_LEAST ?g_GREATEST ?z_len ?z_min ?z_max ?z_enumerate ?z_range ?z_all ?z_sum ?z_tuple ?z_set ?z_sorted ?z_abs ?z_zip ?z_any ?z_list ?z_reversed ?z_isinstance ?z_bool ?cG_AHEAD ?cG_BEHIND ?tab_AHEAD ?tab_BEHIND ?kB ?kN
  (case a1 => refine ⟨?_, ?_, ?_, ?_⟩ <;> k_is)
  (case a2 => refine ⟨?_, ?_, ?_, ?_⟩ <;> k_is)
  (case a3 => refine ⟨?_, ?_, ?_, ?_⟩ <;> k_is)
  (case a4 => refine ⟨?_, ?_, ?_, ?_⟩ <;> k_is)
  (case a5 => refine ⟨?_, ?_, ?_, ?_⟩ <;> k_is)
  (case a6 => refine ⟨?_, ?_, ?_, ?_⟩ <;> k_is)
  (case a7 => refine ⟨?_, ?_, ?_, ?_⟩ <;> k_is)
  (case a8 => refine ⟨?_, ?_, ?_, ?_⟩ <;> k_is)
  (case a9 => refine ⟨?_, ?_, ?_, ?_⟩ <;> k_is)
  (case a10 => refine ⟨?_, ?_, ?_, ?_⟩ <;> k_is)
  (case a11 => refine ⟨?_, ?_, ?_, ?_⟩ <;> k_is)
  (case a12 => refine ⟨?_, ?_, ?_, ?_⟩ <;> k_is)
  (case a13 => refine ⟨?_, ?_, ?_, ?_⟩ <;> k_is)
  (case a14 => refine ⟨?_, ?_, ?_, ?_⟩ <;> k_is)
  (case a15 => refine ⟨?_, ?_, ?_, ?_⟩ <;> k_is)
  (case a16 => refine ⟨?_, ?_, ?_, ?_⟩ <;> k_is)
  (case a17 => refine ⟨?_, ?_, ?_, ?_⟩ <;> k_is)
  (case a18 => refine ⟨?_, ?_, ?_, ?_⟩ <;> k_is)
  (case a19 => refine ⟨?_, ?_, ?_, ?_⟩ <;> k_is)
  (case a20 => refine ⟨?_, ?_, ?_, ?_⟩ <;> k_is)
  (case a21 => refine ⟨?_, ?_, ?_, ?_⟩ <;> k_is)
  (case a22 => refine ⟨?_, ?_, ?_, ?_⟩ <;> k_is)
  (case a23 => refine ⟨?_, ?_, ?_, ?_⟩ <;> k_is)
  (case a24 => refine ⟨?_, ?_, ?_, ?_⟩ <;> k_is)
  (case a25 => refine ⟨?_, ?_, ?_, ?_⟩ <;> k_is)
  (case a26 => refine ⟨?_, ?_, ?_, ?_⟩ <;> k_is)
  (case a27 => refine ⟨?_, ?_, ?_, ?_⟩ <;> k_is)
  (case a28 => refine ⟨?_, ?_, ?_, ?_⟩ <;> k_is)
  (case a29 => refine ⟨?_, ?_, ?_, ?_⟩ <;> k_is)
  (case a30 => refine ⟨?_, ?_, ?_, ?_⟩ <;> k_is)
  (case a31 => refine ⟨?_, ?_, ?_, ?_⟩ <;> k_is)
  (case a32 => refine ⟨?_, ?_, ?_, ?_⟩ <;> k_is)
  (case a33 => refine ⟨?_, ?_, ?_, ?_⟩ <;> k_is)
  (case a34 => refine ⟨?_, ?_, ?_, ?_⟩ <;> k_is)
  (case a35 => refine ⟨?_, ?_, ?_, ?_⟩ <;> k_is)
  (case a36 => refine ⟨?_, ?_, ?_, ?_⟩ <;> k_is)
  (case a37 => refine ⟨?_, ?_, ?_, ?_⟩ <;> k_is)
  (case a38 => refine ⟨?_, ?_, ?_, ?_⟩ <;> k_is)
  (case a39 => refine ⟨?_, ?_, ?_, ?_⟩ <;> k_is)
  (case a40 => refine ⟨?_, ?_, ?_, ?_⟩ <;> k_is)
  (case a41 => refine ⟨?_, ?_, ?_, ?_⟩ <;> k_is)
  (case g_FEWEST => k_is)
  (case g_MOST => k_is)
  (case g_LEAST => k_is)
  (case g_GREATEST => k_is)
  (case z_len => k_is)
  (case z_min => k_is)
  (case z_max => k_is)
  (case z_enumerate => k_is)
  (case z_range => k_is)
  (case z_all => k_is)
  (case z_sum => k_is)
  (case z_tuple => k_is)
  (case z_set => k_is)
  (case z_sorted => k_is)
  (case z_abs => k_is)
  (case z_zip => k_is)
  (case z_any => k_is)
  (case z_list => k_is)
  (case z_reversed => k_is)
  (case z_isinstance => k_is)
  (case z_bool => k_is)
  (case cG_AHEAD => k_is)
  (case cG_BEHIND => k_is)
  (case tab_AHEAD => kernel_rfl)
  (case tab_BEHIND => kernel_rfl)
  (case kB => kernel_rfl)
  (case kN => kernel_rfl)
end
