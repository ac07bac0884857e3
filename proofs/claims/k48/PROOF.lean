import PyProof.Rows.All
import Wide.All
import OpenK.AllK
import Wide.FinOn
import Lean
import PyProof.EqAt
import PyProof.EqKinds
import PyProof.TupleCall
import KE.KTryMore
import PyProof.ExcArgs
import PyProof.ConsumeWalk
import PyProof.P3Eq
import KE.KRevIter
import PyProof.ListRange
import PyProof.Rows.SumAny
import KE.KSortTup
import PyProof.SetScanFacts
import PyProof.TupleKey
import PyProof.DictRoadsH
import PyProof.SetRoads
import KE.KTabLook
import PyProof.Rows.ListMul
import PyProof.InstStoreFacts
import PySem.Challenge.RW_heightrings_k48_bad_tables_everywhere
set_option Elab.async false
set_option linter.all false
set_option maxRecDepth 100000
set_option maxHeartbeats 4000000
section
namespace L2
open PySem PySem.Spec PyProof.Rows
abbrev Key := Sum Int Str
def keyIs : Key → Value → Bool
  | .inl k, v => Value.isInt k v
  | .inr x, v => Value.isStrOf x v
def keyH (w : World) : Key → Int
  | .inl k => hashInt k
  | .inr x => hashStr w x
theorem keyIs_shape : ∀ {k : Key} {v : Value}, keyIs k v = true → (∃ i t, k = Sum.inl i ∧ v = Value.int i t) ∨ (∃ x t, k = Sum.inr x ∧ v = Value.str x t)
  | .inl i, v, h => by
    obtain ⟨t, e⟩ := Value.isInt_shape (k := i) (v := v) h
    exact .inl ⟨i, t, rfl, e⟩
  | .inr x, v, h => by
    obtain ⟨t, e⟩ := Value.isStrOf_shape (x := x) (v := v) h
    exact .inr ⟨x, t, rfl, e⟩
theorem key_ll (a b : Int) : decide ((Sum.inl a : Key) = Sum.inl b) = (a == b) := by
  by_cases e : a = b
  · subst e; simp
  · have h : ¬ (Sum.inl a : Key) = Sum.inl b := fun q => e (Sum.inl.inj q)
    rw [decide_eq_false h]
    exact (beq_eq_false_iff_ne.mpr e).symm
theorem key_rr (a b : Str) : decide ((Sum.inr a : Key) = Sum.inr b) = decide (a = b) := by
  by_cases e : a = b
  · subst e; simp
  · have h : ¬ (Sum.inr a : Key) = Sum.inr b := fun q => e (Sum.inr.inj q)
    rw [decide_eq_false h, decide_eq_false e]
theorem key_lr (a : Int) (b : Str) : decide ((Sum.inl a : Key) = Sum.inr b) = false := decide_eq_false (fun q => nomatch q)
theorem key_rl (a : Str) (b : Int) : decide ((Sum.inr a : Key) = Sum.inl b) = false := decide_eq_false (fun q => nomatch q)
def mixKind (prog : Program) (w : World) : PySem.KeyKind prog w Key where
  is := keyIs
  hash := keyH w
  inj := fun v a b ha hb => by
    rcases keyIs_shape ha with ⟨i, t, rfl, rfl⟩ | ⟨x, t, rfl, rfl⟩
    · rcases keyIs_shape hb with ⟨j, u, rfl, e⟩ | ⟨y, u, rfl, e⟩
      · injection e with e1 _; rw [e1]
      · exact nomatch e
    · rcases keyIs_shape hb with ⟨j, u, rfl, e⟩ | ⟨y, u, rfl, e⟩
      · exact nomatch e
      · injection e with e1 _; rw [e1]
  byValue := fun k v h => by
    rcases keyIs_shape h with ⟨i, t, rfl, rfl⟩ | ⟨x, t, rfl, rfl⟩ <;> rfl
  pyHash := fun hv h => by
    rcases keyIs_shape hv with ⟨i, t, rfl, rfl⟩ | ⟨x, t, rfl, rfl⟩
    · exact wpAny_pyHash_int h
    · exact wpAny_pyHash_str h
  eqBool := fun hu hv h => by
    rcases keyIs_shape hu with ⟨i, t, rfl, rfl⟩ | ⟨x, t, rfl, rfl⟩
    · rcases keyIs_shape hv with ⟨j, u, rfl, rfl⟩ | ⟨y, u, rfl, rfl⟩
      · rw [key_ll] at h; exact wpAny_eqBool_int h
      · rw [key_lr] at h; exact SeqAt.EqAt.int_str i t y u _ _ _ _ h
    · rcases keyIs_shape hv with ⟨j, u, rfl, rfl⟩ | ⟨y, u, rfl, rfl⟩
      · rw [key_rl] at h; exact SeqAt.EqAt.str_int x t j u _ _ _ _ h
      · rw [key_rr] at h; exact wpAny_eqBool_str h
  «strs» := fun k x t v h => by
    rcases keyIs_shape h with ⟨i, u, rfl, e⟩ | ⟨y, u, rfl, e⟩
    · exact nomatch e
    · injection e with e1 _
      subst e1
      cases v <;> rfl
end L2
namespace L2
open PySem PySem.Spec PyProof.Rows
inductive V where
  | non | bl (b : Bool) | int (i : Int) | str (x : Str) | byt (b : Array UInt8) | flt (b : UInt64) | ref (a : Addr) | ty (n : String)
  deriving DecidableEq
def RelV : V → Value → Prop
  | .non, u => u = Value.none
  | .bl b, u => u = Value.bool b
  | .int i, u => ∃ t, u = Value.int i t
  | .str x, u => ∃ t, u = Value.str x t
  | .byt b, u => ∃ t, u = Value.bytes b t
  | .flt b, u => ∃ t, u = Value.float b t
  | .ref a, u => u = Value.ref a
  | .ty n, u => u = Value.type n
abbrev Vals : List V → List Value → Prop := Paired RelV
theorem Vals.length {xs : List V} {us : List Value} (r : Vals xs us) : xs.length = us.length := Paired.length r
theorem Vals.get : ∀ {xs : List V} {us : List Value} {i : Nat} {x : V}, Vals xs us → xs[i]? = some x → ∃ u, us[i]? = some u ∧ RelV x u
  | _, _, _, _, .nil, e => by simp at e
  | _, _, 0, _, .cons r _, e => by simp at e; subst e; exact ⟨_, rfl, r⟩
  | _, _, i + 1, x, .cons _ t, e => by
    obtain ⟨u, h1, h2⟩ := Vals.get (i := i) (x := x) t (by simpa using e)
    exact ⟨u, by simpa using h1, h2⟩
theorem Vals.set {x : V} {u : Value} (r : RelV x u) : ∀ {xs : List V} {us : List Value} (i : Nat), Vals xs us → Vals (xs.set i x) (us.set i u)
  | _, _, _, .nil => .nil
  | _, _, 0, .cons _ t => .cons r t
  | _, _, i + 1, .cons q t => .cons q (Vals.set r i t)
theorem Vals.append : ∀ {xs ys : List V} {us ws : List Value}, Vals xs us → Vals ys ws → Vals (xs ++ ys) (us ++ ws)
  | _, _, _, _, .nil, s => s
  | _, _, _, _, .cons r t, s => .cons r (Vals.append t s)
theorem Vals.take : ∀ {xs : List V} {us : List Value} (n : Nat), Vals xs us → Vals (xs.take n) (us.take n)
  | _, _, 0, _ => .nil
  | _, _, _ + 1, .nil => .nil
  | _, _, n + 1, .cons r t => .cons r (Vals.take n t)
theorem Vals.drop : ∀ {xs : List V} {us : List Value} (n : Nat), Vals xs us → Vals (xs.drop n) (us.drop n)
  | _, _, 0, r => r
  | _, _, _ + 1, .nil => .nil
  | _, _, n + 1, .cons _ t => Vals.drop n t
def RelO : Option V → Option Value → Prop
  | some v, some u => RelV v u
  | none, none => True
  | _, _ => False
def KV {κ : Type} : List (κ × V) → List (κ × Value) → Prop := Paired fun (p : κ × V) (q : κ × Value) => p.1 = q.1 ∧ RelV p.2 q.2
def kV : Key → V
  | .inl i => .int i
  | .inr x => .str x
inductive HO where
    | lst (xs : List V)
    | tup (xs : List V)
    | dK (kvs : List (Key × V)) | dT (kvs : List (List Key × V))
    | set (S : Int → Bool) (n : Nat)
    | ins (C dx : Addr) (fs : List (Str × V))
    | own (x : Addr)
    | xd (fs : List (Str × V))
    | met (f x : Addr)
    | rng (lo hi : Int)
    | frz (o : Obj) (u : HO)
    | tbl (ps : Array Value)
    | ext (φ : Heap → Prop)
abbrev Hp := Addr → Option HO
def upd (H : Hp) (a : Addr) (o : HO) : Hp := fun b => if b = a then some o else H b
theorem upd_same {H : Hp} {a : Addr} {o : HO} : upd H a o a = some o := by unfold upd; rw [if_pos rfl]
theorem upd_ne {H : Hp} {a b : Addr} {o : HO} (h : b ≠ a) : upd H a o b = H b := by unfold upd; rw [if_neg h]
theorem ne_of_none {H : Hp} {a b : Addr} {o : HO} (h : H a = some o) (h' : H b = none) : a ≠ b := by
  intro e; subst e; rw [h] at h'; cases h'
section
variable (P : Program) (w : World)
def ObjOk (H : Hp) (h : Heap) (a : Addr) : HO → Prop
  | .lst xs => xs.length ≤ sizeLine ∧ ∃ (its : List Value) (n : Nat), Vals xs its ∧ h.get? a = some { cls := .type "list", data := .seq its.toArray n }
  | .tup xs => xs.length ≤ sizeLine ∧ ∃ its : List Value, Vals xs its ∧ IsTup h a its.toArray
  | .dK kvs => kvs.length ≤ sizeLine ∧ (a == sysModules) = false ∧ ∃ vs, KV kvs vs ∧ h.DictOf (mixKind P w) a vs
  | .dT kvs => kvs.length ≤ sizeLine ∧ (a == sysModules) = false ∧ ∃ xs : List (List Key × Addr × Value),
      Paired (fun (p : List Key × V) (q : List Key × Addr × Value) => p.1 = q.1 ∧ H q.2.1 = some (.tup (p.1.map kV)) ∧ RelV p.2 q.2.2) kvs xs ∧
      ∃ o es ep, h.get? a = some o ∧ o.ExactDict ∧ o.data = .dict es ep ∧ es.toList = xs.map (entryOfKey (tupleKind (mixKind P w))) ∧ (xs.map (·.1)).Nodup
  | .set S n => h.SetOf (intKind P w) a S n
  | .ins C dx fs => H dx = some (.own a) ∧ fs.length ≤ 1000 ∧ dx ≠ a ∧ h.get? a = some (PySem.W.instObj C dx) ∧
      ∃ mA, h.Ns1 dx mA ∧ (∀ f, RelO (fs.lookup f) (mA f)) ∧ PySem.Within mA (fs.map (·.1))
  | .own _ => ∃ o, h.get? a = some o
  | .xd fs => ∃ mA, h.Ns1 a mA ∧ ∀ f, RelO (fs.lookup f) (mA f)
  | .rng lo hi => ∃ t u v, h.get? a = some { cls := .type "range", data := .fields #[.int lo t, .int hi u, .int 1 v] }
  | .frz o u => h.get? a = some o ∧ ObjOk H h a u
  | .tbl ps => h.get? a = some { cls := .none, data := .fields ps }
  | .met f x => h.get? a = some (PySem.W.methodObj (.ref f) (.ref x))
  | .ext φ => φ h ∧ (∃ o, h.get? a = some o) ∧ ∀ h1 h2 : Heap, φ h1 → (∀ o, h1.get? a = some o → h2.get? a = some o) → φ h2
def HOk (H : Hp) (h : Heap) : Prop := ∀ a o, H a = some o → ObjOk P w H h a o
end
section
variable {P : Program} {w : World} {H H' : Hp} {h h' : Heap} {a : Addr} {o : HO}
theorem ObjOk.lt (x : ObjOk P w H h a o) : a < h.objs.size := by
  cases o with
  | lst xs => obtain ⟨_, _, _, _, e⟩ := x; exact Heap.lt_size e
  | tup xs => obtain ⟨_, _, _, p⟩ := x; exact p.lt
  | dK kvs => obtain ⟨_, _, _, _, o, _, _, e, _⟩ := x; exact Heap.lt_size e
  | dT kvs => obtain ⟨_, _, _, _, o, _, _, e, _⟩ := x; exact Heap.lt_size e
  | set S n => obtain ⟨o, _, _, _, e, _⟩ := x; exact Heap.lt_size e
  | ins C dx fs => obtain ⟨_, _, _, e, _⟩ := x; exact Heap.lt_size e
  | own y => obtain ⟨_, e⟩ := x; exact Heap.lt_size e
  | xd fs => obtain ⟨_, ⟨_, _, _, e, _⟩, _⟩ := x; exact Heap.lt_size e
  | rng lo hi => obtain ⟨_, _, _, e⟩ := x; exact Heap.lt_size e
  | frz ob u => obtain ⟨e, _⟩ := x; exact Heap.lt_size e
  | tbl ps => exact Heap.lt_size (show h.get? a = some _ from x)
  | met f y => exact Heap.lt_size (show h.get? a = some _ from x)
  | ext φ => obtain ⟨_, ⟨_, e⟩, _⟩ := x; exact Heap.lt_size e
theorem Paired.mapP {α β : Type} {F G : α → β → Prop} : ∀ {l₁ : List α} {l₂ : List β}, Paired F l₁ l₂ → (∀ a b, F a b → G a b) → Paired G l₁ l₂
  | _, _, .nil, _ => .nil
  | _, _, .cons r t, f => .cons (f _ _ r) (Paired.mapP t f)
theorem ObjOk.stay (x : ObjOk P w H h a o) (k : ∀ b u, (b = a ∨ H b = some (.own a)) → h.get? b = some u → h'.get? b = some u)
    (ho : ∀ b, H b = some (.own a) → H' b = some (.own a)) (ht : ∀ b xs, H b = some (.tup xs) → H' b = some (.tup xs)) : ObjOk P w H' h' a o := by
  induction o with
  | lst xs => obtain ⟨z, its, n, r, e⟩ := x; exact ⟨z, its, n, r, k _ _ (.inl rfl) e⟩
  | tup xs => obtain ⟨z, its, r, ob, e, c⟩ := x; exact ⟨z, its, r, ob, k _ _ (.inl rfl) e, c⟩
  | dK kvs => obtain ⟨z, y, vs, r, ob, es, ep, e, c⟩ := x; exact ⟨z, y, vs, r, ob, es, ep, k _ _ (.inl rfl) e, c⟩
  | dT kvs =>
    obtain ⟨z, y, xs, r, ob, es, ep, e, c⟩ := x
    exact ⟨z, y, xs, Paired.mapP r fun p q z => ⟨z.1, ht _ _ z.2.1, z.2.2⟩, ob, es, ep, k _ _ (.inl rfl) e, c⟩
  | set S n => obtain ⟨ob, es, ep, t, e, c⟩ := x; exact ⟨ob, es, ep, t, k _ _ (.inl rfl) e, c⟩
  | ins C dx fs =>
    obtain ⟨d, z, ne, e, mA, ⟨od, es, ep, e2, c⟩, r⟩ := x
    exact ⟨ho _ d, z, ne, k _ _ (.inl rfl) e, mA, ⟨od, es, ep, k _ _ (.inr d) e2, c⟩, r⟩
  | own y => obtain ⟨ob, e⟩ := x; exact ⟨ob, k _ _ (.inl rfl) e⟩
  | xd fs => obtain ⟨mA, ⟨od, es, ep, e, c⟩, r⟩ := x; exact ⟨mA, ⟨od, es, ep, k _ _ (.inl rfl) e, c⟩, r⟩
  | rng lo hi => obtain ⟨t, u, v, e⟩ := x; exact ⟨t, u, v, k _ _ (.inl rfl) e⟩
  | frz ob u ih => obtain ⟨e, q⟩ := x; exact ⟨k _ _ (.inl rfl) e, ih q⟩
  | tbl ps =>
    have e : h.get? a = some { cls := .none, data := .fields ps } := x
    show h'.get? a = some { cls := .none, data := .fields ps }
    exact k a _ (.inl rfl) e
  | met f y =>
    have e : h.get? a = some (PySem.W.methodObj (.ref f) (.ref y)) := x
    show h'.get? a = some (PySem.W.methodObj (.ref f) (.ref y))
    exact k a _ (.inl rfl) e
  | ext φ => obtain ⟨p, ⟨o, e⟩, st⟩ := x; exact ⟨st _ _ p fun o q => k _ _ (.inl rfl) q, ⟨o, k _ _ (.inl rfl) e⟩, st⟩
theorem HOk.lt (x : HOk P w H h) (e : H a = some o) : a < h.objs.size := (x a o e).lt
theorem HOk.fresh (x : HOk P w H h) (e : h.objs.size ≤ a) : H a = none := by
  cases q : H a with
  | none => rfl
  | some u => exact absurd (Nat.lt_of_lt_of_le (x.lt q) e) (Nat.lt_irrefl _)
theorem HOk.kept (x : HOk P w H h) (k : ∀ b u, h.get? b = some u → h'.get? b = some u) : HOk P w H h' := fun a o e =>
  (x a o e).stay (fun b u _ q => k b u q) (fun _ q => q) fun _ _ q => q
theorem HOk.laid (x : HOk P w H h) (k : ∀ b u, h.get? b = some u → h'.get? b = some u) (hp : h.objs.size ≤ a) (new : ObjOk P w (upd H a o) h' a o) : HOk P w (upd H a o) h' := fun b u e => by
  have hn := x.fresh hp
  by_cases hb : b = a
  · subst hb; rw [upd_same] at e; cases e; exact new
  · rw [upd_ne hb] at e
    exact (x b u e).stay (fun c v _ q => k c v q) (fun c q => by rw [upd_ne (ne_of_none q hn)]; exact q) fun c xs q => by rw [upd_ne (ne_of_none q hn)]; exact q
end
def Rd (H : Hp) (a : Addr) (u : HO) : Prop := H a = some u ∨ ∃ o, H a = some (.frz o u)
theorem Rd.of {H : Hp} {a : Addr} {u : HO} (h : H a = some u) : Rd H a u := .inl h
theorem Rd.ok {P : Program} {w : World} {H : Hp} {h : Heap} {a : Addr} {u : HO} (r : Rd H a u) (x : HOk P w H h) : ObjOk P w H h a u := by
  rcases r with r | ⟨o, r⟩
  · exact x a u r
  · obtain ⟨_, q⟩ := x a _ r
    exact q
def Mut : Option HO → Prop
  | some (.lst _) => True
  | some (.dK _) => True
  | some (.dT _) => True
  | some (.set _ _) => True
  | some (.ins _ _ _) => True
  | some (.ext _) => True
  | _ => False
section
variable {P : Program} {w : World} {H : Hp} {h h' : Heap} {x e : Addr} {o' : HO}
theorem HOk.write (ok : HOk P w H h) (mu : Mut (H x)) (he : e = x ∨ H e = some (.own x)) (k : ∀ b u, b ≠ e → h.get? b = some u → h'.get? b = some u) (heo : ∃ u, h'.get? e = some u)
    (new : ObjOk P w (upd H x o') h' x o') : HOk P w (upd H x o') h' := fun b u q => by
  have nown : ∀ c y, H c = some (.own y) → c ≠ x := fun c y r z => by subst z; rw [r] at mu; exact mu
  have ntup : ∀ c xs, H c = some (.tup xs) → c ≠ x := fun c xs r z => by subst z; rw [r] at mu; exact mu
  by_cases hb : b = x
  · subst hb; rw [upd_same] at q; cases q; exact new
  · rw [upd_ne hb] at q
    by_cases hbe : b = e
    · have q' : H b = some (.own x) := by
        rcases he with z | z
        · exact absurd (hbe.trans z) hb
        · rw [hbe]; exact z
      rw [q] at q'; cases q'
      obtain ⟨v, hv⟩ := heo
      exact ⟨v, by rw [hbe]; exact hv⟩
    · refine (ok b u q).stay (fun c v hc r => k c v ?_ r) (fun c r => by rw [upd_ne (nown c b r)]; exact r) fun c xs r => by rw [upd_ne (ntup c xs r)]; exact r
      rcases hc with rfl | hc
      · exact hbe
      · rintro rfl
        rcases he with z | z
        · exact nown c b hc z
        · rw [hc] at z; cases z; exact hb rfl
end
structure Un (fs ex : List Addr) (H H' : Hp) (h h' : Heap) : Prop where
  keep : ∀ b o, h.get? b = some o → H b = none → b ∉ fs → b ∉ ex → h'.get? b = some o
  slot : ∀ b o, h.get? b = some o → H b = none → b ∈ fs → b ∉ ex → ∃ sl, h'.get? b = some { o with slots := sl }
  free : ∀ b o, h.get? b = some o → H b = none → b ∉ ex → H' b = none
  there : ∀ b o, h.get? b = some o → b ∉ ex → ∃ o', h'.get? b = some o'
  tups : ∀ b xs, H b = some (.tup xs) → H' b = some (.tup xs)
  frzs : ∀ b o u, H b = some (.frz o u) → H' b = some (.frz o u)
  tbls : ∀ b ps, H b = some (.tbl ps) → ∃ more, H' b = some (.tbl (ps ++ more))
section
variable {fs fs' ex ex' : List Addr} {H H1 H2 : Hp} {h h1 h2 h' : Heap} {a x e : Addr} {o : HO}
theorem Un.any (u : Un fs ex H H1 h h1) {b : Addr} {ob : Obj} (q : h.get? b = some ob) (n : H b = none) (hx : b ∉ ex) : ∃ sl, h1.get? b = some { ob with slots := sl } := by
  by_cases hb : b ∈ fs
  · exact u.slot b ob q n hb hx
  · exact ⟨ob.slots, u.keep b ob q n hb hx⟩
theorem Un.trans (a : Un fs ex H H1 h h1) (b : Un fs ex H1 H2 h1 h2) : Un fs ex H H2 h h2 where
  keep := fun c ob q n hc hx => b.keep c ob (a.keep c ob q n hc hx) (a.free c ob q n hx) hc hx
  slot := fun c ob q n hc hx => by
    obtain ⟨sl, e1⟩ := a.slot c ob q n hc hx
    obtain ⟨sl', e2⟩ := b.slot c _ e1 (a.free c ob q n hx) hc hx
    exact ⟨sl', e2⟩
  free := fun c ob q n hx => by
    obtain ⟨o', e1⟩ := a.there c ob q hx
    exact b.free c o' e1 (a.free c ob q n hx) hx
  there := fun c ob q hx => by
    obtain ⟨o', e1⟩ := a.there c ob q hx
    exact b.there c o' e1 hx
  tups := fun c xs q => b.tups c xs (a.tups c xs q)
  frzs := fun c ob xs q => b.frzs c ob xs (a.frzs c ob xs q)
  tbls := fun c ps q => by
    obtain ⟨m1, e1⟩ := a.tbls c ps q
    obtain ⟨m2, e2⟩ := b.tbls c _ e1
    exact ⟨m1 ++ m2, by rw [e2, Array.append_assoc]⟩
theorem Un.kept (k : ∀ b u, h.get? b = some u → h'.get? b = some u) : Un fs ex H H h h' :=
  ⟨fun b ob q _ _ _ => k b ob q, fun b ob q _ _ _ => ⟨ob.slots, k b ob q⟩, fun _ _ _ n _ => n, fun b ob q _ => ⟨ob, k b ob q⟩, fun _ _ q => q, fun _ _ _ q => q, fun _ ps q => ⟨#[], by rw [q]; simp⟩⟩
theorem Un.refl : Un fs ex H H h h := Un.kept fun _ _ q => q
theorem Un.laid (k : ∀ b u, h.get? b = some u → h'.get? b = some u) (hp : h.objs.size ≤ a) (hn : H a = none) : Un fs ex H (upd H a o) h h' where
  keep := fun b u q _ _ _ => k b u q
  slot := fun b u q _ _ _ => ⟨u.slots, k b u q⟩
  free := fun b u q n _ => by rw [upd_ne (Nat.ne_of_lt (Nat.lt_of_lt_of_le (Heap.lt_size q) hp))]; exact n
  there := fun b u q _ => ⟨u, k b u q⟩
  tups := fun b xs q => by rw [upd_ne (ne_of_none q hn)]; exact q
  frzs := fun b u xs q => by rw [upd_ne (ne_of_none q hn)]; exact q
  tbls := fun b ps q => ⟨#[], by rw [upd_ne (ne_of_none q hn), q]; simp⟩
theorem Un.write (mu : Mut (H x)) (he : e = x ∨ H e = some (.own x)) (k : ∀ b u, b ≠ e → h.get? b = some u → h'.get? b = some u) (heo : ∃ u, h'.get? e = some u) : Un fs ex H (upd H x o) h h' := by
  have hx : ∀ b, H b = none → b ≠ x := fun b n z => by subst z; rw [n] at mu; exact mu
  have hb : ∀ b, H b = none → b ≠ e := fun b n z => by
    subst z
    rcases he with r | r
    · exact hx b n r
    · rw [n] at r; cases r
  have hm : ∀ b u, H b = some u → ¬ Mut (some u) → b ≠ x := fun b u q nm z => by subst z; rw [q] at mu; exact nm mu
  refine ⟨fun b u q n _ _ => k b u (hb b n) q, fun b u q n _ _ => ⟨u.slots, k b u (hb b n) q⟩, fun b u q n _ => by rw [upd_ne (hx b n)]; exact n, fun b u q _ => ?_,
    fun b xs q => by rw [upd_ne (hm b _ q fun z => z)]; exact q, fun b u xs q => by rw [upd_ne (hm b _ q fun z => z)]; exact q, fun b ps q => ⟨#[], by rw [upd_ne (hm b _ q fun z => z), q]; simp⟩⟩
  by_cases hbe : b = e
  · subst hbe; exact heo
  · exact ⟨u, k b u hbe q⟩
theorem Un.mono (u : Un fs ex H H1 h h1) (hs : ∀ b ∈ fs, b ∈ fs') (hx : ∀ b ∈ ex, b ∈ ex') : Un fs' ex' H H1 h h1 :=
  ⟨fun b ob q n hb he => u.keep b ob q n (fun z => hb (hs b z)) fun z => he (hx b z), fun _ _ q n _ he => u.any q n fun z => he (hx _ z), fun b ob q n he => u.free b ob q n fun z => he (hx b z), fun b ob q he => u.there b ob q fun z => he (hx b z), u.tups, u.frzs, u.tbls⟩
end
def trk (h : Heap) (H : Hp) : List Addr := (List.range h.objs.size).filter fun a => (H a).isSome
def hidT (h : Heap) (H : Hp) : Heap := PySem.W.hideAll h (trk h H)
theorem hidT_size (h : Heap) (H : Hp) : (hidT h H).objs.size = h.objs.size := PySem.W.hideAll_size _ _
theorem hidT_get {h : Heap} {H : Hp} {b : Addr} {o : Obj} (e : h.get? b = some o) (n : H b = none) : (hidT h H).get? b = some o :=
  PySem.W.hideAll_get _ e fun hm => by
    have q : (H b).isSome = true := (List.mem_filter.mp hm).2
    rw [n] at q; simp at q
theorem of_hidT {h : Heap} {H : Hp} {b : Addr} {o : Obj} (e : (hidT h H).get? b = some o) : h.get? b = some o ∧ H b = none := by
  have e' : h.get? b = some o := PySem.W.of_hideAll (trk h H) e
  refine ⟨e', ?_⟩
  cases q : H b with
  | none => rfl
  | some x =>
    have hm : b ∈ trk h H := List.mem_filter.mpr ⟨List.mem_range.mpr (Heap.lt_size e'), by simp [q]⟩
    have z : (hidT h H).get? b = none := PySem.W.hideAll_none (trk h H) hm
    rw [z] at e; cases e
def allNews (g h : Heap) (L : Addr) : List (Addr × Obj) := (List.range h.objs.size).filterMap fun a => if a = L ∨ (g.get? a).isSome = true then none else (h.get? a).map fun o => (a, o)
def rest (g h : Heap) (L d : Addr) : List (Addr × Obj) := (allNews g h L).filter fun p => decide (p.1 ≠ d)
end L2
namespace L2
open PySem PySem.Spec PyProof.Rows
structure Mod (K : PySem.W.Frag) (mg : Str → Option Value) (base : Heap) : Prop where
  kin : K.In base
  glob : base.Ns mainGlobals mg
  blt : ∃ mb, base.Ns builtinsNs mb ∧ ∀ x : Str, x ≠ "__name__" → mb x = bootBuiltins x
  nolimit : base.NoLimit
structure Cx where
  prog : Program
  w : World
  K : PySem.W.Frag
  mg : Str → Option Value
  base : Heap
  A : Around
  N : List Str
  s₀ : Shared
  H₀ : Hp
  env : Env
  outer : List Env
  stack : List Env
  ex : List Addr
  fn : Str → Bool
  calm : Bool
  pn : List (Addr × Obj)
  xe : Value → Shared → Prop
def frs (l : List Env) : List Addr := l.filterMap (·.frame)
abbrev Cx.fs (X : Cx) : List Addr := frs X.outer
def Vis (sc : Scope) (x : Str) : Prop := sc.names.lookup x = some .local ∨ sc.names.lookup x = some .cell ∨ sc.names.lookup x = some .free
def Loc (sc : Scope) (x : Str) : Prop := sc.names.lookup x = some .local ∨ sc.names.lookup x = some .cell
def Look (env : Env) (h : Heap) (m : Str → Option Value) (x : Str) (u : Value) : Prop :=
  (env.kindOf x = some .local ∧ m x = some u) ∨ ((env.kindOf x = some .cell ∨ env.kindOf x = some .free) ∧ ∃ c, env.cells.lookup x = some c ∧ h.IsCell c (some u))
structure Cx.Ok (X : Cx) : Prop where
  mod : Mod X.K X.mg X.base
  kind : X.env.scope.kind = .function
  glob : X.env.globals = mainGlobals
  blt : X.env.builtins = builtinsNs
  above : X.s₀.heap.objs.size ≤ X.env.locals
  inj : ∀ x y c, X.env.cells.lookup x = some c → X.env.cells.lookup y = some c → x = y
  has : ∀ x, (X.env.kindOf x = some .cell ∨ X.env.kindOf x = some .free) → ∃ c, X.env.cells.lookup x = some c
  cab : ∀ x c, X.fn x = true → X.env.cells.lookup x = some c → X.s₀.heap.objs.size ≤ c
  hd : X.calm = true → X.A.handled = none
  frames : X.A.frames = some X.stack
  stk : X.stack = X.outer ∨ (X.stack = X.env :: X.outer ∧ X.env.frame = some X.env.locals)
  exf : ∀ b ∈ X.ex, b ≠ X.env.locals ∧ ∀ x c, X.env.cells.lookup x = some c → c ≠ b
  bs : ∀ b o, X.base.get? b = some o → X.s₀.heap.get? b = some o ∧ X.H₀ b = none
  bsz : X.base.objs.size ≤ X.s₀.heap.objs.size
  noex : ∀ b o, X.base.get? b = some o → b ∉ X.ex
  exfs : ∀ b ∈ X.ex, b ∉ X.fs
  funs : X.s₀.heap.FunFrames X.base X.outer
  frf : ∀ b ∈ X.fs, X.H₀ b = none
structure Inv (X : Cx) (pins : List (Addr × Obj)) (σ : List (Option V)) (H : Hp) (s : Shared) : Prop where
  ok : X.Ok
  os : s.os = X.s₀.os
  bare : AllBare s.gens
  base : Un X.fs X.ex X.H₀ H X.s₀.heap s.heap
  loc : ∃ m, s.heap.Ns X.env.locals m ∧ ∀ (i : Nat) (x : Str) (v : V), X.N[i]? = some x → σ[i]? = some (some v) → Vis X.env.scope x → ∃ u, RelV v u ∧ Look X.env s.heap m x u
  cell : ∀ x c, X.env.cells.lookup x = some c → ∃ v, s.heap.IsCell c v
  free : H X.env.locals = none
  freeC : ∀ x c, X.env.cells.lookup x = some c → H c = none
  pin : ∀ p ∈ X.pn ++ pins, s.heap.get? p.1 = some p.2 ∧ H p.1 = none ∧ p.1 ≠ X.env.locals ∧ p.1 ∉ X.fs ∧ ∀ v, p.2.data ≠ .cell v
  hok : HOk X.prog X.w H s.heap
  len : σ.length = X.N.length
section
variable {X : Cx} {pins : List (Addr × Obj)} {σ : List (Option V)} {H H' : Hp} {s : Shared} {h' : Heap}
theorem Cx.Ok.nofr (ok : X.Ok) {b : Addr} {o : Obj} (e : X.base.get? b = some o) : b ∉ X.fs := fun hb => by
  have := (ok.funs.mem hb).1
  rw [e] at this; cases this
theorem Inv.bs (I : Inv X pins σ H s) : ∀ b o, X.base.get? b = some o → s.heap.get? b = some o ∧ H b = none := fun b o e =>
  ⟨I.base.keep b o (I.ok.bs b o e).1 (I.ok.bs b o e).2 (I.ok.nofr e) (I.ok.noex b o e), I.base.free b o (I.ok.bs b o e).1 (I.ok.bs b o e).2 (I.ok.noex b o e)⟩
theorem Inv.bk (I : Inv X pins σ H s) : ∀ b o, X.base.get? b = some o → s.heap.get? b = some o := fun b o e => (I.bs b o e).1
theorem Inv.mod (I : Inv X pins σ H s) : Mod X.K X.mg X.base := I.ok.mod
theorem Inv.kIn (I : Inv X pins σ H s) : X.K.In s.heap := I.ok.mod.kin.keeps I.bk
theorem Inv.nolimit (I : Inv X pins σ H s) : s.heap.NoLimit := I.ok.mod.nolimit.keeps I.bk
theorem Inv.fr (I : Inv X pins σ H s) : ∃ m, Fr X.base X.env.locals s.heap m :=
  let ⟨m, hn, _⟩ := I.loc
  ⟨m, hn, I.bk, Nat.le_trans I.ok.bsz I.ok.above⟩
theorem Inv.lt (I : Inv X pins σ H s) : X.env.locals < s.heap.objs.size := let ⟨_, hn, _⟩ := I.loc; hn.lt
theorem Inv.sz (I : Inv X pins σ H s) : X.s₀.heap.objs.size ≤ s.heap.objs.size := Nat.le_trans I.ok.above (Nat.le_of_lt I.lt)
theorem Inv.nofs (I : Inv X pins σ H s) {a : Addr} (h : s.heap.objs.size ≤ a) : a ∉ X.fs := fun hb => by
  obtain ⟨_, o, ho, _⟩ := I.ok.funs.mem hb
  exact absurd (Nat.lt_of_lt_of_le (Heap.lt_size ho) (Nat.le_trans I.sz h)) (Nat.lt_irrefl _)
theorem Inv.cne (I : Inv X pins σ H s) : ∀ x c, X.env.cells.lookup x = some c → c ≠ X.env.locals := fun x c e z => by
  obtain ⟨v, o, ho, hd⟩ := I.cell x c e
  obtain ⟨m, ⟨o', es, ep, ho', hd', _⟩, _⟩ := I.loc
  rw [z, ho'] at ho; cases ho; rw [hd'] at hd; cases hd
theorem Inv.funs (I : Inv X pins σ H s) : s.heap.FunFrames X.base X.outer := by
  have all : ∀ (l : List Env), (∀ b ∈ frs l, b ∈ X.fs) → X.s₀.heap.FunFrames X.base l → s.heap.FunFrames X.base l := by
    intro l
    induction l with
    | nil => intro _ _; trivial
    | cons env r ih =>
      intro hs hl
      obtain ⟨hk, ⟨L, o, hf, hn, ho, hd⟩, hr⟩ := hl
      have hL : L ∈ X.fs := hs L (by unfold frs; rw [List.filterMap_cons, hf]; exact List.mem_cons_self)
      obtain ⟨sl, e⟩ := I.base.slot L o ho (I.ok.frf L hL) hL fun z => I.ok.exfs L z hL
      exact ⟨hk, ⟨L, _, hf, hn, e, hd⟩, ih (fun b hb => hs b (by unfold frs; rw [List.filterMap_cons, hf]; exact List.mem_cons_of_mem _ hb)) hr⟩
  exact all X.outer (fun _ hb => hb) I.ok.funs
theorem Inv.stack (I : Inv X pins σ H s) : s.heap.FunFrames X.base X.stack := by
  rcases I.ok.stk with e | ⟨e, hf⟩
  · rw [e]; exact I.funs
  · rw [e]
    obtain ⟨m, hn, _⟩ := I.loc
    refine .cons (by rw [I.ok.kind]; decide) hf hn ?_ I.funs
    exact Heap.get?_none_of_le (Nat.le_trans I.ok.bsz I.ok.above)
theorem Inv.stkSub (I : Inv X pins σ H s) : ∀ b ∈ frs X.stack, b ∈ X.env.locals :: X.fs := fun b hb => by
  rcases I.ok.stk with e | ⟨e, hf⟩
  · rw [e] at hb; exact List.mem_cons_of_mem _ hb
  · rw [e] at hb
    unfold frs at hb
    rw [List.filterMap_cons, hf] at hb
    exact hb
theorem Inv.stkFree (I : Inv X pins σ H s) : ∀ b ∈ frs X.stack, H b = none := fun b hb => by
  rcases List.mem_cons.mp (I.stkSub b hb) with e | hb
  · rw [e]; exact I.free
  · obtain ⟨_, o, ho, _⟩ := I.ok.funs.mem hb
    exact I.base.free b o ho (I.ok.frf b hb) fun z => I.ok.exfs b z hb
theorem Inv.step {g' : Array GenState} {t' : Nat} {d' : Drawn} {ch : List Addr} (I : Inv X pins σ H s)
    (hch : ∀ b ∈ ch, (b ∈ X.ex ∨ X.s₀.heap.objs.size ≤ b) ∧ b ≠ X.env.locals ∧ (∀ x c, X.env.cells.lookup x = some c → c ≠ b) ∧ ∀ p ∈ X.pn ++ pins, p.1 ≠ b)
    (keep : ∀ b o, b ≠ X.env.locals → b ∉ X.fs → b ∉ ch → s.heap.get? b = some o → H b = none → h'.get? b = some o)
    (slot : ∀ b o, b ≠ X.env.locals → b ∈ X.fs → b ∉ ch → s.heap.get? b = some o → H b = none → ∃ sl, h'.get? b = some { o with slots := sl }) (free : ∀ b o, b ∉ ch → s.heap.get? b = some o → H b = none → H' b = none)
    (there : ∀ b o, b ∉ ch → s.heap.get? b = some o → ∃ o', h'.get? b = some o')
    (tups : ∀ b xs, H b = some (.tup xs) → H' b = some (.tup xs)) (frzs : ∀ b o u, H b = some (.frz o u) → H' b = some (.frz o u)) (tbls : ∀ b ps, H b = some (.tbl ps) → ∃ more, H' b = some (.tbl (ps ++ more)))
    (ns : ∀ m, s.heap.Ns X.env.locals m → h'.Ns X.env.locals m) (hok : HOk X.prog X.w H' h') (hg : AllBare g') :
    Inv X pins σ H' { s with heap := h', gens := g', drawn := d', toks := t' } := by
  have neL : ∀ b o, X.s₀.heap.get? b = some o → b ≠ X.env.locals := fun b o e => Nat.ne_of_lt (Nat.lt_of_lt_of_le (Heap.lt_size e) I.ok.above)
  have neC : ∀ b o, X.s₀.heap.get? b = some o → b ∉ X.ex → b ∉ ch := fun b o e hx hb => by
    rcases (hch b hb).1 with z | z
    · exact hx z
    · exact absurd (Nat.lt_of_lt_of_le (Heap.lt_size e) z) (Nat.lt_irrefl _)
  have cellK : ∀ x c, X.env.cells.lookup x = some c → ∀ v, s.heap.IsCell c v → h'.IsCell c v := fun x c e v ⟨o, ho, hd⟩ => by
    have nch : c ∉ ch := fun z => (hch c z).2.2.1 x c e rfl
    by_cases hc : c ∈ X.fs
    · obtain ⟨sl, q⟩ := slot c o (I.cne x c e) hc nch ho (I.freeC x c e)
      exact ⟨_, q, hd⟩
    · exact ⟨o, keep c o (I.cne x c e) hc nch ho (I.freeC x c e), hd⟩
  refine ⟨I.ok, I.os, hg, ⟨fun b o e n hb hx => ?_, fun b o e n hb hx => ?_, fun b o e n hx => ?_, fun b o e hx => ?_, fun b xs e => tups b xs (I.base.tups b xs e), fun b o xs e => frzs b o xs (I.base.frzs b o xs e), fun b ps e => ?_⟩, ?_, fun x c e => ?_, ?_, fun x c e => ?_, fun p hp => ?_, hok, I.len⟩
  · exact keep b o (neL b o e) hb (neC b o e hx) (I.base.keep b o e n hb hx) (I.base.free b o e n hx)
  · obtain ⟨sl, e1⟩ := I.base.slot b o e n hb hx
    obtain ⟨sl', e2⟩ := slot b _ (neL b o e) hb (neC b o e hx) e1 (I.base.free b o e n hx)
    exact ⟨sl', e2⟩
  · obtain ⟨o', e1⟩ := I.base.there b o e hx
    exact free b o' (neC b o e hx) e1 (I.base.free b o e n hx)
  · obtain ⟨o', e1⟩ := I.base.there b o e hx
    exact there b o' (neC b o e hx) e1
  · obtain ⟨m1, e1⟩ := I.base.tbls b ps e
    obtain ⟨m2, e2⟩ := tbls b _ e1
    exact ⟨m1 ++ m2, by rw [e2, Array.append_assoc]⟩
  · obtain ⟨m, hn, hl⟩ := I.loc
    refine ⟨m, ns m hn, fun i x v e1 e2 e3 => ?_⟩
    obtain ⟨u, r, l⟩ := hl i x v e1 e2 e3
    refine ⟨u, r, ?_⟩
    rcases l with l | ⟨k, c, e, z⟩
    · exact .inl l
    · exact .inr ⟨k, c, e, cellK x c e _ z⟩
  · obtain ⟨v, z⟩ := I.cell x c e
    exact ⟨v, cellK x c e v z⟩
  · obtain ⟨m, ⟨o, _, _, ho, _⟩, _⟩ := I.loc
    exact free _ o (fun z => (hch _ z).2.1 rfl) ho I.free
  · obtain ⟨v, o, ho, hd⟩ := I.cell x c e
    exact free c o (fun z => (hch c z).2.2.1 x c e rfl) ho (I.freeC x c e)
  · obtain ⟨e, n, ne, nf, d⟩ := I.pin p hp
    have nch : p.1 ∉ ch := fun z => (hch p.1 z).2.2.2 p hp rfl
    exact ⟨keep p.1 p.2 ne nf nch e n, free p.1 p.2 nch e n, ne, nf, d⟩
theorem Inv.un {t' : Nat} (I : Inv X pins σ H s) (u : Un X.fs [] H H' s.heap h') (hok : HOk X.prog X.w H' h') : Inv X pins σ H' { s with heap := h', toks := t' } := by
  obtain ⟨m, ⟨o, es, ep, ho, r⟩, _⟩ := id I.loc
  obtain ⟨sl, hL⟩ := u.any ho I.free (by simp)
  exact I.step (g' := s.gens) (d' := s.drawn) (ch := []) (fun _ z => nomatch z) (fun b o _ hb _ e n => u.keep b o e n hb (by simp)) (fun b o _ hb _ e n => u.slot b o e n hb (by simp)) (fun b o _ e n => u.free b o e n (by simp)) (fun b o _ e => u.there b o e (by simp)) u.tups u.frzs u.tbls (fun m' hm => by
    obtain ⟨o', es', ep', ho', r'⟩ := hm
    rw [ho] at ho'; cases ho'
    exact ⟨_, es', ep', hL, r'⟩) hok I.bare
theorem Inv.call {g' : Array GenState} {t' : Nat} {d' : Drawn} {ch : List Addr} (I : Inv X pins σ H s) (u : Un (frs X.stack) ch H H' s.heap h') (hok : HOk X.prog X.w H' h') (hg : AllBare g')
    (hch : ∀ b ∈ ch, (b ∈ X.ex ∨ X.s₀.heap.objs.size ≤ b) ∧ b ≠ X.env.locals ∧ (∀ x c, X.env.cells.lookup x = some c → c ≠ b) ∧ ∀ p ∈ X.pn ++ pins, p.1 ≠ b) :
    Inv X pins σ H' { s with heap := h', gens := g', drawn := d', toks := t' } := by
  obtain ⟨m, ⟨o, es, ep, ho, r⟩, _⟩ := id I.loc
  obtain ⟨sl, hL⟩ := u.any ho I.free fun z => (hch _ z).2.1 rfl
  exact I.step (ch := ch) hch (fun b o hL hb hc e n => u.keep b o e n (fun z => (List.mem_cons.mp (I.stkSub b z)).elim hL hb) hc) (fun b o _ _ hc e n => u.any e n hc) (fun b o hc e n => u.free b o e n hc) (fun b o hc e => u.there b o e hc) u.tups u.frzs u.tbls (fun m' hm => by
    obtain ⟨o', es', ep', ho', r'⟩ := hm
    rw [ho] at ho'; cases ho'
    exact ⟨_, es', ep', hL, r'⟩) hok hg
theorem Inv.turned {t' : Nat} {it : Addr} (I : Inv X pins σ H s) (k : ∀ b o, b ≠ it → s.heap.get? b = some o → h'.get? b = some o) (hn : H it = none) (hL : it ≠ X.env.locals)
    (h1 : it ∈ X.ex ∨ X.s₀.heap.objs.size ≤ it) (h2 : ∀ x c, X.env.cells.lookup x = some c → c ≠ it) (h3 : ∀ p ∈ X.pn ++ pins, p.1 ≠ it) : Inv X pins σ H { s with heap := h', toks := t' } := by
  have nit : ∀ b u, H b = some u → b ≠ it := fun b u e z => by rw [z, hn] at e; cases e
  refine I.step (g' := s.gens) (d' := s.drawn) (ch := [it]) (fun b hb => ?_) (fun b o _ _ hc e _ => k b o (fun z => hc (by simp [z])) e) (fun b o _ _ hc e _ => ⟨o.slots, k b o (fun z => hc (by simp [z])) e⟩) (fun _ _ _ _ n => n)
    (fun b o hc e => ⟨o, k b o (fun z => hc (by simp [z])) e⟩) (fun _ _ e => e) (fun _ _ _ e => e) (fun b ps e => ⟨#[], by rw [e]; simp⟩) (fun m hm => ?_) (fun b u e => ?_) I.bare
  · have e : b = it := by simpa using hb
    subst e
    exact ⟨h1, hL, h2, h3⟩
  · obtain ⟨o, es, ep, ho, r⟩ := hm
    exact ⟨o, es, ep, k _ o (Ne.symm hL) ho, r⟩
  · refine (I.hok b u e).stay (fun c v hc q => k c v ?_ q) (fun _ q => q) fun _ _ q => q
    rcases hc with z | z
    · rw [z]; exact nit b u e
    · exact nit c _ z
theorem Inv.tok (I : Inv X pins σ H s) (t : Nat) : Inv X pins σ H { s with toks := t } := I.un (h' := s.heap) (t' := t) Un.refl I.hok
theorem Inv.kept {t' : Nat} (I : Inv X pins σ H s) (k : ∀ b u, s.heap.get? b = some u → h'.get? b = some u) : Inv X pins σ H { s with heap := h', toks := t' } := I.un (Un.kept k) (I.hok.kept k)
theorem Inv.laid {a : Addr} {o : HO} {t' : Nat} (I : Inv X pins σ H s) (k : ∀ b u, s.heap.get? b = some u → h'.get? b = some u) (hp : s.heap.objs.size ≤ a) (new : ObjOk X.prog X.w (upd H a o) h' a o) :
    Inv X pins σ (upd H a o) { s with heap := h', toks := t' } := I.un (Un.laid k hp (I.hok.fresh hp)) (I.hok.laid k hp new)
theorem Inv.write {x e : Addr} {o : HO} {t' : Nat} (I : Inv X pins σ H s) (mu : Mut (H x)) (he : e = x ∨ H e = some (.own x)) (k : ∀ b u, b ≠ e → s.heap.get? b = some u → h'.get? b = some u) (heo : ∃ u, h'.get? e = some u)
    (new : ObjOk X.prog X.w (upd H x o) h' x o) : Inv X pins σ (upd H x o) { s with heap := h', toks := t' } := I.un (Un.write mu he k heo) (I.hok.write mu he k heo new)
theorem Inv.pins_of {pins' : List (Addr × Obj)} (I : Inv X pins σ H s) (h : ∀ p ∈ pins', s.heap.get? p.1 = some p.2 ∧ H p.1 = none ∧ p.1 ≠ X.env.locals ∧ p.1 ∉ X.fs ∧ ∀ v, p.2.data ≠ .cell v) : Inv X pins' σ H s :=
  ⟨I.ok, I.os, I.bare, I.base, I.loc, I.cell, I.free, I.freeC, fun p hp => (List.mem_append.mp hp).elim (fun z => I.pin p (List.mem_append_left _ z)) (h p), I.hok, I.len⟩
theorem nodup_ix {N : List Str} (hN : N.Nodup) {i j : Nat} {x : Str} (a : N[i]? = some x) (b : N[j]? = some x) : i = j := by
  obtain ⟨h1, e1⟩ := List.getElem?_eq_some_iff.mp a
  obtain ⟨h2, e2⟩ := List.getElem?_eq_some_iff.mp b
  exact (List.getElem_inj hN).mp (e1.trans e2.symm)
theorem store_ok2 {M : Model} {A : Around} {E : Value → Shared → Prop} {i : Nat} {x : Str} {v : V} {u : Value} {Q : Unit → Shared → Prop} (I : Inv X pins σ H s) (hN : X.N.Nodup) (hi : X.N[i]? = some x) (hx : Loc X.env.scope x) (r : RelV v u)
    (h : ∀ s', Inv X pins (σ.set i (some v)) H s' → (∃ a, Heap.SameBut a s.heap s'.heap ∧ (a = X.env.locals ∨ X.env.cells.lookup x = some a)) → Q () s') (hf : X.fn x = true ∨ X.env.scope.names.lookup x = some .local := by first | exact .inl rfl | exact .inr rfl | assumption) : wpAny M A (storeName X.env x u) Q E s := by
  obtain ⟨m, hn, hl⟩ := id I.loc
  have hcls : (X.env.scope.kind == .class || (X.env.scope.kind == .module && X.env.locals != X.env.globals)) = false := by rw [I.ok.kind]; rfl
  have hiσ : i < σ.length := by rw [I.len]; exact (List.getElem?_eq_some_iff.mp hi).1
  have cne := I.cne
  have tracked : ∀ {a : Addr} {h' : Heap}, (∃ o, s.heap.get? a = some o ∧ H a = none) → Heap.SameBut a s.heap h' → HOk X.prog X.w H h' := fun {a h'} ha hs b ob e => by
    obtain ⟨_, _, hfree⟩ := ha
    refine (I.hok b ob e).stay (fun c w' hc q => (hs.2 c ?_).trans q) (fun _ q => q) fun _ _ q => q
    rintro rfl
    rcases hc with rfl | hc
    · rw [hfree] at e; cases e
    · rw [hfree] at hc; cases hc
  rcases hx with hk | hk
  · refine wpAny_storeName_local hk hn (fun h' hn' hs => ?_) hcls
    obtain ⟨oL, _, _, hoL, _⟩ := id hn
    refine h _ ⟨I.ok, I.os, I.bare, ⟨fun b o e n hb hx => ?_, fun b o e n hb hx => ?_, I.base.free, fun b o e hx => ?_, I.base.tups, I.base.frzs, I.base.tbls⟩, ⟨_, hn', fun j y v' e1 e2 e3 => ?_⟩, fun y c e => ?_, I.free, I.freeC, fun p hp => ?_, tracked ⟨oL, hoL, I.free⟩ hs, by simpa using I.len⟩ ⟨_, hs, .inl rfl⟩
    · exact (hs.2 b (Nat.ne_of_lt (Nat.lt_of_lt_of_le (Heap.lt_size e) I.ok.above))).trans (I.base.keep b o e n hb hx)
    · obtain ⟨sl, e1⟩ := I.base.slot b o e n hb hx
      exact ⟨sl, (hs.2 b (Nat.ne_of_lt (Nat.lt_of_lt_of_le (Heap.lt_size e) I.ok.above))).trans e1⟩
    · obtain ⟨o', e1⟩ := I.base.there b o e hx
      exact ⟨o', (hs.2 b (Nat.ne_of_lt (Nat.lt_of_lt_of_le (Heap.lt_size e) I.ok.above))).trans e1⟩
    · by_cases hj : j = i
      · subst hj
        rw [hi] at e1; cases e1
        rw [List.getElem?_set_self hiσ] at e2
        cases e2
        exact ⟨u, r, .inl ⟨hk, by simp⟩⟩
      · rw [List.getElem?_set_ne (Ne.symm hj)] at e2
        obtain ⟨u', r', q⟩ := hl j y v' e1 e2 e3
        refine ⟨u', r', ?_⟩
        rcases q with ⟨k, e⟩ | ⟨k, c, e, z⟩
        · refine .inl ⟨k, ?_⟩
          have : y ≠ x := fun e => hj (nodup_ix hN e1 (e ▸ hi))
          simp [this, e]
        · exact .inr ⟨k, c, e, z.sameBut hs (cne y c e)⟩
    · obtain ⟨w', z⟩ := I.cell y c e
      exact ⟨w', z.sameBut hs (cne y c e)⟩
    · obtain ⟨e, n, ne, nf, d⟩ := I.pin p hp
      exact ⟨(hs.2 p.1 ne).trans e, n, ne, nf, d⟩
  · have hfn : X.fn x = true := by
      rcases hf with z | z
      · exact z
      · rw [z] at hk; cases hk
    obtain ⟨c, hc⟩ := I.ok.has x (.inl hk)
    obtain ⟨w', z⟩ := I.cell x c hc
    refine wpAny_storeName_cell I.ok.kind hk hc z (fun h' hc' hs => ?_)
    obtain ⟨oc, hoc, hocd⟩ := id z
    refine h { s with heap := h' } ⟨I.ok, I.os, I.bare, ⟨fun b o e n hb hx => ?_, fun b o e n hb hx => ?_, I.base.free, fun b o e hx => ?_, I.base.tups, I.base.frzs, I.base.tbls⟩, ⟨m, hn.sameBut hs (Ne.symm (cne x c hc)), fun j y v' e1 e2 e3 => ?_⟩, fun y c' e => ?_, I.free, I.freeC, fun p hp => ?_, tracked ⟨oc, hoc, I.freeC x c hc⟩ hs, by simpa using I.len⟩ ⟨c, hs, .inr hc⟩
    · exact (hs.2 b (Nat.ne_of_lt (Nat.lt_of_lt_of_le (Heap.lt_size e) (I.ok.cab x c hfn hc)))).trans (I.base.keep b o e n hb hx)
    · obtain ⟨sl, e1⟩ := I.base.slot b o e n hb hx
      exact ⟨sl, (hs.2 b (Nat.ne_of_lt (Nat.lt_of_lt_of_le (Heap.lt_size e) (I.ok.cab x c hfn hc)))).trans e1⟩
    · obtain ⟨o', e1⟩ := I.base.there b o e hx
      exact ⟨o', (hs.2 b (Nat.ne_of_lt (Nat.lt_of_lt_of_le (Heap.lt_size e) (I.ok.cab x c hfn hc)))).trans e1⟩
    · by_cases hj : j = i
      · subst hj
        rw [hi] at e1; cases e1
        rw [List.getElem?_set_self hiσ] at e2
        cases e2
        exact ⟨u, r, .inr ⟨.inl hk, c, hc, hc'⟩⟩
      · rw [List.getElem?_set_ne (Ne.symm hj)] at e2
        obtain ⟨u', r', q⟩ := hl j y v' e1 e2 e3
        refine ⟨u', r', ?_⟩
        rcases q with q | ⟨k, c', e, z'⟩
        · exact .inl q
        · refine .inr ⟨k, c', e, z'.sameBut hs ?_⟩
          rintro rfl
          exact hj (nodup_ix hN e1 (I.ok.inj _ _ _ e hc ▸ hi))
    · by_cases hcc : c' = c
      · subst hcc; exact ⟨_, hc'⟩
      · obtain ⟨w2, z2⟩ := I.cell y c' e
        exact ⟨w2, z2.sameBut hs hcc⟩
    · obtain ⟨e, n, ne, nf, d⟩ := I.pin p hp
      refine ⟨(hs.2 p.1 ?_).trans e, n, ne, nf, d⟩
      intro q
      rw [q, hoc] at e
      have q' : oc = p.2 := Option.some.inj e
      exact d w' (by rw [← q']; exact hocd)
theorem store_ok {M : Model} {A : Around} {E : Value → Shared → Prop} {i : Nat} {x : Str} {v : V} {u : Value} {Q : Unit → Shared → Prop} (I : Inv X pins σ H s) (hN : X.N.Nodup) (hi : X.N[i]? = some x) (hx : Loc X.env.scope x) (r : RelV v u)
    (h : ∀ s', Inv X pins (σ.set i (some v)) H s' → Q () s') (hf : X.fn x = true ∨ X.env.scope.names.lookup x = some .local := by first | exact .inl rfl | exact .inr rfl | assumption) : wpAny M A (storeName X.env x u) Q E s :=
  store_ok2 I hN hi hx r (fun s' I' _ => h s' I') hf
theorem Inv.call' {s' : Shared} {ch : List Addr} (I : Inv X pins σ H s) (ho : s'.os = s.os) (u : Un (frs X.stack) ch H H' s.heap s'.heap) (hok : HOk X.prog X.w H' s'.heap) (hg : AllBare s'.gens)
    (hch : ∀ b ∈ ch, (b ∈ X.ex ∨ X.s₀.heap.objs.size ≤ b) ∧ b ≠ X.env.locals ∧ (∀ x c, X.env.cells.lookup x = some c → c ≠ b) ∧ ∀ p ∈ X.pn ++ pins, p.1 ≠ b) : Inv X pins σ H' s' := by
  obtain ⟨h', g', d', t', o'⟩ := s'
  have e : o' = s.os := ho
  subst e
  exact I.call (g' := g') (t' := t') (d' := d') u hok hg hch
end
abbrev XK := Value → Option Addr → Hp → Prop
abbrev St := List (Option V)
abbrev VK := V → Hp → Prop
abbrev TE := St → Hp → VK → Prop
abbrev TT := St → Hp → (Bool → Hp → Prop) → Prop
abbrev TA := St → Hp → (List V → Hp → Prop) → Prop
structure Ends where
  nx : St → Hp → Prop
  rt : VK
  bk : St → Hp → Prop := fun _ _ => False
  ct : St → Hp → Prop := fun _ _ => False
abbrev TS := Ends → St → Hp → Prop
def EP (X : Cx) (pins : List (Addr × Obj)) (σ : St) (Q : VK) (u : Value) (s' : Shared) : Prop := ∃ v H', Inv X pins σ H' s' ∧ RelV v u ∧ Q v H'
def TP (X : Cx) (pins : List (Addr × Obj)) (σ : St) (Q : Bool → Hp → Prop) (b : Bool) (s' : Shared) : Prop := ∃ H', Inv X pins σ H' s' ∧ Q b H'
def AP (X : Cx) (pins : List (Addr × Obj)) (σ : St) (Q : List V → Hp → Prop) (us : List Value) (s' : Shared) : Prop := ∃ vs H', Inv X pins σ H' s' ∧ Vals vs us ∧ Q vs H'
def SP (X : Cx) (pins : List (Addr × Obj)) (D : Ends) (f : Flow) (s' : Shared) : Prop :=
  match f with
  | .next => ∃ σ' H', Inv X pins σ' H' s' ∧ D.nx σ' H'
  | .brk => ∃ σ' H', Inv X pins σ' H' s' ∧ D.bk σ' H'
  | .cont => ∃ σ' H', Inv X pins σ' H' s' ∧ D.ct σ' H'
  | .ret u => ∃ v σ' H', Inv X pins σ' H' s' ∧ RelV v u ∧ D.rt v H'
def PE (X : Cx) (e : Expr) (t : TE) : Prop :=
  ∀ (pins : List (Addr × Obj)) (s : Shared) (σ : St) (H : Hp) (Q : VK), Inv X pins σ H s → t σ H Q → wpAny (model X.prog X.w) X.A (eval e X.env) (EP X pins σ Q) X.xe s
def PT (X : Cx) (e : Expr) (t : TT) : Prop :=
  ∀ (pins : List (Addr × Obj)) (s : Shared) (σ : St) (H : Hp) (Q : Bool → Hp → Prop), Inv X pins σ H s → t σ H Q → wpAny (model X.prog X.w) X.A (isTrue e X.env (eval e X.env)) (TP X pins σ Q) X.xe s
def PW (X : Cx) (e : Expr) (t : TT) : Prop :=
  ∀ (whole : Sem Value) (pins : List (Addr × Obj)) (s : Shared) (σ : St) (H : Hp) (Q : Bool → Hp → Prop), Inv X pins σ H s → t σ H Q → wpAny (model X.prog X.w) X.A (isTrue e X.env whole) (TP X pins σ Q) X.xe s
theorem PW.pt {X : Cx} {e : Expr} {t : TT} (h : PW X e t) : PT X e t := h _
def PA (X : Cx) (es : List Expr) (t : TA) : Prop :=
  ∀ (pos : Pos) (pins : List (Addr × Obj)) (s : Shared) (σ : St) (H : Hp) (Q : List V → Hp → Prop), Inv X pins σ H s → t σ H Q → wpAny (model X.prog X.w) X.A (spliced (backTo pos (starEach es X.env))) (AP X pins σ Q) X.xe s
def PS (X : Cx) (st : Stmt) (t : TS) : Prop :=
  ∀ (pins : List (Addr × Obj)) (s : Shared) (σ : St) (H : Hp) (D : Ends), Inv X pins σ H s → t D σ H → wpAny (model X.prog X.w) X.A (exec st X.env) (SP X pins D) X.xe s
def PSs (X : Cx) (st : List Stmt) (t : TS) : Prop :=
  ∀ (pins : List (Addr × Obj)) (s : Shared) (σ : St) (H : Hp) (D : Ends), Inv X pins σ H s → t D σ H → wpAny (model X.prog X.w) X.A (execs st X.env) (SP X pins D) X.xe s
theorem thn {α : Type} {t : Sem α} {Q Q' : α → Shared → Prop} {M : Model} {A : Around} {E : Value → Shared → Prop} {s : Shared} (h : wpAny M A t Q E s) (hQ : ∀ a s, Q a s → Q' a s) : wpAny M A t Q' E s := wpAny_mono h hQ fun _ _ x => x
end L2
namespace L2
open PySem PySem.Spec PyProof.Rows
section
variable {X : Cx}
def tVar (i : Nat) : TE := fun σ H Q => ∃ v, σ[i]? = some (some v) ∧ Q v H
def tC (v : V) : TE := fun _ H Q => Q v H
theorem pe_var {i : Nat} {x : Str} {pos : Pos} (hN : X.N[i]? = some x) (hv : Vis X.env.scope x) (hd : (x == ("__debug__" : Str)) = false := by decide) (hcd : (x == ("__classdict__" : Str)) = false := by decide) : PE X (.Name x pos) (tVar i) := by
  intro pins s σ H Q I h
  obtain ⟨v, e, h⟩ := h
  obtain ⟨m, hn, hl⟩ := I.loc
  obtain ⟨u, r, l⟩ := hl i x v hN e hv
  have fin : EP X pins σ Q u s := ⟨v, H, I, r, h⟩
  rcases l with ⟨hk, hm⟩ | ⟨hk, c, hc, hcell⟩
  · exact wpAny_Name (wpAny_loadName_local I.ok.kind hk hn hm fin) hd
  · rcases hk with hk | hk
    · exact wpAny_Name (wpAny_loadName_cell I.ok.kind hk hc hcell fin) hd
    · exact wpAny_Name (wpAny_loadName_free I.ok.kind hk hc hcell fin hcd) hd
theorem pe_int {i j pos} : PE X (.Constant (.int i) j pos) (tC (.int i)) := fun _ _ _ H _ I h => wpAny_Constant_int ⟨.int i, H, I.tok _, ⟨_, rfl⟩, h⟩
theorem pe_bl {b j pos} : PE X (.Constant (.bool b) j pos) (tC (.bl b)) := fun _ _ _ H _ I h => Constant_bool ⟨.bl b, H, I, rfl, h⟩
theorem pe_non {j pos} : PE X (.Constant .none j pos) (tC .non) := fun _ _ _ H _ I h => Constant_none ⟨.non, H, I, rfl, h⟩
theorem pe_str {x j pos} : PE X (.Constant (.str x) j pos) (tC (.str x)) := fun _ _ _ H _ I h => Calls.Constant_str ⟨.str x, H, I.tok _, ⟨_, rfl⟩, h⟩
def Gl (X : Cx) (x : Str) : Prop := X.env.kindOf x = some .globalImplicit
theorem ld_glob {E : Value → Shared → Prop} {pins : List (Addr × Obj)} {s : Shared} {σ : St} {H : Hp} {x : Str} {u : Value} {pos : Pos} {Q : Value → Shared → Prop} (I : Inv X pins σ H s) (hg : Gl X x) (hm : X.mg x = some u) (h : Q u s)
    (hd : (x == ("__debug__" : Str)) = false := by decide) : wpAny (model X.prog X.w) X.A (eval (.Name x pos) X.env) Q E s :=
  Calls.Name_function_global I.ok.kind hg (Calls.loadGlobal_global (by rw [I.ok.glob]; exact I.mod.glob.keeps I.bk) hm h) hd
theorem ld_blt {E : Value → Shared → Prop} {pins : List (Addr × Obj)} {s : Shared} {σ : St} {H : Hp} {x : Str} {u : Value} {pos : Pos} {Q : Value → Shared → Prop} (I : Inv X pins σ H s) (hg : Gl X x) (hm : X.mg x = none) (hv : bootBuiltins x = some u) (h : Q u s)
    (hn : x ≠ "__name__" := by decide) (hd : (x == ("__debug__" : Str)) = false := by decide) : wpAny (model X.prog X.w) X.A (eval (.Name x pos) X.env) Q E s := by
  obtain ⟨mb, h1, h2⟩ := I.mod.blt
  exact Calls.Name_function_global I.ok.kind hg (Calls.loadGlobal_builtin (by rw [I.ok.glob]; exact I.mod.glob.keeps I.bk) hm (by rw [I.ok.blt]; exact h1.keeps I.bk) ((h2 x hn).trans hv) h) hd
theorem pe_glob {x : Str} {v : V} {u : Value} {pos : Pos} (hg : Gl X x) (hm : X.mg x = some u) (r : RelV v u) (hd : (x == ("__debug__" : Str)) = false := by decide) : PE X (.Name x pos) (tC v) :=
  fun _ _ _ H _ I h => ld_glob I hg hm ⟨v, H, I, r, h⟩ hd
variable {a b : Expr} {ta tb : TE} {pos : Pos}
def tB (t : TE) : TT := fun σ H Q => t σ H fun x H1 => ∃ c, x = .bl c ∧ Q c H1
variable {tA tB' : TT} {rest : List Expr}
def tAnd (t u : TT) : TT := fun σ H Q => t σ H fun c H1 => if c = true then u σ H1 Q else Q false H1
def tOr (t u : TT) : TT := fun σ H Q => t σ H fun c H1 => if c = true then Q true H1 else u σ H1 Q
def tNot (t : TT) : TT := fun σ H Q => t σ H fun c H1 => Q (!c) H1
theorem pw_or1 (ha : PT X a tA) : PW X (.BoolOp .Or [a] pos) tA := by
  intro wh pins s σ H Q I h
  refine isTrue_or (thn (ha pins s σ H Q I h) fun c s1 e => ?_)
  cases c with
  | false => exact isTrue_or_nil e
  | true => exact e
theorem pw_or (ha : PT X a tA) (hb : PW X (.BoolOp .Or (b :: rest) pos) tB') : PW X (.BoolOp .Or (a :: b :: rest) pos) (tOr tA tB') := by
  intro wh pins s σ H Q I h
  refine isTrue_or (thn (ha pins s σ H _ I h) fun c s1 ⟨H1, I1, q1⟩ => ?_)
  cases c with
  | true => exact ⟨H1, I1, q1⟩
  | false => exact hb wh pins s1 σ H1 Q I1 q1
theorem pt_not (ha : PT X a tA) : PT X (.UnaryOp .Not a pos) (tNot tA) := by
  intro pins s σ H Q I h
  exact isTrue_not (ha pins s σ H (fun c H1 => Q (!c) H1) I h)
def tAndV (ta tb : TE) : TE := fun σ H Q => ta σ H fun x H1 => ∃ c, x = .bl c ∧ if c = true then tb σ H1 Q else Q (.bl false) H1
def tOrV (ta tb : TE) : TE := fun σ H Q => ta σ H fun x H1 => ∃ c, x = .bl c ∧ if c = true then Q (.bl true) H1 else tb σ H1 Q
def tNotV (ta : TE) : TE := fun σ H Q => ta σ H fun x H1 => ∃ c, x = .bl c ∧ Q (.bl (!c)) H1
theorem pe_one {op} {t : TE} (h : PE X a t) : PE X (.BoolOp op [a] pos) t := fun pins s σ H Q I hw => BoolOp_one (h pins s σ H Q I hw)
theorem pe_and (ha : PE X a ta) (hb : PE X (.BoolOp .And (b :: rest) pos) tb) : PE X (.BoolOp .And (a :: b :: rest) pos) (tAndV ta tb) := by
  intro pins s σ H Q I h
  refine BoolOp_and (thn (ha pins s σ H _ I h) fun v s1 ⟨x, H1, I1, r1, q1⟩ => ?_)
  obtain ⟨c, rfl, q1⟩ := q1
  cases r1
  refine wpAny_truthy_bool ?_
  cases c with
  | true => exact hb pins s1 σ H1 Q I1 q1
  | false => exact ⟨.bl false, H1, I1, rfl, q1⟩
def tIf (t : TT) (ta tb : TE) : TE := fun σ H Q => t σ H fun c H1 => if c = true then ta σ H1 Q else tb σ H1 Q
end
end L2
namespace L2
open PySem PySem.Spec PyProof.Rows
def SqL (K : PySem.W.Frag) (H : Hp) (a : Addr) (xs : List V) : Prop :=
  Rd H a (.lst xs) ∨
    ∃ (o : Obj) (its : Array Value) (n : Nat), K.lookup a = some o ∧ o.cls = .type "list" ∧ o.dict = none ∧ o.data = .seq its n ∧ its.size ≤ sizeLine ∧ Vals xs its.toList
def SqT (K : PySem.W.Frag) (H : Hp) (a : Addr) (xs : List V) : Prop :=
  Rd H a (.tup xs) ∨
    ∃ (o : Obj) (its : Array Value) (n : Nat), K.lookup a = some o ∧ o.cls = .type "tuple" ∧ o.data = .seq its n ∧ its.size ≤ sizeLine ∧ Vals xs its.toList
def absV : Value → Option V
  | .none => some .non
  | .bool b => some (.bl b)
  | .int i _ => some (.int i)
  | .str x _ => some (.str x)
  | .bytes b _ => some (.byt b)
  | .float b _ => some (.flt b)
  | .ref a => some (.ref a)
  | .type n => some (.ty n)
  | _ => none
theorem RelV.abs {x : V} {u : Value} (r : RelV x u) : absV u = some x := by
  cases x with
  | non => cases r; rfl
  | bl _ => cases r; rfl
  | int _ => obtain ⟨t, rfl⟩ := r; rfl
  | str _ => obtain ⟨t, rfl⟩ := r; rfl
  | byt _ => obtain ⟨t, rfl⟩ := r; rfl
  | flt _ => obtain ⟨t, rfl⟩ := r; rfl
  | ref _ => cases r; rfl
  | ty _ => cases r; rfl
theorem RelV.inj {x y : V} {u : Value} (r : RelV x u) (q : RelV y u) : x = y := Option.some.inj (r.abs.symm.trans q.abs)
theorem Vals.inj : ∀ {xs ys : List V} {us : List Value}, Vals xs us → Vals ys us → xs = ys
  | _, _, _, .nil, .nil => rfl
  | _, _, _, .cons r t, .cons r' t' => by rw [r.inj r', Vals.inj t t']
section
variable {X : Cx} {pins : List (Addr × Obj)} {σ : St} {H : Hp} {s : Shared} {a : Addr} {xs ys : List V}
theorem SqL.of {K : PySem.W.Frag} (h : H a = some (.lst xs)) : SqL K H a xs := .inl (.inl h)
theorem SqT.of {K : PySem.W.Frag} (h : H a = some (.tup xs)) : SqT K H a xs := .inl (.inl h)
theorem Inv.list (I : Inv X pins σ H s) (h : SqL X.K H a xs) : ∃ its : List Value, Vals xs its ∧ PlainL s.heap a its.toArray ∧ xs.length ≤ sizeLine := by
  rcases h with h | ⟨o, its, n, hk, hc, hd, hs, hz, r⟩
  · obtain ⟨z, its, n, r, e⟩ := h.ok I.hok
    exact ⟨its, r, ⟨_, n, e, rfl, rfl, rfl⟩, z⟩
  · refine ⟨its.toList, r, ⟨o, n, I.kIn a o hk, hc, hd, by simpa using hs⟩, ?_⟩
    have e := r.length
    simp only [Array.length_toList] at e
    omega
theorem Inv.tuple (I : Inv X pins σ H s) (h : SqT X.K H a xs) : ∃ its : List Value, Vals xs its ∧ IsTup s.heap a its.toArray ∧ xs.length ≤ sizeLine := by
  rcases h with h | ⟨o, its, n, hk, hc, hs, hz, r⟩
  · obtain ⟨z, its, r, p⟩ := h.ok I.hok
    exact ⟨its, r, p, z⟩
  · refine ⟨its.toList, r, ⟨o, I.kIn a o hk, hc, n, by simpa using hs⟩, ?_⟩
    have e := r.length
    simp only [Array.length_toList] at e
    omega
theorem Inv.list_inj (I : Inv X pins σ H s) (h : SqL X.K H a xs) (h' : SqL X.K H a ys) : xs = ys := by
  obtain ⟨its, r, ⟨o, n, e, _, _, d⟩, _⟩ := I.list h
  obtain ⟨its', r', ⟨o', n', e', _, _, d'⟩, _⟩ := I.list h'
  rw [e] at e'; cases e'
  rw [d] at d'
  injection d' with d1 _
  have : its = its' := by simpa using congrArg Array.toList d1
  subst this
  exact r.inj r'
end
abbrev Cx.wish (X : Cx) (E : Value → Shared → Prop) : Cx := { X with xe := E }
abbrev Cx.nox (X : Cx) : Cx := X.wish fun _ _ => False
theorem Cx.Ok.wish {X : Cx} (ok : X.Ok) (E : Value → Shared → Prop) : (X.wish E).Ok :=
  ⟨ok.mod, ok.kind, ok.glob, ok.blt, ok.above, ok.inj, ok.has, ok.cab, ok.hd, ok.frames, ok.stk, ok.exf, ok.bs, ok.bsz, ok.noex, ok.exfs, ok.funs, ok.frf⟩
theorem Cx.Ok.unwish {X : Cx} {E : Value → Shared → Prop} (ok : (X.wish E).Ok) : X.Ok :=
  ⟨ok.mod, ok.kind, ok.glob, ok.blt, ok.above, ok.inj, ok.has, ok.cab, ok.hd, ok.frames, ok.stk, ok.exf, ok.bs, ok.bsz, ok.noex, ok.exfs, ok.funs, ok.frf⟩
section
variable {X : Cx} {pins : List (Addr × Obj)} {σ : St} {H : Hp} {s : Shared} {E : Value → Shared → Prop}
theorem Inv.wish (I : Inv X pins σ H s) (E : Value → Shared → Prop) : Inv (X.wish E) pins σ H s := ⟨I.ok.wish E, I.os, I.bare, I.base, I.loc, I.cell, I.free, I.freeC, I.pin, I.hok, I.len⟩
theorem Inv.unwish (I : Inv (X.wish E) pins σ H s) : Inv X pins σ H s := ⟨I.ok.unwish, I.os, I.bare, I.base, I.loc, I.cell, I.free, I.freeC, I.pin, I.hok, I.len⟩
theorem SP.unwish {D : Ends} {f : Flow} {s' : Shared} (h : SP (X.wish E) pins D f s') : SP X pins D f s' := by
  cases f with
  | next => obtain ⟨σ', H', I, q⟩ := h; exact ⟨σ', H', I.unwish, q⟩
  | brk => obtain ⟨σ', H', I, q⟩ := h; exact ⟨σ', H', I.unwish, q⟩
  | cont => obtain ⟨σ', H', I, q⟩ := h; exact ⟨σ', H', I.unwish, q⟩
  | ret u => obtain ⟨v, σ', H', I, r, q⟩ := h; exact ⟨v, σ', H', I.unwish, r, q⟩
theorem PE.nox {e : Expr} {t : TE} (h : PE X.nox e t) : PE X e t := fun pins s σ H Q I hw =>
  wpAny_mono (h pins s σ H Q (I.wish _) hw) (fun _ _ ⟨v, H', I', r, q⟩ => ⟨v, H', I'.unwish, r, q⟩) fun _ _ z => False.elim z
theorem PT.nox {e : Expr} {t : TT} (h : PT X.nox e t) : PT X e t := fun pins s σ H Q I hw =>
  wpAny_mono (h pins s σ H Q (I.wish _) hw) (fun _ _ ⟨H', I', q⟩ => ⟨H', I'.unwish, q⟩) fun _ _ z => False.elim z
theorem PSs.nox {st : List Stmt} {t : TS} (h : PSs X.nox st t) : PSs X st t := fun pins s σ H D I hw =>
  wpAny_mono (h pins s σ H D (I.wish _) hw) (fun _ _ q => q.unwish) fun _ _ z => False.elim z
end
section
variable {X : Cx} {st : Stmt} {rest : List Stmt} {t u : TS} {e : Expr} {te : TE} {pos : Pos}
def tNext : TS := fun D σ H => D.nx σ H
def tSeq (t u : TS) : TS := fun D σ H => t { D with nx := u D } σ H
theorem pss_nil : PSs X [] tNext := fun _ _ σ H _ I h => wpAny_execs_nil ⟨σ, H, I, h⟩
theorem pss_cons (h1 : PS X st t) (h2 : PSs X rest u) : PSs X (st :: rest) (tSeq t u) := by
  intro pins s σ H D I h
  refine wpAny_execs_cons (thn (h1 pins s σ H { D with nx := u D } I h) fun f s1 q => ?_)
  cases f with
  | next =>
    obtain ⟨σ', H', I', q⟩ := q
    exact h2 pins s1 σ' H' D I' q
  | ret v => exact q
  | brk => exact q
  | cont => exact q
theorem pss_one (h1 : PS X st t) : PSs X [st] t := by
  intro pins s σ H D I h
  refine wpAny_execs_cons (thn (h1 pins s σ H D I h) fun f s1 q => ?_)
  cases f with
  | next => exact wpAny_execs_nil q
  | ret v => exact q
  | brk => exact q
  | cont => exact q
theorem Inv.quiet {pins : List (Addr × Obj)} {σ : St} {H : Hp} {s : Shared} (I : Inv X pins σ H s) : interactive X.env = false := by simp [interactive, I.ok.kind]
def tDrop (te : TE) : TS := fun D σ H => te σ H fun _ H1 => D.nx σ H1
theorem ps_expr (he : PE X e te) (hs : swapsWith e none pos.line X.env = pure false := by rfl) : PS X (.Expr e pos) (tDrop te) := by
  intro pins s σ H D I h
  exact wpAny_Expr_any (thn (he pins s σ H _ I h) fun v s1 ⟨x, H1, I1, r1, q1⟩ => ⟨σ, H1, I1, q1⟩) I.quiet hs
def tRet (te : TE) : TS := fun D σ H => te σ H D.rt
theorem ps_ret (he : PE X e te) : PS X (.Return (some e) pos) (tRet te) := by
  intro pins s σ H D I h
  exact wpAny_Return_some (thn (he pins s σ H _ I h) fun v s1 ⟨x, H1, I1, r1, q1⟩ => ⟨x, σ, H1, I1, r1, q1⟩)
def tIfS (c : TT) (t u : TS) : TS := fun D σ H => c σ H fun b H1 => if b = true then t D σ H1 else u D σ H1
theorem ps_if {c : Expr} {a b : List Stmt} {tc : TT} (hc : PT X c tc) (ha : PSs X a t) (hb : PSs X b u) : PS X (.If c a b pos) (tIfS tc t u) := by
  intro pins s σ H D I h
  refine wpAny_If (thn (hc pins s σ H _ I h) fun d s1 ⟨H1, I1, q1⟩ => ?_)
  cases d with
  | true => exact ha pins s1 σ H1 D I1 q1
  | false => exact hb pins s1 σ H1 D I1 q1
def tNever : TS := fun _ _ _ => False
theorem pss_never {sts : List Stmt} : PSs X sts tNever := fun _ _ _ _ _ _ h => h.elim
end
abbrev TG := V → St → Hp → (St → Hp → Prop) → Prop
abbrev TGs := List V → St → Hp → (St → Hp → Prop) → Prop
def PG (X : Cx) (target : Expr) (t : TG) : Prop :=
  ∀ (pins : List (Addr × Obj)) (s : Shared) (σ : St) (H : Hp) (v : V) (u : Value) (Q : St → Hp → Prop), Inv X pins σ H s → RelV v u → t v σ H Q →
    wpAny (model X.prog X.w) X.A (assign target X.env u) (fun _ s' => ∃ σ' H', Inv X pins σ' H' s' ∧ Q σ' H') X.xe s
def PGs (X : Cx) (ts : List Expr) (t : TGs) : Prop :=
  ∀ (pins : List (Addr × Obj)) (s : Shared) (σ : St) (H : Hp) (vs : List V) (us : List Value) (Q : St → Hp → Prop), Inv X pins σ H s → Vals vs us → t vs σ H Q →
    wpAny (model X.prog X.w) X.A (assignInOrder ((assignEach ts X.env).map (·.2)) us) (fun _ s' => ∃ σ' H', Inv X pins σ' H' s' ∧ Q σ' H') X.xe s
abbrev TSet := V → V → V → Hp → (Hp → Prop) → Prop
def PSet (X : Cx) (t : TSet) : Prop :=
  ∀ (pins : List (Addr × Obj)) (s : Shared) (σ : St) (H : Hp) (o i v : V) (ov iv u : Value) (Q : Hp → Prop), Inv X pins σ H s → RelV o ov → RelV i iv → RelV v u → t o i v H Q →
    wpAny (model X.prog X.w) X.A (setItem ov iv u) (fun _ s' => ∃ H', Inv X pins σ H' s' ∧ Q H') X.xe s
section
variable {X : Cx} {pos : Pos}
def gName (i : Nat) : TG := fun v σ H Q => Q (σ.set i (some v)) H
theorem pg_name {i : Nat} {x : Str} (hN : X.N.Nodup) (hi : X.N[i]? = some x) (hx : Loc X.env.scope x) (hf : X.fn x = true ∨ X.env.scope.names.lookup x = some .local := by first | exact .inl rfl | exact .inr rfl | assumption) : PG X (.Name x pos) (gName i) := by
  intro pins s σ H v u Q I r h
  exact wpAny_assign_Name (store_ok I hN hi hx r (fun s' I' => ⟨_, H, I', h⟩) hf)
def gNil : TGs := fun vs σ H Q => vs = [] ∧ Q σ H
def gCons (t : TG) (u : TGs) : TGs := fun vs σ H Q => ∃ v r, vs = v :: r ∧ t v σ H fun σ' H' => u r σ' H' Q
theorem pgs_nil : PGs X [] gNil := by
  intro pins s σ H vs us Q I r h
  obtain ⟨e, h⟩ := h
  subst e
  cases r
  exact assignInOrder_nil ⟨σ, H, I, h⟩
theorem pgs_cons {e : Expr} {es : List Expr} {t : TG} {u : TGs} (h1 : PG X e t) (h2 : PGs X es u)
    (hs : (assignEach (e :: es) X.env).map (·.2) = assign e X.env :: (assignEach es X.env).map (·.2) := by rfl) : PGs X (e :: es) (gCons t u) := by
  intro pins s σ H vs us Q I r h
  obtain ⟨v, vr, e1, h⟩ := h
  subst e1
  cases r with
  | cons r rr =>
    rw [hs]
    refine assignInOrder_cons (thn (h1 pins s σ H _ _ _ I r h) fun _ s1 ⟨σ1, H1, I1, q1⟩ => ?_)
    exact h2 pins s1 σ1 H1 _ _ Q I1 rr q1
def gTup (K : PySem.W.Frag) (n : Nat) (t : TGs) : TG := fun v σ H Q => ∃ a xs, v = .ref a ∧ SqT K H a xs ∧ xs.length = n ∧ t xs σ H Q
theorem pg_tup {es : List Expr} {k : Nat} {t : TGs} {n : Nat} (hc : X.calm = true) (h : PGs X es t)
    (hn : (assignEach es X.env).length = n := by rfl) (hst : (assignEach es X.env).findIdx? (·.1) = none := by rfl) : PG X (.Tuple es k pos) (gTup X.K n t) := by
  intro pins s σ H v u Q I r hw
  obtain ⟨a, xs, e1, hq, hl, hw⟩ := hw
  subst e1
  cases r
  obtain ⟨its, rv, ht, hz⟩ := I.tuple hq
  refine assign_Tuple_tuple (I.ok.hd hc) ht (by simp [hn, ← hl, rv.length]) hst fun h' hx => ?_
  have I1 : Inv X pins σ H { s with heap := h' } := I.kept (t' := s.toks) fun b o e => hx b o (Nat.ne_of_lt (Heap.lt_size e)) e
  exact h pins _ σ H xs _ Q I1 (by simpa using rv) hw
def gSub (to ti : TE) (t : TSet) : TG := fun v σ H Q => to σ H fun o H1 => ti σ H1 fun i H2 => t o i v H2 fun H3 => Q σ H3
theorem pg_sub {o i : Expr} {to ti : TE} {t : TSet} (ho : PE X o to) (hi : PE X i ti) (hs : PSet X t)
    (ha : ∀ v, assign (.Subscript o i pos) X.env v = (do
      let ov ← holding [v] (eval o X.env)
      let iv ← holding [v, ov] (eval i X.env)
      standAt pos
      holding [v, ov, iv] (setItem ov iv v)
      release [v, ov, iv] []) := by intro _; rfl) : PG X (.Subscript o i pos) (gSub to ti t) := by
  intro pins s σ H v u Q I r h
  rw [ha]
  refine wpAny_bind (wpAny_holding (thn (ho pins s σ H _ I h) fun ov s1 ⟨x, H1, I1, r1, q1⟩ => ?_))
  refine wpAny_bind (wpAny_holding (thn (hi pins s1 σ H1 _ I1 q1) fun iv s2 ⟨y, H2, I2, r2, q2⟩ => ?_))
  refine wpAny_bind (wpAny_standAt (wpAny_bind (wpAny_holding (thn (hs pins s2 σ H2 x y v ov iv u _ I2 r1 r2 r q2) fun _ s3 ⟨H3, I3, q3⟩ => ?_))))
  exact wpAny_release ⟨σ, H3, I3, q3⟩
def tAsg (te : TE) (g : TG) : TS := fun D σ H => te σ H fun x H1 => g x σ H1 D.nx
theorem ps_asg {tg e : Expr} {te : TE} {g : TG} (he : PE X e te) (hg : PG X tg g) (hs : swapsWithSole [tg] e pos.line X.env = pure false := by rfl) (hw : swappedStores [tg] e X.env = pure none := by rfl)
    (h1 : (assignEach [tg] X.env).map (·.2) = [assign tg X.env] := by rfl) : PS X (.Assign [tg] e pos) (tAsg te g) := by
  intro pins s σ H D I h
  refine wpAny_Assign_stores (thn (he pins s σ H _ I h) fun v s1 ⟨x, H1, I1, r1, q1⟩ => ?_) hs hw
  rw [h1]
  exact thn (hg pins s1 σ H1 x v _ I1 r1 q1) fun _ s2 q => q
theorem ps_set {i : Nat} {x : Str} {e : Expr} {te : TE} {pos' : Pos} (hN : X.N.Nodup) (hi : X.N[i]? = some x) (hx : Loc X.env.scope x) (he : PE X e te) (hs : swapsWith e (some (.Name x pos')) pos.line X.env = pure false := by rfl) (hf : X.fn x = true ∨ X.env.scope.names.lookup x = some .local := by first | exact .inl rfl | exact .inr rfl | assumption) :
    PS X (.Assign [.Name x pos'] e pos) (tAsg te (gName i)) := by
  intro pins s σ H D I h
  refine wpAny_Assign_Name (thn (he pins s σ H _ I h) fun v s1 ⟨y, H1, I1, r1, q1⟩ => ?_) hs
  exact store_ok I1 hN hi hx r1 (fun s2 I2 => ⟨_, H1, I2, q1⟩) hf
end
structure It where
  go : Nat → Hp → Prop
  yld : Nat → Hp → V → Hp → Prop
  stop : Nat → Hp → Prop
def FpOk (X : Cx) (pins : List (Addr × Obj)) (H : Hp) (b : Addr) : Prop :=
  H b = none ∧ b ≠ X.env.locals ∧ b ∉ X.fs ∧ (b ∈ X.ex ∨ X.s₀.heap.objs.size ≤ b) ∧ (∀ x c, X.env.cells.lookup x = some c → c ≠ b) ∧ ∀ p ∈ X.pn ++ pins, p.1 ≠ b
theorem Inv.fpOk {X : Cx} {pins : List (Addr × Obj)} {σ : St} {H H' : Hp} {s : Shared} {b : Addr} (I : Inv X pins σ H s) (hb : s.heap.objs.size ≤ b) (hn : H' b = none) : FpOk X pins H' b := by
  refine ⟨hn, Nat.ne_of_gt (Nat.lt_of_lt_of_le I.lt hb), I.nofs hb, .inr (Nat.le_trans I.sz hb), fun x c e z => ?_, fun p hp z => ?_⟩
  · obtain ⟨v, q⟩ := I.cell x c e
    exact absurd (Nat.lt_of_lt_of_le q.lt (by rw [z]; exact hb)) (Nat.lt_irrefl _)
  · exact absurd (Nat.lt_of_lt_of_le (Heap.lt_size (I.pin p hp).1) (by rw [z]; exact hb)) (Nat.lt_irrefl _)
structure Turn (P : Program) (w : World) (K : PySem.W.Frag) (tg : Expr) (J : It) (fp : List Addr) (it : Addr) (tn : Nat → Heap → Prop) : Prop where
  mem : it ∈ fp
  obj : ∀ i h, tn i h → ∀ b ∈ fp, ∃ o, h.get? b = some o ∧ ∀ v, o.data ≠ .cell v
  keep : ∀ i h h', tn i h → (∀ b ∈ fp, ∀ o, h.get? b = some o → h'.get? b = some o) → tn i h'
  item : ∀ (X : Cx), X.prog = P → X.w = w → X.K = K → X.calm = true → ∀ (i : Nat) (pins : List (Addr × Obj)) (s : Shared) (σ : St) (H : Hp) (E : Value → Shared → Prop), Inv X pins σ H s → (∀ b ∈ fp, FpOk X pins H b) → tn i s.heap → J.go i H →
    wpAny (model P w) X.A (pyNext (.ref it)) (fun r s1 => ∃ u, r = some u ∧
      wpAny (model P w) X.A (letOwnedTupleGo tg (.ref it) u) (fun _ s2 => ∃ x H', Inv X pins σ H' s2 ∧ RelV x u ∧ J.yld i H x H' ∧ tn (i + 1) s2.heap ∧ ∀ b ∈ fp, H' b = none) E s1) E s
  done : ∀ (X : Cx), X.prog = P → X.w = w → X.K = K → X.calm = true → ∀ (i : Nat) (pins : List (Addr × Obj)) (s : Shared) (σ : St) (H : Hp) (E : Value → Shared → Prop), Inv X pins σ H s → (∀ b ∈ fp, FpOk X pins H b) → tn i s.heap → J.stop i H →
    wpAny (model P w) X.A (pyNext (.ref it)) (fun r s1 => r = none ∧ Inv X pins σ H s1) E s
  self : ∀ (A : Around) (i : Nat) (s : Shared) (Q : Value → Shared → Prop) (E : Value → Shared → Prop), tn i s.heap → Q (.ref it) s → wpAny (model P w) A (pyIter (.ref it)) Q E s
abbrev TI := St → Hp → (It → Hp → Prop) → Prop
def PIE (X : Cx) (pins : List (Addr × Obj)) (σ : St) (tg : Expr) (R : It → Hp → Prop) (itv : Value) (s2 : Shared) : Prop :=
  ∃ (it : Addr) (fp : List Addr) (tn : Nat → Heap → Prop) (J : It) (H' : Hp), itv = .ref it ∧ Inv X pins σ H' s2 ∧ Turn X.prog X.w X.K tg J fp it tn ∧ tn 0 s2.heap ∧ (∀ b ∈ fp, FpOk X pins H' b) ∧ R J H'
def PI (X : Cx) (tg iter : Expr) (wi : TI) : Prop :=
  ∀ (pins : List (Addr × Obj)) (s : Shared) (σ : St) (H : Hp) (R : It → Hp → Prop), Inv X pins σ H s → wi σ H R →
    wpAny (model X.prog X.w) X.A (eval iter X.env) (fun v s1 => wpAny (model X.prog X.w) X.A (pyIter v) (PIE X pins σ tg R) X.xe s1) X.xe s
theorem go_of {M : Model} {A : Around} {E : Value → Shared → Prop} {s : Shared} {tg : Expr} {it : Addr} {u : Value} {o : Obj} {n : String} {vs : Array Value} {Q : Unit → Shared → Prop} (ho : s.heap.get? it = some o) (hc : o.cls = .type n) (hd : o.data = .fields vs)
    (hn : ["enumerate", "zip", "dict_itemiterator", "dict_reverseitemiterator", "odict_iterator", "itertools.zip_longest", "itertools.pairwise"].contains n = false) (hQ : Q () s) : wpAny M A (letOwnedTupleGo tg (.ref it) u) Q E s := by
  unfold letOwnedTupleGo
  cases tg <;> first
    | exact wpAny_pure hQ
    | (cases u <;> first
        | exact wpAny_pure hQ
        | (refine wpAny_bind (wpAny_load ho ?_)
           rw [hc, hd]
           show wpAny M A (if (["enumerate", "zip", "dict_itemiterator", "dict_reverseitemiterator", "odict_iterator", "itertools.zip_longest", "itertools.pairwise"].contains n && vs[0]? == some (rawInt _)) = true then _ else _) Q E s
           rw [if_neg (by intro h; rw [hn, Bool.false_and] at h; cases h)]
           exact wpAny_pure hQ))
def Itl (K : PySem.W.Frag) (a : Addr) : It :=
  ⟨fun i H => ∃ xs x, SqL K H a xs ∧ xs[i]? = some x, fun i H x H' => H' = H ∧ ∀ xs, SqL K H a xs → xs[i]? = some x, fun i H => ∃ xs, SqL K H a xs ∧ xs.length ≤ i⟩
def Itr (lo : Int) (n : Nat) : It := ⟨fun i _ => i < n, fun i H x H' => H' = H ∧ x = .int (lo + i), fun i _ => n ≤ i⟩
theorem turn_list {P : Program} {w : World} {K : PySem.W.Frag} {tg : Expr} (a it : Addr) : Turn P w K tg (Itl K a) [it] it (fun i h => h.IsListIter it a i) where
  mem := by simp
  obj := fun i h st b hb => by
    have e : b = it := by simpa using hb
    subst e
    obtain ⟨o, e, c, d⟩ := st
    exact ⟨o, e, fun v z => by rw [d] at z; cases z⟩
  keep := fun i h h' st k => st.at fun o e => k it (by simp) o e
  item := by
    intro X hP hw hK hc i pins s σ H E I hf st hg
    subst hP hw hK
    obtain ⟨xs, x, hq, hx⟩ := hg
    obtain ⟨its, rv, p, hz⟩ := I.list hq
    obtain ⟨u, hu, ru⟩ := rv.get hx
    obtain ⟨f0, f1, f2, f3, f4, f5⟩ := hf it (by simp)
    refine wpAny_pyNext_list_item st p.isList (x := u) (by simpa using hu) fun h' st' sb => ?_
    have I1 : Inv X pins σ H { s with heap := h' } := I.turned (t' := s.toks) (fun b o hb e => (sb.2 b hb).trans e) f0 f1 f3 f4 f5
    obtain ⟨o, e, c, d⟩ := id st'
    exact ⟨u, rfl, go_of (s := { s with heap := h' }) e c d (by decide) ⟨x, H, I1, ru, ⟨rfl, fun ys hy => by rw [I.list_inj hy hq]; exact hx⟩, st', fun b hb => (hf b hb).1⟩⟩
  done := by
    intro X hP hw hK hc i pins s σ H E I hf st hg
    subst hP hw hK
    obtain ⟨xs, hq, hx⟩ := hg
    obtain ⟨its, rv, p, hz⟩ := I.list hq
    obtain ⟨f0, f1, f2, f3, f4, f5⟩ := hf it (by simp)
    have hl := rv.length
    exact wpAny_pyNext_list_end (I.ok.hd hc) st p.isList (by simp; omega) fun h' eb => ⟨rfl, I.turned (t' := s.toks) (fun b o hb e => eb b o hb e) f0 f1 f3 f4 f5⟩
  self := fun _ _ _ _ _ st h => wpAny_pyIter_listiter st h
theorem turn_range {P : Program} {w : World} {K : PySem.W.Frag} {tg : Expr} (it : Addr) (lo : Int) (n : Nat) : Turn P w K tg (Itr lo n) [it] it (fun i h => IsRangeIter h it (lo + (i : Nat) * 1) ((n : Int) - (i : Nat)) 1) where
  mem := by simp
  obj := fun i h st b hb => by
    have e : b = it := by simpa using hb
    subst e
    exact ⟨_, st, fun v z => by
      have z' : Data.fields _ = Data.cell v := z
      cases z'⟩
  keep := fun i h h' st k => k it (by simp) _ st
  item := by
    intro X hP hw hK hc i pins s σ H E I hf st hg
    subst hP hw hK
    obtain ⟨f0, f1, f2, f3, f4, f5⟩ := hf it (by simp)
    have W := Walks.range (prog := X.prog) (w := X.w) (I.ok.hd hc) it lo 1 n
    refine W.item i s _ _ hg st fun v h' tk hv st' kk => ?_
    obtain ⟨t, rfl⟩ := hv
    have I1 : Inv X pins σ H { s with heap := h', toks := tk } := I.turned (fun b o hb e => kk b o (by simpa using hb) e) f0 f1 f3 f4 f5
    refine ⟨_, rfl, go_of (s := { s with heap := h', toks := tk }) (n := "range_iterator") st' rfl rfl (by decide) ⟨.int (lo + i), H, I1, ⟨t, ?_⟩, ⟨rfl, rfl⟩, st', fun b hb => (hf b hb).1⟩⟩
    rw [Int.mul_one]
  done := by
    intro X hP hw hK hc i pins s σ H E I hf st hg
    subst hP hw hK
    obtain ⟨f0, f1, f2, f3, f4, f5⟩ := hf it (by simp)
    exact wpAny_pyNext_range_end (I.ok.hd hc) st (by have : n ≤ i := hg; omega) fun h' eb => ⟨rfl, I.turned (t' := s.toks) (fun b o hb e => eb b o hb e) f0 f1 f3 f4 f5⟩
  self := fun _ _ _ _ _ st h => wpAny_pyIter_rangeiter st h
end L2
namespace L2
open PySem PySem.Spec PyProof.Rows
section
variable {X : Cx} {tg : Expr}
def iList (K : PySem.W.Frag) (tl : TE) : TI := fun σ H R => tl σ H fun x H1 => ∃ a, x = .ref a ∧ (∃ xs, SqL K H1 a xs) ∧ R (Itl K a) H1
theorem pi_list {l : Expr} {tl : TE} (hl : PE X l tl) : PI X tg l (iList X.K tl) := by
  intro pins s σ H R I h
  refine thn (hl pins s σ H _ I h) fun v s1 ⟨x, H1, I1, r1, q1⟩ => ?_
  obtain ⟨a, e, ⟨xs, hq⟩, q⟩ := q1
  subst e
  cases r1
  obtain ⟨its, rv, p, hz⟩ := I1.list hq
  refine wpAny_pyIter_list p.isList ?_
  refine ⟨s1.heap.objs.size, [s1.heap.objs.size], _, _, H1, rfl, I1.kept (t' := s1.toks) fun b o e => Heap.get?_push_of_some _ e, turn_list a _, ⟨_, Heap.get?_push_size _ rfl, rfl, rfl⟩, fun b hb => ?_, q⟩
  have e : b = s1.heap.objs.size := by simpa using hb
  subst e
  exact I1.fpOk (Nat.le_refl _) (I1.hok.fresh (Nat.le_refl _))
theorem range_it {pins : List (Addr × Obj)} {σ : St} {H : Hp} {s : Shared} {R : It → Hp → Prop} {E : Value → Shared → Prop} {lo hi : Int} {t u v : Tok} {tk : Nat} (I : Inv X pins σ H s) (h1 : -(2 ^ 62) ≤ lo) (h2 : lo < 2 ^ 62) (h3 : -(2 ^ 62) ≤ hi) (h4 : hi < 2 ^ 62)
    (q : R (Itr lo (hi - lo).toNat) H) : wpAny (model X.prog X.w) X.A (pyIter (.ref s.heap.objs.size)) (PIE X pins σ tg R) E { s with heap := s.heap.push { cls := .type "range", data := .fields #[.int lo t, .int hi u, .int 1 v] }, toks := tk } := by
  refine wpAny_pyIter_range (IsRange.new ..) (small_one h1 h2 h3 h4) ?_
  have I1 : Inv X pins σ H { s with heap := s.heap.push { cls := .type "range", data := .fields #[.int lo t, .int hi u, .int 1 v] }, toks := tk } := I.kept fun b o e => Heap.get?_push_of_some _ e
  refine ⟨(s.heap.push { cls := .type "range", data := .fields #[.int lo t, .int hi u, .int 1 v] }).objs.size, [(s.heap.push { cls := .type "range", data := .fields #[.int lo t, .int hi u, .int 1 v] }).objs.size], _, _, H, rfl,
    I1.kept (t' := tk) fun b o e => Heap.get?_push_of_some _ e, turn_range _ lo (hi - lo).toNat, ?_, fun b hb => ?_, q⟩
  · have e1 : lo + ((0 : Nat) : Int) * 1 = lo := by simp
    have e2 : (((hi - lo).toNat : Nat) : Int) - ((0 : Nat) : Int) = Builtin.Range.rangeSize lo hi 1 := by rw [rangeSize_one]; split <;> omega
    show IsRangeIter _ _ (lo + ((0 : Nat) : Int) * 1) ((((hi - lo).toNat : Nat) : Int) - ((0 : Nat) : Int)) 1
    rw [e1, e2]
    exact Heap.get?_push_size _ rfl
  · have e : b = (s.heap.push { cls := .type "range", data := .fields #[.int lo t, .int hi u, .int 1 v] }).objs.size := by simpa using hb
    subst e
    exact I1.fpOk (Nat.le_refl _) (I1.hok.fresh (Nat.le_refl _))
def iRng1 (ta : TA) : TI := fun σ H R => ta σ H fun vs H1 => ∃ j : Int, vs = [.int j] ∧ -(2 ^ 62) ≤ j ∧ j < 2 ^ 62 ∧ R (Itr 0 j.toNat) H1
theorem pi_range1 {a : Expr} {ta : TA} {p pos : Pos} (hg : Gl X "range") (hm : X.mg "range" = none) (ha : PA X [a] ta) (hs : starEach [a] X.env = [(false, eval a X.env)] := by rfl) : PI X tg (.Call (.Name "range" p) [a] [] pos) (iRng1 ta) := by
  intro pins s σ H R I h
  refine Call_ (ld_blt I hg hm boot_range (PyProof.Rows.callWith_type1 (thn (ha pos pins s σ H _ I h) fun us s1 ⟨vs, H1, I1, r1, q1⟩ => ?_) hs rfl))
  obtain ⟨j, e, q1, q2, q⟩ := q1
  subst e
  cases r1 with
  | cons r rr =>
    cases rr
    obtain ⟨t, rfl⟩ := r
    exact call_range_1 (range_it I1 (by omega) (by omega) q1 q2 (by simpa using q))
def tFor (wi : TI) (g : TG) (tb : TS) : TS := fun D σ H => wi σ H fun J H1 => ∃ W : Nat → Nat → St → Hp → Prop, (∃ m, W 0 m σ H1) ∧ ∀ i m σ H, W i m σ H →
  (J.stop i H ∧ D.nx σ H) ∨ (J.go i H ∧ ∃ N : St → Hp → Prop, (∀ σ' H', N σ' H' → ∃ m', m' < m ∧ W (i + 1) m' σ' H') ∧ ∀ x H', J.yld i H x H' → g x σ H' fun σ2 H2 => tb { D with nx := N, ct := N, bk := D.nx } σ2 H2)
def pinsAt (fp : List Addr) (h : Heap) : List (Addr × Obj) := fp.filterMap fun b => (h.get? b).map fun o => (b, o)
theorem mem_pinsAt {fp : List Addr} {h : Heap} {b : Addr} {o : Obj} (hb : b ∈ fp) (e : h.get? b = some o) : (b, o) ∈ pinsAt fp h := List.mem_filterMap.mpr ⟨b, hb, by rw [e]; rfl⟩
theorem of_pinsAt {fp : List Addr} {h : Heap} {p : Addr × Obj} (hp : p ∈ pinsAt fp h) : p.1 ∈ fp ∧ h.get? p.1 = some p.2 := by
  obtain ⟨b, hb, e⟩ := List.mem_filterMap.mp hp
  cases q : h.get? b with
  | none => rw [q] at e; cases e
  | some o =>
    rw [q] at e
    have e' : (b, o) = p := Option.some.inj e
    subst e'
    exact ⟨hb, q⟩
theorem Inv.pinned {pins : List (Addr × Obj)} {σ : St} {H : Hp} {s : Shared} {fp : List Addr} (I : Inv X pins σ H s) (hf : ∀ b ∈ fp, FpOk X pins H b) (ho : ∀ b ∈ fp, ∃ o, s.heap.get? b = some o ∧ ∀ v, o.data ≠ .cell v) : Inv X (pins ++ pinsAt fp s.heap) σ H s :=
  I.pins_of fun p hp => (List.mem_append.mp hp).elim (fun z => I.pin p (List.mem_append_right _ z)) fun z => by
    obtain ⟨hb, e⟩ := of_pinsAt z
    obtain ⟨f0, f1, f2, _⟩ := hf p.1 hb
    obtain ⟨o, e', d⟩ := ho p.1 hb
    rw [e] at e'; cases e'
    exact ⟨e, f0, f1, f2, d⟩
theorem Inv.unpinned {pins pl : List (Addr × Obj)} {σ : St} {H : Hp} {s : Shared} (I : Inv X (pins ++ pl) σ H s) : Inv X pins σ H s := I.pins_of fun p hp => I.pin p (List.mem_append_right _ (List.mem_append_left _ hp))
theorem ps_for {iter : Expr} {body : List Stmt} {wi : TI} {g : TG} {tb : TS} {pos : Pos} (hp : PassesOwn (model X.prog X.w) X.A X.env X.xe) (hc : X.calm = true) (hi : PI X tg iter wi) (hg : PG X tg g) (hb : PSs X body tb)
    (hs : ∀ x, foldedSetIterable iter X.env x = pure x := by intro _; rfl) : PS X (.For tg iter body [] pos) (tFor wi g tb) := by
  intro pins s σ H D I h
  refine wpAny_For (thn (hi pins s σ H _ I h) fun v s1 h1 => thn h1 fun itv s2 h2 => ?_) hs
  obtain ⟨it, fp, tn, J, H2, e, I2, T, st2, f2, W, ⟨m0, w0⟩, turn⟩ := h2
  subst e
  -- what stays true of the iterator's objects through the loop
  have stat : ∀ {H' : Hp}, (∀ b ∈ fp, H' b = none) → ∀ b ∈ fp, FpOk X pins H' b := fun hn b hb => ⟨hn b hb, (f2 b hb).2⟩
  refine codeAny_forLoop_any (fun n s' => ∃ i σ' H', Inv X pins σ' H' s' ∧ tn i s'.heap ∧ (∀ b ∈ fp, H' b = none) ∧ W i n σ' H') ?_ m0 ⟨0, σ, H2, I2, st2, fun b hb => (f2 b hb).1, w0⟩
  rintro n s3 ⟨i, σ3, H3, I3, st3, fr3, w3⟩
  rcases turn i n σ3 H3 w3 with ⟨stop, qn⟩ | ⟨go, N, hN, step⟩
  · refine wpAny_passesOwn hp (thn (T.done X rfl rfl rfl hc i pins s3 σ3 H3 X.xe I3 (stat fr3) st3 stop) fun r s4 ⟨hr, I4⟩ => ?_)
    subst hr
    exact wpAny_execs_nil ⟨σ3, H3, I4, qn⟩
  · refine wpAny_passesOwn hp (thn (T.item X rfl rfl rfl hc i pins s3 σ3 H3 X.xe I3 (stat fr3) st3 go) fun r s4 ⟨u, hr, h4⟩ => ?_)
    subst hr
    refine wpAny_passesOwn hp (thn h4 fun _ s5 ⟨x, H5, I5, r5, y5, st5, fr5⟩ => ?_)
    have I5' := I5.pinned (stat fr5) (T.obj _ _ st5)
    refine wpAny_passesOwn hp (thn (hg _ s5 σ3 H5 x u _ I5' r5 (step x H5 y5)) fun _ s6 ⟨σ6, H6, I6, q6⟩ => ?_)
    refine wpAny_passesOwn hp (thn (hb _ s6 σ6 H6 _ I6 q6) fun f s7 q7 => ?_)
    have again : ∀ {σ7 : St} {H7 : Hp}, Inv X (pins ++ pinsAt fp s5.heap) σ7 H7 s7 → N σ7 H7 → ∃ m, m < n ∧ ∃ i σ' H', Inv X pins σ' H' s7 ∧ tn i s7.heap ∧ (∀ b ∈ fp, H' b = none) ∧ W i m σ' H' := fun {σ7 H7} I7 n7 => by
      obtain ⟨m', hm, w7⟩ := hN σ7 H7 n7
      refine ⟨m', hm, i + 1, σ7, H7, I7.unpinned, T.keep _ _ _ st5 fun b hb o e => (I7.pin (b, o) (List.mem_append_right _ (List.mem_append_right _ (mem_pinsAt hb e)))).1, fun b hb => ?_, w7⟩
      obtain ⟨o, e, d⟩ := T.obj _ _ st5 b hb
      exact (I7.pin (b, o) (List.mem_append_right _ (List.mem_append_right _ (mem_pinsAt hb e)))).2.1
    cases f with
    | next => obtain ⟨σ7, H7, I7, n7⟩ := q7; exact again I7 n7
    | cont => obtain ⟨σ7, H7, I7, n7⟩ := q7; exact again I7 n7
    | brk => obtain ⟨σ7, H7, I7, q7⟩ := q7; exact ⟨σ7, H7, I7.unpinned, q7⟩
    | ret v => obtain ⟨x7, σ7, H7, I7, r7, q7⟩ := q7; exact ⟨x7, σ7, H7, I7.unpinned, r7, q7⟩
end
end L2
namespace L2
open PySem PySem.Spec PyProof.Rows
abbrev R2 := V → V → Hp → VK → Prop
def OpR (X : Cx) (f : Value → Value → Sem Value) (r : R2) : Prop :=
  ∀ (pins : List (Addr × Obj)) (s : Shared) (σ : St) (H : Hp) (x y : V) (v u : Value) (Q : VK), Inv X pins σ H s → RelV x v → RelV y u → r x y H Q →
    wpAny (model X.prog X.w) X.A (f v u) (EP X pins σ Q) X.xe s
def UnR (X : Cx) (f : Value → Sem Value) (r : V → Hp → VK → Prop) : Prop :=
  ∀ (pins : List (Addr × Obj)) (s : Shared) (σ : St) (H : Hp) (x : V) (v : Value) (Q : VK), Inv X pins σ H s → RelV x v → r x H Q →
    wpAny (model X.prog X.w) X.A (f v) (EP X pins σ Q) X.xe s
def CallR (X : Cx) (f : Value) (r : List V → Hp → VK → Prop) : Prop :=
  ∀ (pins : List (Addr × Obj)) (s : Shared) (σ : St) (H : Hp) (xs : List V) (us : List Value) (Q : VK), Inv X pins σ H s → Vals xs us → r xs H Q →
    wpAny (model X.prog X.w) X.A (call f us) (EP X pins σ Q) X.xe s
def TruR (X : Cx) (r : V → Hp → (Bool → Hp → Prop) → Prop) : Prop :=
  ∀ (pins : List (Addr × Obj)) (s : Shared) (σ : St) (H : Hp) (x : V) (v : Value) (Q : Bool → Hp → Prop), Inv X pins σ H s → RelV x v → r x H Q →
    wpAny (model X.prog X.w) X.A (truthy v) (TP X pins σ Q) X.xe s
def tOp (r : R2) (ta tb : TE) : TE := fun σ H Q => ta σ H fun x H1 => tb σ H1 fun y H2 => r x y H2 Q
def tUn (r : V → Hp → VK → Prop) (ta : TE) : TE := fun σ H Q => ta σ H fun x H1 => r x H1 Q
def rI (C : Int → Int → Prop) (g : Int → Int → V) : R2 := fun x y H Q => ∃ i j, x = .int i ∧ y = .int j ∧ C i j ∧ Q (g i j) H
def rI0 (g : Int → Int → V) : R2 := fun x y H Q => ∃ i j, x = .int i ∧ y = .int j ∧ Q (g i j) H
def rU (g : Int → V) : V → Hp → VK → Prop := fun x H Q => ∃ i, x = .int i ∧ Q (g i) H
section
variable {X : Cx} {a b c : Expr} {ta tb tc : TE} {pos : Pos}
theorem binT (ha : PE X a ta) (hb : PE X b tb) {pins : List (Addr × Obj)} {s : Shared} {σ : St} {H : Hp} {R : V → V → Hp → Prop} (I : Inv X pins σ H s)
    (h : ta σ H fun x H1 => tb σ H1 fun y H2 => R x y H2) {Q : Value → Shared → Prop} {f : Value → Value → Sem Value}
    (hf : ∀ v u s2 x y H2, Inv X pins σ H2 s2 → RelV x v → RelV y u → R x y H2 → wpAny (model X.prog X.w) X.A (f v u) Q X.xe s2) :
    wpAny (model X.prog X.w) X.A (eval a X.env) (fun v s₁ => wpAny (model X.prog X.w) X.A (eval b X.env) (fun u s₂ => wpAny (model X.prog X.w) X.A (f v u) Q X.xe s₂) X.xe s₁) X.xe s := by
  refine thn (ha pins s σ H _ I h) fun v s1 ⟨x, H1, I1, r1, q1⟩ => ?_
  refine thn (hb pins s1 σ H1 _ I1 q1) fun u s2 ⟨y, H2, I2, r2, q2⟩ => ?_
  exact hf v u s2 x y H2 I2 r1 r2 q2
theorem pe_op {op : Operator} {r : R2} (ho : OpR X (binaryOp op) r) (ha : PE X a ta) (hb : PE X b tb) : PE X (.BinOp a op b pos) (tOp r ta tb) := by
  intro pins s σ H Q I h
  exact wpAny_BinOp (binT ha hb I h fun v u s2 x y H2 I2 rx ry q => ho pins s2 σ H2 x y v u Q I2 rx ry q)
theorem pe_un {op : UnaryOp} {r : V → Hp → VK → Prop} (ho : UnR X (unaryOp op) r) (ha : PE X a ta) : PE X (.UnaryOp op a pos) (tUn r ta) := by
  intro pins s σ H Q I h
  exact UnaryOp_ (thn (ha pins s σ H _ I h) fun v s1 ⟨x, H1, I1, r1, q1⟩ => ho pins s1 σ H1 x v Q I1 r1 q1)
theorem opI {f : Value → Value → Sem Value} {C : Int → Int → Prop} {g : Int → Int → Int}
    (rule : ∀ (i j : Int) (t u : Tok) (s : Shared) (Q : Value → Shared → Prop) (E : Value → Shared → Prop), C i j → Q (.int (g i j) s.toks) { s with toks := s.toks + 1 } → wpAny (model X.prog X.w) X.A (f (.int i t) (.int j u)) Q E s) :
    OpR X f (rI C fun i j => .int (g i j)) := by
  intro pins s σ H x y v u Q I rx ry h
  obtain ⟨i, j, rfl, rfl, hc, q⟩ := h
  obtain ⟨t, rfl⟩ := rx
  obtain ⟨t', rfl⟩ := ry
  exact rule i j t t' s _ _ hc ⟨.int (g i j), H, I.tok _, ⟨_, rfl⟩, q⟩
theorem opI0 {f : Value → Value → Sem Value} {g : Int → Int → Int}
    (rule : ∀ (i j : Int) (t u : Tok) (s : Shared) (Q : Value → Shared → Prop) (E : Value → Shared → Prop), Q (.int (g i j) s.toks) { s with toks := s.toks + 1 } → wpAny (model X.prog X.w) X.A (f (.int i t) (.int j u)) Q E s) :
    OpR X f (rI0 fun i j => .int (g i j)) := by
  intro pins s σ H x y v u Q I rx ry h
  obtain ⟨i, j, rfl, rfl, q⟩ := h
  obtain ⟨t, rfl⟩ := rx
  obtain ⟨t', rfl⟩ := ry
  exact rule i j t t' s _ _ ⟨.int (g i j), H, I.tok _, ⟨_, rfl⟩, q⟩
theorem opB0 {f : Value → Value → Sem Value} {g : Int → Int → Bool}
    (rule : ∀ (i j : Int) (t u : Tok) (s : Shared) (Q : Value → Shared → Prop) (E : Value → Shared → Prop), Q (.bool (g i j)) s → wpAny (model X.prog X.w) X.A (f (.int i t) (.int j u)) Q E s) :
    OpR X f (rI0 fun i j => .bl (g i j)) := by
  intro pins s σ H x y v u Q I rx ry h
  obtain ⟨i, j, rfl, rfl, q⟩ := h
  obtain ⟨t, rfl⟩ := rx
  obtain ⟨t', rfl⟩ := ry
  exact rule i j t t' s _ _ ⟨.bl (g i j), H, I, rfl, q⟩
def CPow (i j : Int) : Prop := 0 ≤ j ∧ j ≤ 1000000 ∧ i.natAbs < 2 ^ 64
def CMul (i j : Int) : Prop := (-(2 ^ 64) < i ∧ i < 2 ^ 64) ∨ (-(2 ^ 64) < j ∧ j < 2 ^ 64)
theorem CMul.ok {i j : Int} (h : CMul i j) : IntMulOk i j := by
  rcases h with ⟨h1, h2⟩ | ⟨h1, h2⟩
  · exact .of_left (intBits_le_64 h1 h2)
  · exact .of_right (intBits_le_64 h1 h2)
theorem op_add : OpR X (binaryOp .Add) (rI0 fun i j => .int (i + j)) := opI0 fun _ _ _ _ _ _ _ q => add_int q
theorem op_sub : OpR X (binaryOp .Sub) (rI0 fun i j => .int (i - j)) := opI0 fun _ _ _ _ _ _ _ q => sub_int q
theorem op_mul : OpR X (binaryOp .Mult) (rI CMul fun i j => .int (i * j)) := opI fun _ _ _ _ _ _ _ hc q => mul_int q hc.ok
theorem op_mod : OpR X (binaryOp .Mod) (rI (fun _ j => 0 < j) fun i j => .int (i % j)) := opI fun i j _ _ _ _ _ hc q => by
  have h1 : (0 : Int) < j := hc
  exact mod_int' (by omega) (by rw [Int.fmod_eq_emod_of_nonneg i (by omega)]; exact q)
theorem op_pow : OpR X (binaryOp .Pow) (rI CPow fun i j => .int (i ^ j.toNat)) := opI fun _ _ _ _ _ _ _ hc q => pow_int_small hc.1 hc.2.1 hc.2.2 q
theorem unI {f : Value → Sem Value} {g : Int → Int}
    (rule : ∀ (i : Int) (t : Tok) (s : Shared) (Q : Value → Shared → Prop) (E : Value → Shared → Prop), Q (.int (g i) s.toks) { s with toks := s.toks + 1 } → wpAny (model X.prog X.w) X.A (f (.int i t)) Q E s) :
    UnR X f (rU fun i => .int (g i)) := by
  intro pins s σ H x v Q I rx h
  obtain ⟨i, rfl, q⟩ := h
  obtain ⟨t, rfl⟩ := rx
  exact rule i t s _ _ ⟨.int (g i), H, I.tok _, ⟨_, rfl⟩, q⟩
theorem un_neg : UnR X (unaryOp .USub) (rU fun i => .int (-i)) := unI fun _ _ _ _ _ q => neg_int q
end
section
variable {X : Cx} {a b c : Expr} {ta tb tc : TE} {pos : Pos}
theorem fin_bl {pins : List (Addr × Obj)} {σ : St} {H : Hp} {s : Shared} {Q : VK} {k k' : Bool} (I : Inv X pins σ H s) (q : Q (.bl k) H) (e : k = k') : EP X pins σ Q (.bool k') s := by
  subst e
  exact ⟨.bl k, H, I, rfl, q⟩
theorem op_lt : OpR X (compareOp .Lt) (rI0 fun i j => .bl (decide (i < j))) := opB0 fun _ _ _ _ _ _ _ q => lt_int q
theorem op_le : OpR X (compareOp .LtE) (rI0 fun i j => .bl (decide (i ≤ j))) := opB0 fun _ _ _ _ _ _ _ q => le_int q
theorem op_gt : OpR X (compareOp .Gt) (rI0 fun i j => .bl (decide (j < i))) := opB0 fun _ _ _ _ _ _ _ q => gt_int q
theorem op_ge : OpR X (compareOp .GtE) (rI0 fun i j => .bl (decide (j ≤ i))) := opB0 fun _ _ _ _ _ _ _ q => ge_int q
theorem op_notN : OpR X (compareOp .IsNot) (fun x y H Q => y = .non ∧ Q (.bl (!decide (x = .non))) H) := by
  intro pins s σ H x y v u Q I rx ry h
  obtain ⟨rfl, q⟩ := h
  cases ry
  refine isnot_none_gen (fin_bl I q ?_)
  cases x <;> first
    | (cases rx; rfl)
    | (obtain ⟨t, rfl⟩ := rx; rfl)
theorem OpR.or {f : Value → Value → Sem Value} {r r' : R2} (h : OpR X f r) (h' : OpR X f r') : OpR X f (fun x y H Q => r x y H Q ∨ r' x y H Q) := by
  intro pins s σ H x y v u Q I rx ry q
  rcases q with q | q
  · exact h pins s σ H x y v u Q I rx ry q
  · exact h' pins s σ H x y v u Q I rx ry q
theorem nomark (b : Expr) {op : CmpOp} (h : op ≠ .In := by decide) (h2 : op ≠ .NotIn := by decide) : behindInMarks op b = false := by
  have e1 : (op == CmpOp.In) = false := by cases op <;> first | rfl | exact absurd rfl h
  have e2 : (op == CmpOp.NotIn) = false := by cases op <;> first | rfl | exact absurd rfl h2
  cases b <;> simp [behindInMarks, e1, e2]
theorem pe_cmpR {op : CmpOp} {r : R2} (ho : OpR X (compareOp op) r) (ha : PE X a ta) (hb : PE X b tb) (hm : behindInMarks op b = false) : PE X (.Compare a [op] [b] pos) (tOp r ta tb) := by
  intro pins s σ H Q I h
  exact wpAny_Compare1 (binT ha hb I h fun v u s2 x y H2 I2 rx ry q => ho pins s2 σ H2 x y v u Q I2 rx ry q) hm
def tTest (t : TE) : TT := fun σ H Q => t σ H fun x H' => ∃ k, x = .bl k ∧ Q k H'
theorem pt_cmpR {op : CmpOp} {r : R2} (ho : OpR X (compareOp op) r) (ha : PE X a ta) (hb : PE X b tb) (hm : behindInMarks op b = false) : PT X (.Compare a [op] [b] pos) (tTest (tOp r ta tb)) := by
  intro pins s σ H Q I h
  refine wpAny_isTrue_Compare1 (thn (ha pins s σ H _ I h) fun v s1 ⟨x, H1, I1, r1, q1⟩ => thn (hb pins s1 σ H1 _ I1 q1) fun u s2 ⟨y, H2, I2, r2, q2⟩ =>
    thn (ho pins s2 σ H2 x y v u _ I2 r1 r2 q2) fun c s3 ⟨z, H3, I3, r3, k, e, q3⟩ => ?_) hm
  subst e
  cases r3
  exact wpAny_truthy_bool ⟨H3, I3, q3⟩
def tChain (r r' : R2) (ta tb tc : TE) : TE := fun σ H Q => ta σ H fun x H1 => tb σ H1 fun y H2 => r x y H2 fun z H3 => ∃ k, z = .bl k ∧
  (if k = true then tc σ H3 fun w' H4 => r' y w' H4 Q else Q (.bl false) H3)
theorem pe_chain {op op' : CmpOp} {r r' : R2} (ho : OpR X (compareOp op) r) (ho' : OpR X (compareOp op') r') (ha : PE X a ta) (hb : PE X b tb) (hc : PE X c tc)
    (hm : lastMarks [op, op'] [b, c] = false := by with_unfolding_all rfl) : PE X (.Compare a [op, op'] [b, c] pos) (tChain r r' ta tb tc) := by
  intro pins s σ H Q I h
  refine Compare_chain (thn (ha pins s σ H _ I h) fun v s1 ⟨x, H1, I1, r1, q1⟩ => chain_link (thn (hb pins s1 σ H1 _ I1 q1) fun u s2 ⟨y, H2, I2, r2, q2⟩ =>
    thn (ho pins s2 σ H2 x y v u _ I2 r1 r2 q2) fun d s3 ⟨z, H3, I3, r3, k, e, q3⟩ => ?_)) hm
  subst e
  cases r3
  refine wpAny_truthy_bool ?_
  cases k with
  | false => exact ite_ff ⟨.bl false, H3, I3, rfl, q3⟩
  | true => exact ite_tt (chain_last (thn (hc pins s3 σ H3 _ I3 q3) fun w' s4 ⟨z', H4, I4, r4, q4⟩ => ho' pins s4 σ H4 y z' u w' Q I4 r2 r4 q4))
def TruV (K : PySem.W.Frag) (x : V) (H : Hp) (k : Bool) : Prop :=
  match x with
  | .non => k = false
  | .bl b => k = b
  | .int i => k = (i != 0)
  | .str y => y.length ≤ sizeLine ∧ k = ((y.length : Int) != 0)
  | .byt y => y.size ≤ sizeLine ∧ k = ((y.size : Int) != 0)
  | .ref p => (∃ xs, SqL K H p xs ∧ k = !xs.isEmpty) ∨ (∃ xs, SqT K H p xs ∧ k = !xs.isEmpty) ∨ ∃ kvs, H p = some (.dK kvs) ∧ k = !kvs.isEmpty
  | _ => False
theorem isEmpty_kv {κ : Type} {kvs : List (κ × V)} {vs : List (κ × Value)} (r : KV kvs vs) : (!vs.isEmpty) = !kvs.isEmpty := by
  cases r <;> rfl
theorem isEmpty_of {xs : List V} {its : List Value} (r : Vals xs its) : (!its.toArray.isEmpty) = !xs.isEmpty := by
  cases r <;> simp
theorem line63 : (sizeLine : Nat) < 2 ^ 63 := by rw [sizeLine_eq]; decide
theorem tru_ok : TruR X (fun x H Q => ∃ k, TruV X.K x H k ∧ Q k H) := by
  intro pins s σ H x v Q I rx h
  obtain ⟨k, e, q⟩ := h
  have hl := line63
  have hs : sizeLine = 16777216 := sizeLine_eq
  cases x with
  | non =>
    cases rx
    have e' : k = false := e
    subst e'
    exact truthy_none ⟨H, I, q⟩
  | bl b =>
    cases rx
    have e' : k = b := e
    subst e'
    exact wpAny_truthy_bool ⟨H, I, q⟩
  | int i =>
    obtain ⟨t, rfl⟩ := rx
    have e' : k = (i != 0) := e
    subst e'
    exact PySem.P.truthy_int ⟨H, I, q⟩
  | str y =>
    obtain ⟨t, rfl⟩ := rx
    obtain ⟨hy, e'⟩ : y.length ≤ sizeLine ∧ k = ((y.length : Int) != 0) := e
    subst e'
    exact PySem.P.truthy_str (by omega) ⟨H, I.tok _, q⟩
  | byt y =>
    obtain ⟨t, rfl⟩ := rx
    obtain ⟨hy, e'⟩ : y.size ≤ sizeLine ∧ k = ((y.size : Int) != 0) := e
    subst e'
    exact PySem.W.truthy_bytes (by omega) ⟨H, I.tok _, q⟩
  | ref p =>
    cases rx
    have e' : (∃ xs, SqL X.K H p xs ∧ k = !xs.isEmpty) ∨ (∃ xs, SqT X.K H p xs ∧ k = !xs.isEmpty) ∨ ∃ kvs, H p = some (.dK kvs) ∧ k = !kvs.isEmpty := e
    rcases e' with ⟨xs, hx, e'⟩ | ⟨xs, hx, e'⟩ | ⟨kvs, hx, e'⟩
    · subst e'
      obtain ⟨its, r, pl, hz⟩ := I.list hx
      have hlen := r.length
      exact wpAny_truthy_list pl.isList (by simp only [List.size_toArray]; omega) ⟨H, I.tok _, by rw [isEmpty_of r]; exact q⟩
    · subst e'
      obtain ⟨its, r, pl, hz⟩ := I.tuple hx
      have hlen := r.length
      exact truthy_tuple pl (by simp only [List.size_toArray]; omega) ⟨H, I.tok _, by rw [isEmpty_of r]; exact q⟩
    · subst e'
      obtain ⟨hz, hS, vs, r, m⟩ : kvs.length ≤ sizeLine ∧ (p == sysModules) = false ∧ ∃ vs, KV kvs vs ∧ s.heap.DictOf (mixKind X.prog X.w) p vs := I.hok p _ hx
      have hlen : kvs.length = vs.length := Paired.length r
      exact wpAny_truthy_dict hS m (by omega) ⟨H, I.tok _, by rw [isEmpty_kv r]; exact q⟩
  | _ => exact (show False from e).elim
theorem pt_truth (ha : PE X a ta) (he : ∀ whole, isTrue a X.env whole = (do let v ← whole; standAt a.pos; holding [v] (truthy v))) :
    PT X a (fun σ H Q => ta σ H fun x H' => ∃ k, TruV X.K x H' k ∧ Q k H') := by
  intro pins s σ H Q I h
  exact isTrue_plain (thn (ha pins s σ H _ I h) fun v s1 ⟨x, H1, I1, r1, q1⟩ => tru_ok pins s1 σ H1 x v Q I1 r1 q1) (he _)
theorem vals1 {x : V} {us : List Value} (r : Vals [x] us) : ∃ u, us = [u] ∧ RelV x u := by
  cases r with
  | cons r1 r2 => cases r2; exact ⟨_, rfl, r1⟩
theorem vals2 {x y : V} {us : List Value} (r : Vals [x, y] us) : ∃ u w', us = [u, w'] ∧ RelV x u ∧ RelV y w' := by
  cases r with
  | cons r1 r2 =>
    cases r2 with
    | cons r3 r4 => cases r4; exact ⟨_, _, rfl, r1, r3⟩
theorem call_abs : CallR X (.builtin "abs") (fun xs H Q => ∃ i, xs = [.int i] ∧ Q (.int (if i < 0 then -i else i)) H) := by
  intro pins s σ H xs us Q I r h
  obtain ⟨i, rfl, q⟩ := h
  obtain ⟨u, rfl, t, rfl⟩ := vals1 r
  exact call_abs_int fun u tk => ⟨.int (if i < 0 then -i else i), H, I.tok _, ⟨_, rfl⟩, q⟩
theorem call_max2 (hc : X.calm = true) : CallR X (.builtin "max") (fun xs H Q => ∃ i j, xs = [.int i, .int j] ∧ Q (.int (if j > i then j else i)) H) := by
  intro pins s σ H xs us Q I r h
  obtain ⟨i, j, rfl, q⟩ := h
  obtain ⟨u, w', rfl, ⟨t, rfl⟩, ⟨t', rfl⟩⟩ := vals2 r
  refine max_two_ints (I.ok.hd hc) fun h' tk k => ⟨_, H, I.kept k, ?_, q⟩
  by_cases hj : j > i
  · rw [if_pos hj, if_pos hj]; exact ⟨_, rfl⟩
  · rw [if_neg hj, if_neg hj]; exact ⟨_, rfl⟩
theorem call_min2 (hc : X.calm = true) : CallR X (.builtin "min") (fun xs H Q => ∃ i j, xs = [.int i, .int j] ∧ Q (.int (if j < i then j else i)) H) := by
  intro pins s σ H xs us Q I r h
  obtain ⟨i, j, rfl, q⟩ := h
  obtain ⟨u, w', rfl, ⟨t, rfl⟩, ⟨t', rfl⟩⟩ := vals2 r
  refine min_two_ints (I.ok.hd hc) fun h' tk k => ⟨_, H, I.kept k, ?_, q⟩
  by_cases hj : j < i
  · rw [if_pos hj, if_pos hj]; exact ⟨_, rfl⟩
  · rw [if_neg hj, if_neg hj]; exact ⟨_, rfl⟩
end
end L2
namespace L2
open PySem PySem.Spec PyProof.Rows
structure ObjM (h : Heap) (x dx C : Addr) (mA : Str → Option Value) : Prop where
  obj : h.get? x = some (PySem.W.instObj C dx)
  ns : h.Ns1 dx mA
  ne : dx ≠ x
section
variable {prog : Program} {w : World} {A : Around} {E : Value → Shared → Prop} {s : Shared} {K : PySem.W.Frag} {x dx C f : Addr} {mA : Str → Option Value} {name : Str} {v : Value}
end
structure Cls (K : PySem.W.Frag) (C : Addr) : Prop where
  pg : PySem.W.plainGet K C Str.empty = true
  hd : PySem.W.hasDictIn K C = true
  po : PySem.W.plainOver K C = true
  sa : PySem.W.findIn K (.ref C) "__setattr__" = some (some (.builtin "object.__setattr__"))
theorem Cls.get {K : PySem.W.Frag} {C : Addr} (c : Cls K C) (f : Str) : PySem.W.plainGet K C f = true := c.pg
structure Con (K : PySem.W.Frag) (C : Addr) (f : Str) (v : V) (u : Value) : Prop where
  at_ : PySem.W.findIn K (.ref C) f = some (some u)
  rel : RelV v u
  get : PySem.W.specialIn K u "__get__" = some none
  cp : PySem.W.copiedNames.contains f = false
structure Meth (K : PySem.W.Frag) (C : Addr) (m : Str) (f : Addr) : Prop where
  at_ : PySem.W.findIn K (.ref C) m = some (some (.ref f))
  fn : PySem.W.isFn K (.ref f) = true
  kp : PySem.W.keepIn K (.ref f) = true
section
variable {X : Cx} {pins : List (Addr × Obj)} {σ : St} {H : Hp} {s : Shared} {a C dx : Addr} {fs : List (Str × V)} {f : Str} {v : V} {A : Around} {E : Value → Shared → Prop}
theorem Inv.made (I : Inv X pins σ H s) : Inv X pins σ (upd (upd H s.heap.objs.size (.own (s.heap.objs.size + 1))) (s.heap.objs.size + 1) (.ins C s.heap.objs.size []))
    { s with heap := (s.heap.push PySem.W.emptyDict).push (PySem.W.instObj C s.heap.objs.size) } := by
  have e1 : (s.heap.push PySem.W.emptyDict).get? s.heap.objs.size = some PySem.W.emptyDict := Heap.get?_push_size s.heap rfl
  have e2 : ((s.heap.push PySem.W.emptyDict).push (PySem.W.instObj C s.heap.objs.size)).get? (s.heap.objs.size + 1) = some (PySem.W.instObj C s.heap.objs.size) := by
    have := Heap.get?_push_size (s.heap.push PySem.W.emptyDict) (o := PySem.W.instObj C s.heap.objs.size) rfl
    rwa [Heap.size_push] at this
  have e3 : (s.heap.push PySem.W.emptyDict).Ns s.heap.objs.size (fun _ => none) := ⟨PySem.W.emptyDict, #[], _, e1, rfl, (fun e he => absurd he (by simp)), fun _ => rfl⟩
  have I1 := I.laid (a := s.heap.objs.size) (o := .own (s.heap.objs.size + 1)) (h' := s.heap.push PySem.W.emptyDict) (t' := s.toks) (fun b u q => Heap.get?_push_of_some _ q) (Nat.le_refl _) ⟨_, e1⟩
  refine I1.laid (a := s.heap.objs.size + 1) (o := .ins C s.heap.objs.size []) (t' := s.toks) (fun b u q => Heap.get?_push_of_some _ q) (Nat.le_of_eq (Heap.size_push _ _)) ?_
  have ne : s.heap.objs.size ≠ s.heap.objs.size + 1 := Nat.ne_of_lt (Nat.lt_succ_self _)
  refine ⟨by rw [upd_ne ne, upd_same], Nat.zero_le _, ne, e2, fun _ => none, (Heap.Ns1.of_empty e3).at fun o q => Heap.get?_push_of_some _ q, fun _ => True.intro, fun y hy => absurd rfl hy⟩
theorem attr_of {prog : Program} {w : World} {env : Env} {e : Expr} {f : Str} {pos : Pos} {s : Shared} {Q : Value → Shared → Prop} (hb : attributeBase e f env (eval e env) = eval e env)
    (h : wpAny (model prog w) A (eval e env) (fun o s₁ => wpAny (model prog w) A (getAttr o f true) Q E s₁) E s) : wpAny (model prog w) A (eval (.Attribute e f pos) env) Q E s :=
  Attribute_any_ h (by rw [arm_eval_Attribute, hb])
end
section
variable {X : Cx} {pins : List (Addr × Obj)} {σ : St} {H : Hp} {s : Shared} {A : Around} {E : Value → Shared → Prop} {Q : Value → Shared → Prop} {c : Value} {b : Bool}
inductive TyOf (K : PySem.W.Frag) (H : Hp) : V → Value → Prop where
  | non : TyOf K H .non (.type "NoneType")
  | bl (x : Bool) : TyOf K H (.bl x) (.type "bool")
  | int (i : Int) : TyOf K H (.int i) (.type "int")
  | str (x : Str) : TyOf K H (.str x) (.type "str")
  | flt (x : UInt64) : TyOf K H (.flt x) (.type "float")
  | lst {a : Addr} {xs : List V} (e : H a = some (.lst xs)) : TyOf K H (.ref a) (.type "list")
  | frz {a : Addr} {o : Obj} {xs : List V} (e : H a = some (.frz o (.lst xs))) : TyOf K H (.ref a) (.type "list")
  | tup {a : Addr} {xs : List V} (e : H a = some (.tup xs)) : TyOf K H (.ref a) (.type "tuple")
  | dK {a : Addr} {kvs : List (Key × V)} (e : H a = some (.dK kvs)) : TyOf K H (.ref a) (.type "dict")
  | dT {a : Addr} {kvs : List (List Key × V)} (e : H a = some (.dT kvs)) : TyOf K H (.ref a) (.type "dict")
  | ins {a C dx : Addr} {fs : List (Str × V)} (e : H a = some (.ins C dx fs)) (cl : Cls K C) (ha : PySem.W.findIn K (.ref C) "__class__" = some (some (.builtin "object.__class__")))
      (hn : PySem.W.specialIn K (.builtin "object.__class__") "__get__" = some (some (.builtin "getset_descriptor.__get__"))) (htk : PySem.W.takesIn K (.builtin "object.__class__") = some true)
      (hm : PySem.W.mroIn K C (.type "object") = some true) : TyOf K H (.ref a) (.ref C)
end
end L2
namespace L2
open PySem PySem.Spec PyProof.Rows
structure Room (k : Nat) (A : Around) : Prop where
  hd : A.handled = none
  dp : A.depth + 3 * k + 5 < recursionLimit
  un : A.units + 16 * k + 200 < cLine
theorem Room.mono {j k : Nat} {A : Around} (r : Room k A) (h : j ≤ k) : Room j A := ⟨r.hd, by have := r.dp; omega, by have := r.un; omega⟩
theorem Room.deeper {k : Nat} {A : Around} (r : Room (k + 1) A) (env : Env) : Room k (A.deeper env) :=
  ⟨r.hd, by have := r.dp; show A.depth + 1 + 3 * k + 5 < _; omega, by have := r.un; show A.units + 3 + 16 * k + 200 < _; omega⟩
theorem Room.in1 {k : Nat} {A : Around} (r : Room (k + 1) A) : Room k A.in1 :=
  ⟨r.hd, by have := r.dp; show A.depth + 3 * k + 5 < _; omega, by have := r.un; show A.units + 1 + 16 * k + 200 < _; omega⟩
theorem make_depth {A : Around} {C : Addr} {us : List Value} {kw : List (Str × Value)} : (A.under (.builtin "type.__call__" ⟨.ref C :: us, kw⟩)).depth = A.depth + 1 := by
  first | rfl | simp [Around.under, Code.weight, Code.isCreation, Code.isGuard, Code.isCaller, Code.frames, Code.isFrame, guardIds]
theorem make_units {A : Around} {C : Addr} {us : List Value} {kw : List (Str × Value)} : (A.under (.builtin "type.__call__" ⟨.ref C :: us, kw⟩)).units = A.units + 1 := by
  first | rfl | simp [Around.under, Code.cUnits, Code.frames, Code.isFrame]
theorem Room.make {k : Nat} {A : Around} (r : Room (k + 1) A) (C : Addr) (us : List Value) (kw : List (Str × Value)) : Room k (A.under (.builtin "type.__call__" ⟨.ref C :: us, kw⟩)) :=
  ⟨r.hd, by have := r.dp; rw [make_depth]; omega, by have := r.un; rw [make_units]; omega⟩
theorem Room.depth {k : Nat} {A : Around} (r : Room k A) : A.depth < recursionLimit := by have := r.dp; omega
theorem Room.units {k : Nat} {A : Around} (r : Room k A) : A.units + 64 < cLine := by have := r.un; omega
def tNil : TA := fun _ H Q => Q [] H
def tCons (ta : TE) (tr : TA) : TA := fun σ H Q => ta σ H fun x H1 => tr σ H1 fun xs H2 => Q (x :: xs) H2
section
variable {X : Cx} {e : Expr} {es : List Expr} {te : TE} {t : TA} {pos : Pos}
theorem pa_nil : PA X [] tNil := fun _ _ _ _ H Q I h => Calls.spliced_nil ⟨[], H, I, .nil, h⟩
theorem pa_cons (ha : PE X e te) (hr : PA X es t) (hs : starEach (e :: es) X.env = (false, eval e X.env) :: starEach es X.env := by rfl) : PA X (e :: es) (tCons te t) := by
  intro pos pins s σ H Q I h
  rw [hs]
  show wpAny _ _ (spliced ((false, eval e X.env) :: backTo pos (starEach es X.env))) _ _ s
  refine Calls.spliced_cons (thn (ha pins s σ H _ I h) fun u s1 ⟨x, H1, I1, r1, q1⟩ => ?_)
  exact thn (hr pos pins s1 σ H1 _ I1 q1) fun us s2 ⟨xs, H2, I2, r2, q2⟩ => ⟨x :: xs, H2, I2, .cons r1 r2, q2⟩
def tTup (t : TA) : TE := fun σ H Q => t σ H fun xs H1 => xs.length ≤ sizeLine ∧ ∀ p, H1 p = none → Q (.ref p) (upd H1 p (.tup xs))
def tLst (t : TA) : TE := fun σ H Q => t σ H fun xs H1 => xs.length ≤ sizeLine ∧ ∀ p, H1 p = none → Q (.ref p) (upd H1 p (.lst xs))
theorem pe_tup {x1} (h : PA X es t) : PE X (.Tuple es x1 pos) (tTup t) := by
  intro pins s σ H Q I hq
  refine wpAny_Tuple_spliced (thn (h pos pins s σ H _ I hq) fun us s1 ⟨xs, H1, I1, r, z, q⟩ => ⟨by rw [← r.length]; exact z, ?_⟩)
  have hf : H1 s1.heap.objs.size = none := I1.hok.fresh (Nat.le_refl _)
  refine ⟨.ref s1.heap.objs.size, upd H1 s1.heap.objs.size (.tup xs), I1.laid (t' := s1.toks) (fun b u e => Heap.get?_push_of_some _ e) (Nat.le_refl _) ?_, rfl, q _ hf⟩
  exact ⟨z, us, r, ⟨_, Heap.get?_push_size _ rfl, rfl, _, rfl⟩⟩
theorem pe_lst (h : PA X es t) : PE X (.List es pos) (tLst t) := by
  intro pins s σ H Q I hq
  refine wpAny_List_spliced (thn (h pos pins s σ H _ I hq) fun us s1 ⟨xs, H1, I1, r, z, q⟩ => ⟨by rw [← r.length]; exact z, ?_⟩)
  have hf : H1 s1.heap.objs.size = none := I1.hok.fresh (Nat.le_refl _)
  refine ⟨.ref s1.heap.objs.size, upd H1 s1.heap.objs.size (.lst xs), I1.laid (t' := s1.toks) (fun b u e => Heap.get?_push_of_some _ e) (Nat.le_refl _) ?_, rfl, q _ hf⟩
  exact ⟨z, us, 0, r, Heap.get?_push_size _ rfl⟩
end
abbrev Sp := List V → Hp → VK → XK → Prop
abbrev CXT := List Env → Hp → Shared → XK → Value → Shared → Prop
structure Env0 (P : Program) (w : World) (K : PySem.W.Frag) (mg : Str → Option Value) (base : Heap) (A : Around) (outer : List Env) (s : Shared) (H : Hp) : Prop where
  frames : A.frames = some outer
  mod : Mod K mg base
  bs : ∀ b o, base.get? b = some o → s.heap.get? b = some o ∧ H b = none
  bsz : base.objs.size ≤ s.heap.objs.size
  funs : s.heap.FunFrames base outer
  frf : ∀ b ∈ frs outer, H b = none
  hok : HOk P w H s.heap
  bare : AllBare s.gens
def CE (outer : List Env) (P : Program) (w : World) (H : Hp) (s : Shared) (Q : VK) (u : Value) (s' : Shared) : Prop :=
  ∃ v H', s'.os = s.os ∧ AllBare s'.gens ∧ Un (frs outer) [] H H' s.heap s'.heap ∧ HOk P w H' s'.heap ∧ RelV v u ∧ Q v H'
def CR (CX : CXT) (outer : List Env) (P : Program) (w : World) (H : Hp) (s : Shared) (Q : VK) (E : XK) (r : Result) (s' : Shared) : Prop :=
  match r with
  | .ok (.ret u) => CE outer P w H s Q u s'
  | .ok _ => False
  | .error e => CX outer H s E e s'
structure FnOk (P : Program) (w : World) (K : PySem.W.Frag) (mg : Str → Option Value) (base : Heap) (CX : CXT) (k : Nat) (f : Addr) (fd : FuncData) (ps : List Str) (sp : Sp) : Prop where
  len : ∀ vs H Q E, sp vs H Q E → vs.length = ps.length
  run : ∀ (A : Around) (outer : List Env) (s : Shared) (H : Hp) (args : Args) (us : List Value) (vs : List V) (Q : VK) (E : XK), Room k A → Env0 P w K mg base A outer s H → BindsTo s fd args (ps.zip us) → Vals vs us → sp vs H Q E →
    codeAny (model P w) A (.call (.ref f) args) (CR CX outer P w H s Q E) s
theorem FnOk.mono {P : Program} {w : World} {K : PySem.W.Frag} {mg : Str → Option Value} {base : Heap} {CX : CXT} {j k : Nat} {f : Addr} {fd : FuncData} {ps : List Str} {sp : Sp} (F : FnOk P w K mg base CX j f fd ps sp) (h : j ≤ k) :
    FnOk P w K mg base CX k f fd ps sp := ⟨F.len, fun A outer s H args us vs Q E hr => F.run A outer s H args us vs Q E (hr.mono h)⟩
theorem FnOk.imp {P : Program} {w : World} {K : PySem.W.Frag} {mg : Str → Option Value} {base : Heap} {CX : CXT} {k : Nat} {f : Addr} {fd : FuncData} {ps : List Str} {sp sp' : Sp} (F : FnOk P w K mg base CX k f fd ps sp)
    (h : ∀ vs H Q E, sp' vs H Q E → sp vs H Q E) : FnOk P w K mg base CX k f fd ps sp' :=
  ⟨fun vs H Q E q => F.len vs H Q E (h _ _ _ _ q), fun A outer s H args us vs Q E hr he hb hv hs => F.run A outer s H args us vs Q E hr he hb hv (h _ _ _ _ hs)⟩
theorem Env0.make {P : Program} {w : World} {K : PySem.W.Frag} {mg : Str → Option Value} {base : Heap} {A : Around} {outer : List Env} {s : Shared} {H : Hp} (e : Env0 P w K mg base A outer s H) (C : Addr) (us : List Value) (kw : List (Str × Value)) :
    Env0 P w K mg base (A.under (.builtin "type.__call__" ⟨.ref C :: us, kw⟩)) outer s H := ⟨by first | exact e.frames | (simpa [Around.under, Code.envs, Code.isFrame, pushEnvs] using e.frames), e.mod, e.bs, e.bsz, e.funs, e.frf, e.hok, e.bare⟩
theorem Env0.in1 {P : Program} {w : World} {K : PySem.W.Frag} {mg : Str → Option Value} {base : Heap} {A : Around} {outer : List Env} {s : Shared} {H : Hp} (e : Env0 P w K mg base A outer s H) :
    Env0 P w K mg base A.in1 outer s H := ⟨e.frames, e.mod, e.bs, e.bsz, e.funs, e.frf, e.hok, e.bare⟩
section
variable {X : Cx} {pins : List (Addr × Obj)} {σ : St} {H : Hp} {s s' : Shared}
theorem Inv.env0 (I : Inv X pins σ H s) : Env0 X.prog X.w X.K X.mg X.base X.A X.stack s H :=
  ⟨I.ok.frames, I.ok.mod, I.bs, Nat.le_trans I.ok.bsz I.sz, I.stack, I.stkFree, I.hok, I.bare⟩
theorem Inv.after {Q : VK} {u : Value} (I : Inv X pins σ H s) (h : CE X.stack X.prog X.w H s Q u s') : EP X pins σ Q u s' := by
  obtain ⟨v, H', os, bare, un, hok, r, q⟩ := h
  obtain ⟨hh, g, d, t, os'⟩ := s'
  obtain rfl : os' = s.os := os
  exact ⟨v, H', I.call (h' := hh) (g' := g) (d' := d) (t' := t) (ch := []) un hok bare (fun b z => absurd z (by simp)), r, q⟩
end
def tCall (sp : Sp) (dvs : List V) (E : XK) (t : TA) : TE := fun σ H Q => t σ H fun vs H1 => sp (vs ++ dvs) H1 Q E
def Binds (K : PySem.W.Frag) (fd : FuncData) (ps : List Str) (ds : List Value) : Prop :=
  ∀ (s : Shared) (us : List Value), K.In s.heap → (us ++ ds).length = ps.length → BindsTo s fd ⟨us, []⟩ (ps.zip (us ++ ds))
theorem Binds.all {K : PySem.W.Frag} {fd : FuncData} {ps : List Str} (h : ∀ us : List Value, us.length = ps.length → bindArgs fd ⟨us, []⟩ = pure (ps.zip us)) : Binds K fd ps [] := fun s us _ hl => by
  rw [List.append_nil] at hl ⊢
  exact .of_eq (h us hl)
def Passes (CX : CXT) (X : Cx) (E : XK) : Prop := ∀ (pins : List (Addr × Obj)) (σ : St) (H : Hp) (s : Shared) (e : Value) (s' : Shared), Inv X pins σ H s → CX X.stack H s E e s' → X.xe e s'
section
variable {X : Cx} {CX : CXT} {k : Nat} {f C : Addr} {fd : FuncData} {ps : List Str} {sp : Sp} {dvs : List V} {ds : List Value} {E : XK} {x m : Str} {p pos apos : Pos} {e o : Expr} {es : List Expr} {ta : TE} {t : TA}
theorem run_fn {pins : List (Addr × Obj)} {σ : St} {H : Hp} {s : Shared} {Q : VK} {us : List Value} {vs : List V} (F : FnOk X.prog X.w X.K X.mg X.base CX k f fd ps sp) (hr : Room k X.A) (hb : Binds X.K fd ps ds) (hd : Vals dvs ds) (hx : Passes CX X E)
    (I : Inv X pins σ H s) (r : Vals vs us) (h : sp (vs ++ dvs) H Q E) : wpAny (model X.prog X.w) X.A (call (.ref f) us) (EP X pins σ Q) X.xe s := by
  have r2 : Vals (vs ++ dvs) (us ++ ds) := r.append hd
  have hl : (us ++ ds).length = ps.length := by rw [← r2.length]; exact F.len _ _ _ _ h
  refine wpAny_call (codeAny_mono (F.run X.A X.stack s H ⟨us, []⟩ (us ++ ds) (vs ++ dvs) Q E hr I.env0 (hb s us I.kIn hl) r2 h) fun r s' hq => ?_)
  cases r with
  | error e => exact hx pins σ H s e s' I hq
  | ok fl =>
    cases fl with
    | ret u => exact I.after hq
    | next => exact False.elim hq
    | brk => exact False.elim hq
    | cont => exact False.elim hq
theorem pe_call (F : FnOk X.prog X.w X.K X.mg X.base CX k f fd ps sp) (hr : Room k X.A) (hg : Gl X x) (hm : X.mg x = some (.ref f)) (hk : PySem.W.keepIn X.K (.ref f) = true) (hb : Binds X.K fd ps ds) (hd : Vals dvs ds) (hx : Passes CX X E)
    (ha : PA X (e :: es) t) (hdb : (x == ("__debug__" : Str)) = false := by decide) (he : starEach (e :: es) X.env = (false, eval e X.env) :: starEach es X.env := by rfl) (hpl : (backTo pos (starEach es X.env)).any (·.1) = false := by rfl) :
    PE X (.Call (.Name x p) (e :: es) [] pos) (tCall sp dvs E t) := by
  intro pins s σ H Q I h
  refine wpAny_Call_Name_kw (ld_glob I hg hm ?_ hdb)
  refine PySem.W.callWith_K (h₀ := X.base) I.ok.mod.kin hk (thn (ha pos pins s σ H _ I h) fun us s1 ⟨vs, H1, I1, r, q⟩ => ⟨I1.kIn, ?_⟩) he hpl
  exact run_fn F hr hb hd hx I1 r q
structure Mk (K : PySem.W.Frag) (C f : Addr) : Prop where
  makes : PySem.W.makesIn K C = true
  init : PySem.W.findIn K (.ref C) "__init__" = some (some (.ref f))
  fn : PySem.W.isFn K (.ref f) = true
  kp : PySem.W.keepIn K (.ref C) = true
end
section
variable {X : Cx} {CX : CXT} {k : Nat} {f C : Addr} {fd : FuncData} {ps ks : List Str} {sp : Sp} {E : XK} {x m : Str} {p pos apos kpos : Pos} {e o : Expr} {es : List Expr} {kws : List Keyword} {te ta : TE} {t tk : TA} {nm : Option Str}
structure KBinds (K : PySem.W.Frag) (fd : FuncData) (ps ks : List Str) (g : List Value → List Value → List Value) (gV : List V → List V → List V) : Prop where
  to : ∀ (s : Shared) (us ws : List Value), K.In s.heap → (g us ws).length = ps.length → BindsTo s fd ⟨us, ks.zip ws⟩ (ps.zip (g us ws))
  rel : ∀ {vs : List V} {us : List Value} {zs : List V} {ws : List Value}, Vals vs us → Vals zs ws → Vals (gV vs zs) (g us ws)
variable {g : List Value → List Value → List Value} {gV : List V → List V → List V}
end
structure FnScope (N P : List Str) (sc : Scope) : Prop where
  kind : sc.kind = .function
  co : sc.isCoroutine = false
  gen : sc.isGenerator = false
  nd : N.Nodup
  pre : N.take P.length = P
  par : ∀ x ∈ P, sc.names.lookup x = some .local ∨ sc.names.lookup x = some .cell
  nofree : ∀ y ∈ sc.names, y.2 ≠ .free
theorem bindL_out {kindOf : Str → Option NameKind} {x : Str} : ∀ {binds : List (Str × Value)} {m : Str → Option Value}, (∀ v, (x, v) ∉ binds) → bindL kindOf binds m x = m x
  | [], _, _ => rfl
  | (n, v) :: r, m, h => by
    unfold bindL
    rw [bindL_out fun w hw => h w (List.mem_cons_of_mem _ hw)]
    split
    · have : x ≠ n := by rintro rfl; exact h v List.mem_cons_self
      simp [this]
    · rfl
theorem bindC_out {kindOf : Str → Option NameKind} {x : Str} : ∀ {binds : List (Str × Value)} {m : Str → Option Value}, (∀ v, (x, v) ∉ binds) → bindC kindOf binds m x = m x
  | [], _, _ => rfl
  | (n, v) :: r, m, h => by
    unfold bindC
    rw [bindC_out fun w hw => h w (List.mem_cons_of_mem _ hw)]
    split
    · rfl
    · have : x ≠ n := by rintro rfl; exact h v List.mem_cons_self
      simp [this]
theorem bindL_get {kindOf : Str → Option NameKind} {x : Str} {v : Value} : ∀ {P : List Str} {vs : List Value} {i : Nat} {m : Str → Option Value}, P.Nodup → P[i]? = some x → vs[i]? = some v → kindOf x = some .local →
    bindL kindOf (P.zip vs) m x = some v
  | [], _, _, _, _, h, _, _ => by simp at h
  | _ :: _, [], _, _, _, _, h, _ => by simp at h
  | p :: P, w :: vs, 0, m, nd, h1, h2, hk => by
    simp at h1 h2; subst h1; subst h2
    show bindL kindOf ((p, w) :: P.zip vs) m p = _
    unfold bindL
    rw [bindL_out fun v hv => (List.nodup_cons.mp nd).1 (List.of_mem_zip hv).1, if_pos hk]
    simp
  | p :: P, w :: vs, i + 1, m, nd, h1, h2, hk => by
    show bindL kindOf ((p, w) :: P.zip vs) m x = _
    unfold bindL
    exact bindL_get (i := i) (List.nodup_cons.mp nd).2 (by simpa using h1) (by simpa using h2) hk
theorem bindC_get {kindOf : Str → Option NameKind} {x : Str} {v : Value} : ∀ {P : List Str} {vs : List Value} {i : Nat} {m : Str → Option Value}, P.Nodup → P[i]? = some x → vs[i]? = some v → kindOf x ≠ some .local →
    bindC kindOf (P.zip vs) m x = some v
  | [], _, _, _, _, h, _, _ => by simp at h
  | _ :: _, [], _, _, _, _, h, _ => by simp at h
  | p :: P, w :: vs, 0, m, nd, h1, h2, hk => by
    simp at h1 h2; subst h1; subst h2
    show bindC kindOf ((p, w) :: P.zip vs) m p = _
    unfold bindC
    rw [bindC_out fun v hv => (List.nodup_cons.mp nd).1 (List.of_mem_zip hv).1, if_neg hk]
    simp
  | p :: P, w :: vs, i + 1, m, nd, h1, h2, hk => by
    show bindC kindOf ((p, w) :: P.zip vs) m x = _
    unfold bindC
    exact bindC_get (i := i) (List.nodup_cons.mp nd).2 (by simpa using h1) (by simpa using h2) hk
def start (N : List Str) (vs : List V) : St := vs.map some ++ List.replicate (N.length - vs.length) none
def cxOf (CX : CXT) (P : Program) (w : World) (K : PySem.W.Frag) (mg : Str → Option Value) (base : Heap) (N : List Str) (qual : Str) (scope : Scope) (f : Addr) (cd : Value) (A : Around) (outer : List Env) (s : Shared) (H : Hp) (E : XK) : Cx where
  prog := P
  w := w
  K := K
  mg := mg
  base := base
  A := A.deeper (envOfC qual scope s.heap.objs.size f cd)
  N := N
  s₀ := s
  H₀ := H
  env := envOfC qual scope s.heap.objs.size f cd
  outer := outer
  stack := envOfC qual scope s.heap.objs.size f cd :: outer
  ex := []
  calm := true
  fn := fun _ => true
  pn := []
  xe := fun e s' => wpAny (model P w) (A.deeper (envOfC qual scope s.heap.objs.size f cd)) (leaving (envOfC qual scope s.heap.objs.size f cd) e) (fun _ s'' => CX outer H s E e s'') (fun e' s'' => CX outer H s E e' s'') s'
theorem cell_has {sc : Scope} {n : Nat} {x : Str} (h : sc.names.lookup x = some .cell) : ∃ c, (cellsFrom n sc.names []).lookup x = some c := by
  have q := PySem.W.cellsFrom_some sc.names n [] (.inl h)
  exact Option.isSome_iff_exists.mp q
theorem inv_start {CX : CXT} {P : Program} {w : World} {K : PySem.W.Frag} {mg : Str → Option Value} {base : Heap} {N ps : List Str} {qual : Str} {scope : Scope} {f : Addr} {cd : Value} {A : Around} {outer : List Env} {s s1 : Shared} {H : Hp} {E : XK} {us : List Value} {vs : List V}
    (S : FnScope N ps scope) (hd : A.handled = none) (e0 : Env0 P w K mg base A outer s H) (hl : vs.length = ps.length) (r : Vals vs us)
    (x : InCallC s s.heap.objs.size (bindL (envOfC qual scope s.heap.objs.size f cd).kindOf (ps.zip us) fun _ => none) (cellsFrom (s.heap.objs.size + 1) scope.names []) (bindC (envOfC qual scope s.heap.objs.size f cd).kindOf (ps.zip us) fun _ => none) s1) :
    Inv (cxOf CX P w K mg base N qual scope f cd A outer s H E) [] (start N vs) H s1 := by
  have hpl : ps.length ≤ N.length := by have := congrArg List.length S.pre; rw [List.length_take] at this; omega
  obtain ⟨h1, tk, rfl, hk⟩ := x.done
  have noA : ∀ b : Addr, b ∉ (cxOf CX P w K mg base N qual scope f cd A outer s H E).ex := fun b z => absurd (show b ∈ ([] : List Addr) from z) (by simp)
  refine ⟨⟨e0.mod, S.kind, rfl, rfl, Nat.le_refl _, fun y z c h1 h2 => ?_, fun y hy => ?_, fun y c _ h => ?_, fun _ => hd, Around.frames_deeper e0.frames, .inr ⟨rfl, rfl⟩, fun b z => absurd z (noA b), e0.bs, e0.bsz, fun b _ _ => noA b, fun b z => absurd z (noA b), e0.funs, e0.frf⟩,
    rfl, e0.bare, Un.kept hk, ⟨_, x.toInCall.ns, fun i y v h1 h2 h3 => ?_⟩, fun y c h => ⟨_, x.cell y c h⟩, e0.hok.fresh (Nat.le_refl _), fun y c h => ?_, fun p hp => absurd (show p ∈ ([] : List (Addr × Obj)) from hp) (by simp), e0.hok.kept hk, ?_⟩
  · exact name_of_addr x.apart (PySem.mem_of_lookup h1) (PySem.mem_of_lookup h2)
  · have hy : scope.names.lookup y = some .cell ∨ scope.names.lookup y = some .free := hy
    rcases hy with hy | hy
    · exact cell_has hy
    · exact absurd rfl (S.nofree _ (PySem.mem_of_lookup hy))
  · exact Nat.le_of_lt (x.above y c (PySem.mem_of_lookup h))
  · have hi : i < vs.length := by
      unfold start at h2
      by_cases hi : i < vs.length
      · exact hi
      · rw [List.getElem?_append_right (by simpa using hi)] at h2
        rw [List.getElem?_replicate] at h2
        split at h2 <;> cases h2
    have ha : vs[i]? = some v := by
      unfold start at h2
      rw [List.getElem?_append_left (by simpa using hi), List.getElem?_map] at h2
      cases e : vs[i]? with
      | none => rw [e] at h2; cases h2
      | some a => rw [e] at h2; cases h2; rfl
    obtain ⟨u, hu, rv⟩ := r.get ha
    have hp : ps[i]? = some y := by
      rw [← S.pre, List.getElem?_take_of_lt (by omega)]; exact h1
    have ndP : ps.Nodup := by rw [← S.pre]; exact S.nd.sublist (List.take_sublist _ _)
    refine ⟨u, rv, ?_⟩
    rcases S.par y (List.mem_of_getElem? hp) with k | k
    · exact .inl ⟨k, bindL_get ndP hp hu k⟩
    · obtain ⟨c, e⟩ := cell_has (n := s.heap.objs.size + 1) k
      refine .inr ⟨.inl k, c, e, ?_⟩
      have q := x.cell y c e
      rw [bindC_get ndP hp hu (by show scope.names.lookup y ≠ _; rw [k]; decide)] at q
      exact q
  · exact e0.hok.fresh (Nat.le_of_lt (x.above y c (PySem.mem_of_lookup h)))
  · unfold start
    show _ = N.length
    rw [List.length_append, List.length_map, List.length_replicate]
    omega
theorem fn_of {CX : CXT} {P : Program} {w : World} {K : PySem.W.Frag} {mg : Str → Option Value} {base : Heap} {k : Nat} {f : Addr} {name qual : Str} {params : Arguments} {body : List Stmt} {scope : Scope} {dV kV doc pm cdv ct oc : Value} {an od : Option Addr}
    {osl : Array (Option Value)} {N ps : List Str} {sp : Sp} (lk : K.lookup f = some ⟨oc, od, .func (PySem.W.fnOf name qual params body scope dV kV doc pm an cdv ct), osl⟩) (hcd : PySem.W.codeIn K cdv qual = true) (S : FnScope N ps scope)
    (len : ∀ vs H Q E, sp vs H Q E → vs.length = ps.length)
    (hbody : ∀ (A : Around) (outer : List Env) (s : Shared) (H : Hp) (vs : List V) (Q : VK) (E : XK), Room k (A.deeper (envOfC qual scope s.heap.objs.size f cdv)) → sp vs H Q E →
      ∃ t, PSs (cxOf CX P w K mg base N qual scope f cdv A outer s H E) body t ∧ t { nx := fun _ H' => Q .non H', rt := Q } (start N vs) H) :
    FnOk P w K mg base CX (k + 1) f (PySem.W.fnOf name qual params body scope dV kV doc pm an cdv ct) ps sp := by
  refine ⟨len, fun A outer s H args us vs Q E hr e0 hb r hsp => ?_⟩
  have hl := len _ _ _ _ hsp
  have KX : K.In s.heap := e0.mod.kin.keeps fun b o e => (e0.bs b o e).1
  have lim : s.heap.NoLimit := e0.mod.nolimit.keeps fun b o e => (e0.bs b o e).1
  have hkind : ∀ y ∈ ps.zip us, scope.names.lookup y.1 = some .local ∨ (scope.names.lookup y.1 = some .cell ∧ ((cellsFrom (s.heap.objs.size + 1) scope.names []).lookup y.1).isSome = true) := fun ⟨n, v⟩ hy => by
    rcases S.par n (List.of_mem_zip hy).1 with q | q
    · exact .inl q
    · exact .inr ⟨q, PySem.W.cellsFrom_some _ _ _ (.inl q)⟩
  refine codeAny_call_function hr.depth (KX _ _ lk) rfl S.co S.gen rfl (PySem.W.codeRec_of KX hcd) (hb _ _ _ _ ?_)
  refine wpAny_newFunctionEnv_cells S.kind hkind fun env he s1 x => ?_
  subst he
  refine ⟨lim.keeps x.toInCall.keep, codeAny_func ?_⟩
  obtain ⟨t, ht, hq⟩ := hbody A outer s H vs Q E (hr.deeper _) hsp
  have I : Inv (cxOf CX P w K mg base N qual scope f cdv A outer s H E) [] (start N vs) H s1 := inv_start S hr.hd e0 hl r x
  refine wpAny_mono (ht [] s1 (start N vs) H _ I hq) (fun fl s' hs => ?_) fun e s' hs => hs
  have fin : ∀ {σ' : St} {H' : Hp} {v : V} {u : Value}, Inv (cxOf CX P w K mg base N qual scope f cdv A outer s H E) [] σ' H' s' → RelV v u → Q v H' → CE outer P w H s Q u s' :=
    fun {σ' H' v u} J rv q => ⟨v, H', J.os, J.bare, J.base, J.hok, rv, q⟩
  cases fl with
  | ret u =>
    obtain ⟨v, σ', H', J, rv, q⟩ := hs
    exact fin J rv q
  | next =>
    obtain ⟨σ', H', J, q⟩ := hs
    exact fin (v := V.non) (u := Value.none) J rfl q
  | brk =>
    obtain ⟨_, _, _, q⟩ := hs
    exact False.elim q
  | cont =>
    obtain ⟨_, _, _, q⟩ := hs
    exact False.elim q
end L2
namespace L2
open PySem PySem.Spec PyProof.Rows
section
variable {X : Cx} {x : Str} {p pos : Pos} {e : Expr} {es : List Expr} {t : TA} {id T : String} {r : List V → Hp → VK → Prop}
def tCB (r : List V → Hp → VK → Prop) (t : TA) : TE := fun σ H Q => t σ H fun vs H1 => r vs H1 Q
theorem pe_callB (hc : CallR X (.builtin id) r) (hg : Gl X x) (hm : X.mg x = none) (hv : bootBuiltins x = some (.builtin id)) (ha : PA X (e :: es) t) (hn : x ≠ "__name__" := by decide) (hdb : (x == ("__debug__" : Str)) = false := by decide)
    (he : starEach (e :: es) X.env = (false, eval e X.env) :: starEach es X.env := by rfl) (hpl : (backTo pos (starEach es X.env)).any (·.1) = false := by rfl) : PE X (.Call (.Name x p) (e :: es) [] pos) (tCB r t) := by
  intro pins s σ H Q I h
  refine wpAny_Call_Name_kw (ld_blt I hg hm hv ?_ hn hdb)
  exact PyProof.Rows.callWith_builtin1 (thn (ha pos pins s σ H _ I h) fun us s1 ⟨vs, H1, I1, r1, q1⟩ => hc pins s1 σ H1 vs us Q I1 r1 q1) he hpl
theorem pe_callTy (hc : CallR X (.type T) r) (hg : Gl X x) (hm : X.mg x = none) (hv : bootBuiltins x = some (.type T)) (ha : PA X (e :: es) t) (hn : x ≠ "__name__" := by decide) (hdb : (x == ("__debug__" : Str)) = false := by decide)
    (he : starEach (e :: es) X.env = (false, eval e X.env) :: starEach es X.env := by rfl) (hpl : (backTo pos (starEach es X.env)).any (·.1) = false := by rfl) : PE X (.Call (.Name x p) (e :: es) [] pos) (tCB r t) := by
  intro pins s σ H Q I h
  refine wpAny_Call_Name_kw (ld_blt I hg hm hv ?_ hn hdb)
  exact PyProof.Rows.callWith_type1 (thn (ha pos pins s σ H _ I h) fun us s1 ⟨vs, H1, I1, r1, q1⟩ => hc pins s1 σ H1 vs us Q I1 r1 q1) he hpl
end
end L2
namespace HT
open PySem PyProof.Rows
section
open PySem.SeqAt
open PySem.AutoSeq1 (wpAny_loadPart')
open PySem.MeetsSeq PySem.MeetsSeq2 PySem.MeetsSeq3
end
section
variable {prog : Program} {w : World} {A : Around} {E : Value → Shared → Prop} {s : Shared}
def sIx (n d : Nat) : Option Int → Nat
  | none => d
  | some v => if v < 0 then (v + (n : Int)).toNat else min v.toNat n
theorem sIx_none (n d : Nat) : sIx n d none = d := rfl
end
end HT
namespace L2
open PySem PySem.Spec PyProof.Rows
abbrev TO := St → Hp → (Option Int → Hp → Prop) → Prop
def PO (X : Cx) (e : Option Expr) (t : TO) : Prop :=
  ∀ (pins : List (Addr × Obj)) (s : Shared) (σ : St) (H : Hp) (Q : Option Int → Hp → Prop), Inv X pins σ H s → t σ H Q →
    wpAny (model X.prog X.w) X.A (evalPart e X.env) (fun u s' => ∃ o H', Inv X pins σ H' s' ∧ IsPart u o ∧ Q o H') X.xe s
def tNoPart : TO := fun _ H Q => Q none H
def tPart (t : TE) : TO := fun σ H Q => t σ H fun x H1 => ∃ i, x = .int i ∧ Q (some i) H1
theorem intsAre_of {ns : List Int} : ∀ {us : List Value}, Vals (ns.map V.int) us → IntsAre us ns := by
  induction ns with
  | nil => intro us r; rw [List.map_nil] at r; cases r; exact .nil
  | cons n ns ih =>
    intro us r
    rw [List.map_cons] at r
    cases r with
    | cons r1 r2 =>
      obtain ⟨t, e⟩ := r1
      subst e
      exact .cons n t (ih r2)
section
variable {X : Cx} {e : Expr} {te : TE} {lo hi : Option Expr} {tl th : TO} {pos p2 : Pos}
theorem po_none : PO X none tNoPart := by
  intro pins s σ H Q I h
  rw [evalPart_none]
  exact wpAny_pure ⟨none, H, I, .none, h⟩
theorem po_some (h : PE X e te) : PO X (some e) (tPart te) := by
  intro pins s σ H Q I hw
  rw [evalPart_some]
  refine thn (h pins s σ H _ I hw) fun u s1 ⟨x, H1, I1, r1, q1⟩ => ?_
  obtain ⟨i, rfl, q⟩ := q1
  obtain ⟨t, rfl⟩ := r1
  exact ⟨some i, H1, I1, .int i t, q⟩
def SlR (X : Cx) (r : V → Option Int → Option Int → Hp → VK → Prop) : Prop :=
  ∀ (pins : List (Addr × Obj)) (s : Shared) (σ : St) (H : Hp) (x : V) (v vl vu : Value) (lo hi : Option Int) (sl : Addr) (Q : VK), Inv X pins σ H s → RelV x v → s.heap.IsSliceOf sl vl vu .none → IsPart vl lo → IsPart vu hi → r x lo hi H Q →
    ∃ T id, typeLookup (.type T) "__getitem__" = pure (some (.builtin id)) ∧ s.TypeIs v T ∧ wpAny (model X.prog X.w) X.A (getItem v (.ref sl)) (EP X pins σ Q) X.xe s
theorem SlR.or {r r' : V → Option Int → Option Int → Hp → VK → Prop} (h : SlR X r) (h' : SlR X r') : SlR X (fun x lo hi H Q => r x lo hi H Q ∨ r' x lo hi H Q) := by
  intro pins s σ H x v vl vu lo hi sl Q I rx hs pl pu q
  rcases q with q | q
  · exact h pins s σ H x v vl vu lo hi sl Q I rx hs pl pu q
  · exact h' pins s σ H x v vl vu lo hi sl Q I rx hs pl pu q
def tSl (r : V → Option Int → Option Int → Hp → VK → Prop) (te : TE) (tl th : TO) : TE := fun σ H Q => te σ H fun x H1 => tl σ H1 fun l H2 => th σ H2 fun u H3 => r x l u H3 Q
theorem pe_slice {r : V → Option Int → Option Int → Hp → VK → Prop} (hr : SlR X r) (he : PE X e te) (hl : PO X lo tl) (hu : PO X hi th) : PE X (.Subscript e (.Slice lo hi none p2) pos) (tSl r te tl th) := by
  intro pins s σ H Q I h
  refine Subscript_ (thn (he pins s σ H _ I h) fun v s1 ⟨x, H1, I1, r1, q1⟩ => ?_)
  refine wpAny_Slice (thn (hl pins s1 σ H1 _ I1 q1) fun vl s2 ⟨l, H2, I2, pl, q2⟩ => thn (hu pins s2 σ H2 _ I2 q2) fun vu s3 ⟨u, H3, I3, pu, q3⟩ => ?_)
  rw [evalPart_none]
  refine wpAny_pure ?_
  have I4 : Inv X pins σ H3 { s3 with heap := s3.heap.push { cls := .type "slice", data := .fields #[vl, vu, .none] } } := I3.kept (t' := s3.toks) fun b ob q => Heap.get?_push_of_some _ q
  obtain ⟨T, id, hT, ht, hg⟩ := hr pins { s3 with heap := s3.heap.push { cls := .type "slice", data := .fields #[vl, vu, .none] } } σ H3 x v vl vu l u s3.heap.objs.size Q I4 r1 (Heap.IsSliceOf.new ..) pl pu q3
  show wpAny (model X.prog X.w) X.A (subscriptTail e (.Slice lo hi none p2) v (.ref s3.heap.objs.size)) (EP X pins σ Q) X.xe { s3 with heap := s3.heap.push { cls := .type "slice", data := .fields #[vl, vu, .none] } }
  exact tail_any (ops := [.ref s3.heap.objs.size, v]) ht hT hg (by with_unfolding_all rfl)
def cutV (xs : List V) (lo hi : Option Int) : List V := (xs.drop (HT.sIx xs.length 0 lo)).take (HT.sIx xs.length xs.length hi - HT.sIx xs.length 0 lo)
theorem cutV_length (xs : List V) (lo hi : Option Int) : (cutV xs lo hi).length ≤ xs.length := by
  unfold cutV
  rw [List.length_take, List.length_drop]
  omega
def rCatT (K : PySem.W.Frag) : R2 := fun x y H Q => ∃ a b xs ys, x = .ref a ∧ y = .ref b ∧ SqT K H a xs ∧ SqT K H b ys ∧ xs ≠ [] ∧ xs.length + ys.length ≤ sizeLine ∧
  (ys = [] → Q (.ref a) H) ∧ (ys ≠ [] → ∀ p, H p = none → Q (.ref p) (upd H p (.tup (xs ++ ys))))
end
end L2
namespace L2
open PySem PySem.Spec PyProof.Rows
def ixN (n : Nat) (i : Int) : Option Nat := if 0 ≤ i then (if i < n then some i.toNat else none) else if -(n : Int) ≤ i then some (i + n).toNat else none
def atI {α : Type} (xs : List α) (i : Int) : Option α := (ixN xs.length i).bind fun j => xs[j]?
theorem ixN_seq {n : Nat} {i : Int} {j : Nat} (h : ixN n i = some j) : seqIndex? i n = some j ∧ j < n ∧ -(n : Int) ≤ i ∧ i < n := by
  unfold ixN at h
  by_cases h0 : 0 ≤ i
  · rw [if_pos h0] at h
    by_cases h1 : i < n
    · rw [if_pos h1] at h
      have e : i.toNat = j := Option.some.inj h
      exact ⟨by rw [seqIndex_of h0 h1, e], by omega, by omega, h1⟩
    · rw [if_neg h1] at h; cases h
  · rw [if_neg h0] at h
    by_cases h1 : -(n : Int) ≤ i
    · rw [if_pos h1] at h
      have e : (i + n).toNat = j := Option.some.inj h
      exact ⟨by rw [seqIndex_neg (by omega) h1, e], by omega, h1, by omega⟩
    · rw [if_neg h1] at h; cases h
theorem atI_get {α : Type} {xs : List α} {i : Int} {v : α} (h : atI xs i = some v) : ∃ j, seqIndex? i xs.length = some j ∧ xs[j]? = some v ∧ j < xs.length ∧ -(xs.length : Int) ≤ i ∧ i < xs.length := by
  unfold atI at h
  cases e : ixN xs.length i with
  | none => rw [e] at h; cases h
  | some j =>
    rw [e] at h
    obtain ⟨h1, h2, h3, h4⟩ := ixN_seq e
    exact ⟨j, h1, h, h2, h3, h4⟩
theorem atI_nat {α : Type} {xs : List α} {j : Nat} {v : α} (h : xs[j]? = some v) : atI xs (j : Int) = some v := by
  have hj : j < xs.length := (List.getElem?_eq_some_iff.mp h).1
  have e : ixN xs.length (j : Int) = some j := by
    unfold ixN
    rw [if_pos (by omega), if_pos (by omega)]; simp
  unfold atI; rw [e]; exact h
def PlainIx (b : Expr) : Prop := ∀ o i, subscripted b false o i = operate [o, i] (getItem o i)
def IxR (X : Cx) (r : R2) : Prop :=
  ∀ (value slice : Expr) (pins : List (Addr × Obj)) (s : Shared) (σ : St) (H : Hp) (x y : V) (v u : Value) (Q : VK), Inv X pins σ H s → RelV x v → RelV y u → r x y H Q →
    subscripted slice false v u = operate [v, u] (getItem v u) → wpAny (model X.prog X.w) X.A (subscriptTail value slice v u) (EP X pins σ Q) X.xe s
def MtR (X : Cx) (id : String) (r : V → List V → Hp → VK → Prop) : Prop :=
  ∀ (pins : List (Addr × Obj)) (s : Shared) (σ : St) (H : Hp) (x : V) (xs : List V) (v : Value) (us : List Value) (Q : VK), Inv X pins σ H s → RelV x v → Vals xs us → r x xs H Q →
    wpAny (model X.prog X.w) X.A (call (.builtin id) (v :: us)) (EP X pins σ Q) X.xe s
section
variable {X : Cx} {a b : Expr} {ta tb : TE} {pos : Pos}
theorem IxR.or {r r' : R2} (h : IxR X r) (h' : IxR X r') : IxR X (fun x y H Q => r x y H Q ∨ r' x y H Q) := by
  intro value slice pins s σ H x y v u Q I rx ry q hs
  rcases q with q | q
  · exact h value slice pins s σ H x y v u Q I rx ry q hs
  · exact h' value slice pins s σ H x y v u Q I rx ry q hs
theorem MtR.or {id : String} {r r' : V → List V → Hp → VK → Prop} (h : MtR X id r) (h' : MtR X id r') : MtR X id (fun x xs H Q => r x xs H Q ∨ r' x xs H Q) := by
  intro pins s σ H x xs v us Q I rx rs q
  rcases q with q | q
  · exact h pins s σ H x xs v us Q I rx rs q
  · exact h' pins s σ H x xs v us Q I rx rs q
theorem pe_ix {r : R2} (hr : IxR X r) (ha : PE X a ta) (hb : PE X b tb) (hs : PlainIx b) : PE X (.Subscript a b pos) (tOp r ta tb) := by
  intro pins s σ H Q I h
  exact Subscript_ (binT ha hb I h fun v u s2 x y H2 I2 rx ry q => hr a b pins s2 σ H2 x y v u Q I2 rx ry q (hs _ _))
def rIxL (K : PySem.W.Frag) : R2 := fun x y H Q => ∃ p xs i v, x = .ref p ∧ y = .int i ∧ SqL K H p xs ∧ atI xs i = some v ∧ Q v H
def rIxT (K : PySem.W.Frag) : R2 := fun x y H Q => ∃ p xs i v, x = .ref p ∧ y = .int i ∧ SqT K H p xs ∧ atI xs i = some v ∧ Q v H
theorem ix_list : IxR X (rIxL X.K) := by
  intro value slice pins s σ H x y v u Q I rx ry h hs
  obtain ⟨p, xs, i, z, rfl, rfl, hq, he, q⟩ := h
  cases rx
  obtain ⟨t, rfl⟩ := ry
  obtain ⟨its, r, pl, hz⟩ := I.list hq
  obtain ⟨j, h1, h2, h3, h4, h5⟩ := atI_get he
  obtain ⟨w, ew, rw'⟩ := r.get h2
  have hl := r.length
  have hn := line63
  have fin : EP X pins σ Q w s := ⟨z, H, I, rw', q⟩
  by_cases h0 : 0 ≤ i
  · have hj : i.toNat = j := by
      rw [seqIndex_of h0 h5] at h1
      exact Option.some.inj h1
    exact item_listR pl.isList h0 (by omega) (by rw [hj]; simpa using ew) fin hs
  · have hj : (i + (its.toArray.size : Int)).toNat = j := by
      rw [seqIndex_neg (by omega) h4] at h1
      rw [List.size_toArray, ← hl]
      exact Option.some.inj h1
    exact subscriptTail_builtinR (x := w) pl.isList.typeIs slot_list_getitem.lookup
      (wpAny_getItem_list_neg (Q := fun r s' => r = w ∧ EP X pins σ Q r s') pl.isList (by omega) (by rw [List.size_toArray] <;> omega) (by omega) (by rw [hj]; simpa using ew) ⟨rfl, fin⟩) hs
theorem mapSeq_set (its : List Value) (n j : Nat) (u : Value) : Obj.mapSeq (·.setIfInBounds j u) { cls := .type "list", data := .seq its.toArray n } = { cls := .type "list", data := .seq (its.set j u).toArray n } := by
  simp [Obj.mapSeq]
theorem Inv.lst {pins : List (Addr × Obj)} {σ : St} {H : Hp} {s : Shared} {p : Addr} {xs : List V} (I : Inv X pins σ H s) (h : H p = some (.lst xs)) :
    ∃ (its : List Value) (n : Nat), Vals xs its ∧ s.heap.get? p = some { cls := .type "list", data := .seq its.toArray n } ∧ xs.length ≤ sizeLine := by
  obtain ⟨z, its, n, r, e⟩ := I.hok p _ h
  exact ⟨its, n, r, e, z⟩
theorem Inv.lstUpd {pins : List (Addr × Obj)} {σ : St} {H : Hp} {s : Shared} {p : Addr} {xs ys : List V} {its its' : List Value} {n n' : Nat} {f : Obj → Obj} (I : Inv X pins σ H s) (h : H p = some (.lst xs))
    (ho : s.heap.get? p = some { cls := .type "list", data := .seq its.toArray n }) (hf : f { cls := .type "list", data := .seq its.toArray n } = { cls := .type "list", data := .seq its'.toArray n' }) (r : Vals ys its') (hz : ys.length ≤ sizeLine) (t : Nat) :
    Inv X pins σ (upd H p (.lst ys)) { s with heap := s.heap.update p f, toks := t } := by
  have e : (s.heap.update p f).get? p = some { cls := .type "list", data := .seq its'.toArray n' } := by
    rw [Heap.get?_update_self f ho (by rw [hf] <;> rfl), hf]
  refine I.write (x := p) (e := p) (by rw [h]; trivial) (.inl rfl) (fun b u hb q => (Heap.get?_update_other _ _ (Ne.symm hb)).trans q) ⟨_, e⟩ ?_
  exact ⟨hz, its', n', r, e⟩
def rSetL : V → V → V → Hp → (Hp → Prop) → Prop := fun o i v H Q => ∃ p xs k j, o = .ref p ∧ i = .int k ∧ H p = some (.lst xs) ∧ ixN xs.length k = some j ∧ Q (upd H p (.lst (xs.set j v)))
theorem set_list : PSet X rSetL := by
  intro pins s σ H o i v ov iv u Q I ro ri rv h
  obtain ⟨p, xs, k, j, rfl, rfl, hp, hj, q⟩ := h
  cases ro
  obtain ⟨t, rfl⟩ := ri
  obtain ⟨its, n, r, ho, hz⟩ := I.lst hp
  obtain ⟨h1, h2, h3, h4⟩ := ixN_seq hj
  have hl := r.length
  have hn := line63
  have I' : Inv X pins σ (upd H p (.lst (xs.set j v))) { s with heap := s.heap.update p (Obj.mapSeq (·.setIfInBounds j u)) } :=
    I.lstUpd hp ho (mapSeq_set its n j u) (r.set rv j) (by rw [List.length_set]; exact hz) s.toks
  by_cases h0 : 0 ≤ k
  · have hk : k.toNat = j := by
      rw [seqIndex_of h0 h4] at h1
      exact Option.some.inj h1
    exact PySem.W.ki_setAt ho h0 (by omega) (by rw [List.size_toArray, ← hl]; exact h4) (by rw [hk]; exact ⟨_, I', q⟩)
  · have hk : (k + (its.toArray.size : Int)).toNat = j := by
      rw [seqIndex_neg (by omega) h3] at h1
      rw [List.size_toArray, ← hl]
      exact Option.some.inj h1
    exact PySem.W.ki_setBack ho (by omega) (by rw [List.size_toArray, ← hl]; exact h3) (by omega) (by rw [hk]; exact ⟨_, I', q⟩)
theorem slice_bounds (lo hi : Option Int) (n : Nat) : (sliceBounds lo hi none n).1 = ((HT.sIx n 0 lo : Nat) : Int) ∧ (sliceBounds lo hi none n).2.1 = ((HT.sIx n n hi : Nat) : Int) ∧ (sliceBounds lo hi none n).2.2 = 1 := by
  refine ⟨?_, ?_, rfl⟩
  · cases lo with
    | none => simp [sliceBounds, HT.sIx]
    | some i =>
      simp only [sliceBounds, HT.sIx, Option.getD_none, show (1 : Int) > 0 by decide, if_true]
      by_cases h : i < 0
      · simp only [h, if_true] <;> omega
      · simp only [h, if_false] <;> omega
  · cases hi with
    | none => simp [sliceBounds, HT.sIx]
    | some i =>
      simp only [sliceBounds, HT.sIx, Option.getD_none, show (1 : Int) > 0 by decide, if_true]
      by_cases h : i < 0
      · simp only [h, if_true] <;> omega
      · simp only [h, if_false] <;> omega
theorem slicePick_cut (its : List Value) (lo hi : Option Int) : slicePick its.toArray lo hi none = ((its.drop (HT.sIx its.length 0 lo)).take (HT.sIx its.length its.length hi - HT.sIx its.length 0 lo)).toArray := by
  obtain ⟨h1, h2, h3⟩ := slice_bounds lo hi its.toArray.size
  unfold slicePick
  rw [h1, h2, h3]
  simp only [sliceRange_one, pick_run, List.size_toArray] <;> rfl
def rSlL (K : PySem.W.Frag) : V → Option Int → Option Int → Hp → VK → Prop := fun x lo hi H Q => ∃ a xs, x = .ref a ∧ SqL K H a xs ∧ ∀ p, H p = none → Q (.ref p) (upd H p (.lst (cutV xs lo hi)))
theorem sl_list : SlR X (rSlL X.K) := by
  intro pins s σ H x v vl vu lo hi sl Q I rx hs pl pu h
  obtain ⟨a, xs, rfl, hx, q⟩ := h
  cases rx
  obtain ⟨its, r, ht, hz⟩ := I.list hx
  have hlen := r.length
  refine ⟨"list", _, slot_list_getitem.lookup, ht.isList.typeIs, ?_⟩
  refine wpAny_getItem_list_slice ht.isList hs pl pu .none (by simp) ?_ (by rw [List.size_toArray] <;> omega)
  rw [slicePick_cut, ← hlen]
  refine ⟨.ref s.heap.objs.size, _, I.laid (t' := s.toks) (o := .lst (cutV xs lo hi)) (fun b ob q => Heap.get?_push_of_some _ q) (Nat.le_refl _) ?_, rfl, q _ (I.hok.fresh (Nat.le_refl _))⟩
  exact ⟨Nat.le_trans (cutV_length xs lo hi) hz, _, 0, (r.drop (HT.sIx xs.length 0 lo)).take (HT.sIx xs.length xs.length hi - HT.sIx xs.length 0 lo), Heap.get?_push_size _ rfl⟩
theorem call_len_seq : CallR X (.builtin "len") (fun xs H Q => ∃ p ys, xs = [.ref p] ∧ (SqL X.K H p ys ∨ SqT X.K H p ys) ∧ Q (.int ys.length) H) := by
  intro pins s σ H xs us Q I r h
  obtain ⟨p, ys, rfl, hq, q⟩ := h
  obtain ⟨u, rfl, rx⟩ := vals1 r
  cases rx
  have hn := line63
  rcases hq with hq | hq
  · obtain ⟨its, r', pl, hz⟩ := I.list hq
    have hlen := r'.length
    exact Calls.call_len_list pl.isList (by simp only [List.size_toArray] <;> omega) ⟨.int ys.length, H, I.tok _, ⟨s.toks + 1, by rw [List.size_toArray, hlen]⟩, q⟩
  · obtain ⟨its, r', pl, hz⟩ := I.tuple hq
    have hlen := r'.length
    exact len_tuple pl (by simp only [List.size_toArray] <;> omega) ⟨.int ys.length, H, I.tok _, ⟨s.toks + 1, by rw [List.size_toArray, hlen]⟩, q⟩
theorem CallR.or {f : Value} {r r' : List V → Hp → VK → Prop} (h : CallR X f r) (h' : CallR X f r') : CallR X f (fun xs H Q => r xs H Q ∨ r' xs H Q) := by
  intro pins s σ H xs us Q I rs q
  rcases q with q | q
  · exact h pins s σ H xs us Q I rs q
  · exact h' pins s σ H xs us Q I rs q
theorem call_list_of : CallR X (.type "list") (fun xs H Q => ∃ p ys, xs = [.ref p] ∧ (SqL X.K H p ys ∨ SqT X.K H p ys) ∧ ∀ l, H l = none → Q (.ref l) (upd H l (.lst ys))) := by
  intro pins s σ H xs us Q I r h
  obtain ⟨p, ys, rfl, hq, q⟩ := h
  obtain ⟨u, rfl, rx⟩ := vals1 r
  cases rx
  have fin : ∀ (its : List Value), Vals ys its → ys.length ≤ sizeLine → ∀ (h' : Heap) (c' : Nat), (∀ b o', s.heap.get? b = some o' → h'.get? b = some o') →
      h'.get? s.heap.objs.size = some { cls := .type "list", dict := none, data := .seq its.toArray c', slots := #[] } → EP X pins σ Q (.ref s.heap.objs.size) { s with heap := h' } := fun its r' hz h' c' kp e =>
    ⟨.ref s.heap.objs.size, _, I.laid (t' := s.toks) kp (Nat.le_refl _) (show ObjOk X.prog X.w _ h' _ (.lst ys) from ⟨hz, its, c', r', e⟩), rfl, q _ (I.hok.fresh (Nat.le_refl _))⟩
  rcases hq with hq | hq
  · obtain ⟨its, r', pl, hz⟩ := I.list hq
    have hlen := r'.length
    obtain ⟨o, ho, hc, n, hd⟩ := pl.isList
    exact call_list_seq p (.inl rfl) ho hc hd (fun h' c' kp e => fin its r' hz h' c' kp e) (by simp only [List.size_toArray] <;> omega)
  · obtain ⟨its, r', pl, hz⟩ := I.tuple hq
    have hlen := r'.length
    obtain ⟨o, ho, hc, n, hd⟩ := pl
    exact call_list_seq p (.inr rfl) ho hc hd (fun h' c' kp e => fin its r' hz h' c' kp e) (by simp only [List.size_toArray] <;> omega)
def tyV (K : PySem.W.Frag) (T : String) (x : V) (H : Hp) : Prop := match x with
  | .str _ => T = "str"
  | .int _ => T = "int"
  | .ref p => (T = "list" ∧ ∃ xs, SqL K H p xs) ∨ (T = "tuple" ∧ ∃ o, K.lookup p = some o ∧ o.cls = .type "tuple" ∧ o.dict = none) ∨
      (T = "dict" ∧ ((∃ kvs, H p = some (.dK kvs)) ∨ ∃ kvs, H p = some (.dT kvs))) ∨ (T = "set" ∧ ∃ S n, H p = some (.set S n))
  | _ => False
theorem tyV_is {pins : List (Addr × Obj)} {σ : St} {H : Hp} {s : Shared} {T : String} {x : V} {v : Value} (I : Inv X pins σ H s) (r : RelV x v) (ty : tyV X.K T x H) :
    s.TypeIs v T ∧ ∀ a, v = .ref a → ∃ ob, s.heap.get? a = some ob ∧ ob.dict = none := by
  cases x with
  | str z =>
    obtain ⟨t, rfl⟩ := r
    cases (show T = "str" from ty)
    exact ⟨typeIs_str s z t, fun _ e => nomatch e⟩
  | int i =>
    obtain ⟨t, rfl⟩ := r
    cases (show T = "int" from ty)
    exact ⟨typeIs_int s i t, fun _ e => nomatch e⟩
  | ref p =>
    cases r
    rcases ty with ⟨rfl, xs, hq⟩ | ⟨rfl, o, hk, hc, hd⟩ | ⟨rfl, hk⟩ | ⟨rfl, S, n, hk⟩
    · obtain ⟨its, _, pl, _⟩ := I.list hq
      refine ⟨pl.isList.typeIs, fun a e => ?_⟩
      cases e
      obtain ⟨o, n, e, c, hd, _⟩ := pl
      exact ⟨o, e, hd⟩
    · refine ⟨⟨o, I.kIn p o hk, hc⟩, fun a e => ?_⟩
      cases e
      exact ⟨o, I.kIn _ o hk, hd⟩
    · have z : ∃ o, s.heap.get? p = some o ∧ o.ExactDict := by
        rcases hk with ⟨kvs, hk⟩ | ⟨kvs, hk⟩
        · obtain ⟨_, _, _, _, o, _, _, e, ex, _⟩ := I.hok p _ hk
          exact ⟨o, e, ex⟩
        · obtain ⟨_, _, _, _, o, _, _, e, ex, _⟩ := I.hok p _ hk
          exact ⟨o, e, ex⟩
      obtain ⟨o, e, ex⟩ := z
      refine ⟨⟨o, e, ex.1⟩, fun a e2 => ?_⟩
      cases e2
      exact ⟨o, e, ex.2.1⟩
    · obtain ⟨o, _, _, _, e, ex, _⟩ := I.hok p _ hk
      refine ⟨⟨o, e, ex.1⟩, fun a e2 => ?_⟩
      cases e2
      exact ⟨o, e, ex.2.1⟩
  | _ => exact False.elim ty
def tBM0 (K : PySem.W.Frag) (T : String) (r : V → List V → Hp → VK → Prop) (to : TE) : TE := fun σ H Q => to σ H fun x H1 => tyV K T x H1 ∧ r x [] H1 Q
def tBM (K : PySem.W.Frag) (T : String) (r : V → List V → Hp → VK → Prop) (to : TE) (t : TA) : TE := fun σ H Q => to σ H fun x H1 => tyV K T x H1 ∧ t σ H1 fun xs H2 => r x xs H2 Q
variable {o e : Expr} {es : List Expr} {to : TE} {t : TA} {name : Str} {apos cpos : Pos} {T id : String} {r : V → List V → Hp → VK → Prop}
theorem pe_bm0 (pa : PlainAttrs T) (slot : Slot T name id) (hty : typeOf (.builtin id) = pure (.type "method_descriptor")) (hm : MtR X id r) (ho : PE X o to)
    (hbase : attributeBase o name X.env (eval o X.env) = eval o X.env := by rfl) (hline : (apos.endLine == cpos.line) = true := by rfl) : PE X (.Call (.Attribute o name apos) [] [] cpos) (tBM0 X.K T r to) := by
  intro pins s σ H Q I h
  refine wpAny_Call_method0_late hbase hline (thn (ho pins s σ H _ I h) fun v s1 ⟨x, H1, I1, r1, ty, q1⟩ => ?_)
  obtain ⟨h1, h2⟩ := tyV_is I1 r1 ty
  exact ⟨T, id, pa, slot, hty, h1, h2, Calls.callWith_builtin rfl (PySem.evalArgs_none (hm pins s1 σ H1 x [] v [] Q I1 r1 .nil q1))⟩
theorem pe_bm (pa : PlainAttrs T) (slot : Slot T name id) (hty : typeOf (.builtin id) = pure (.type "method_descriptor")) (hm : MtR X id r) (ho : PE X o to) (ha : PA X (e :: es) t)
    (hbase : attributeBase o name X.env (eval o X.env) = eval o X.env := by rfl)
    (hfew : ((backTo cpos (starEach (e :: es) X.env)).all (fun x => !x.1) && (backToKw cpos (keywordEach [] X.env)).all (fun x => x.1.isSome)
      && decide ((e :: es).length + ([] : List Keyword).length + (if ([] : List Keyword).isEmpty then 0 else 1) < 30)) = true := by rfl)
    (hline : (apos.endLine == cpos.line) = true := by rfl) (hs : starEach (e :: es) X.env = (false, eval e X.env) :: starEach es X.env := by rfl) (hplain : (backTo cpos (starEach es X.env)).any (·.1) = false := by rfl) :
    PE X (.Call (.Attribute o name apos) (e :: es) [] cpos) (tBM X.K T r to t) := by
  intro pins s σ H Q I h
  refine wpAny_Call_method_late hbase hfew hline rfl (thn (ho pins s σ H _ I h) fun v s1 ⟨x, H1, I1, r1, ty, q1⟩ => ?_)
  obtain ⟨h1, h2⟩ := tyV_is I1 r1 ty
  refine ⟨T, id, pa, slot, hty, h1, h2, ?_⟩
  have hA := ha cpos pins s1 σ H1 _ I1 q1
  rw [hs] at hA ⊢
  refine Calls.callWith_builtin (by show (false || (backTo cpos (starEach es X.env)).any (·.1)) = false; rw [hplain] <;> rfl) (Calls.evalArgs_plain ?_)
  exact thn hA fun us s2 ⟨vs, H2, I2, r2, q2⟩ => hm pins s2 σ H2 x vs v us Q I2 r1 r2 q2
/- xs.append(e), list.index on a module's tuple .. are MtR facts of 06m -/
end
end L2
namespace L2
open PySem PySem.Spec PyProof.Rows
def MtM (X : Cx) (id : String) (r : V → List V → Hp → VK → Prop) : Prop :=
  ∀ (pins : List (Addr × Obj)) (s : Shared) (σ : St) (H : Hp) (x : V) (xs : List V) (v : Value) (us : List Value) (Q : VK), Inv X pins σ H s → RelV x v → Vals xs us → r x xs H Q →
    wpAny (model X.prog X.w) X.A (call (.builtin id) (v :: us)) (EP X pins σ Q) X.xe s
theorem Vals.one : ∀ {x : V} {us : List Value}, Vals [x] us → ∃ u, us = [u] ∧ RelV x u
  | _, _, .cons r .nil => ⟨_, rfl, r⟩
theorem Vals.two : ∀ {x y : V} {us : List Value}, Vals [x, y] us → ∃ u v, us = [u, v] ∧ RelV x u ∧ RelV y v
  | _, _, _, .cons r (.cons q .nil) => ⟨_, _, rfl, r, q⟩
theorem Vals.zero : ∀ {us : List Value}, Vals [] us → us = []
  | _, .nil => rfl
theorem Vals.dropLast {xs : List V} {us : List Value} (h : Vals xs us) : Vals xs.dropLast us.dropLast := by
  induction h with
  | nil => exact .nil
  | cons r t ih =>
    cases t with
    | nil => exact .nil
    | cons q t' => exact .cons r ih
theorem Vals.eraseIdx : ∀ {xs : List V} {us : List Value} (i : Nat), Vals xs us → Vals (xs.eraseIdx i) (us.eraseIdx i)
  | _, _, _, .nil => .nil
  | _, _, 0, .cons _ t => t
  | _, _, i + 1, .cons r t => .cons r (Vals.eraseIdx i t)
theorem Vals.reverse {xs : List V} {us : List Value} (h : Vals xs us) : Vals xs.reverse us.reverse := by
  induction h with
  | nil => exact .nil
  | cons r t ih => rw [List.reverse_cons, List.reverse_cons]; exact Vals.append ih (.cons r .nil)
theorem Vals.rep {xs : List V} {us : List Value} (h : Vals xs us) : ∀ k : Nat, Vals (List.replicate k xs).flatten (List.replicate k us).flatten
  | 0 => .nil
  | k + 1 => by
    rw [List.replicate_succ, List.replicate_succ, List.flatten_cons, List.flatten_cons]
    exact Vals.append h (Vals.rep h k)
theorem erase_last {α : Type} (l : List α) : l.eraseIdx (l.length - 1) = l.dropLast := by
  induction l with
  | nil => rfl
  | cons a r ih =>
    cases r with
    | nil => rfl
    | cons b r =>
      have e : (a :: b :: r).length - 1 = ((b :: r).length - 1) + 1 := by
        have h1 : (a :: b :: r).length = r.length + 2 := rfl
        have h2 : (b :: r).length = r.length + 1 := rfl
        omega
      rw [e, List.eraseIdx_cons_succ, ih]
      all_goals rfl
section
variable {X : Cx} {pins : List (Addr × Obj)} {σ : St} {H : Hp} {s : Shared} {l b : Addr} {xs ys zs : List V}
theorem Inv.lset {its its' : List Value} {n : Nat} {f : Array Value → Array Value} {t' : Nat} (I : Inv X pins σ H s) (hH : H l = some (.lst xs))
    (e : s.heap.get? l = some { cls := .type "list", data := .seq its.toArray n }) (hf : f its.toArray = its'.toArray) (hv : Vals ys its') (hz : ys.length ≤ sizeLine) :
    Inv X pins σ (upd H l (.lst ys)) { s with heap := s.heap.update l (Obj.mapSeq f), toks := t' } := by
  have q := PySem.IsL.update e f
  rw [hf] at q
  refine I.write (x := l) (e := l) (by rw [hH]; exact trivial) (.inl rfl) (fun b' u hb hu => (Heap.get?_update_other s.heap (Obj.mapSeq f) (Ne.symm hb)).trans hu) ⟨_, q⟩ ?_
  exact ⟨hz, its', _, hv, q⟩
theorem Inv.lnew {its : List Value} {t' : Nat} (I : Inv X pins σ H s) (hv : Vals ys its) (hz : ys.length ≤ sizeLine) :
    Inv X pins σ (upd H s.heap.objs.size (.lst ys)) { s with heap := s.heap.push { cls := .type "list", data := .seq its.toArray }, toks := t' } :=
  I.laid (fun _ _ q => Heap.get?_push_of_some _ q) (Nat.le_refl _) ⟨hz, its, 0, hv, Heap.get?_push_size _ rfl⟩
theorem Inv.fresh (I : Inv X pins σ H s) : H s.heap.objs.size = none := I.hok.fresh (Nat.le_refl _)
theorem Inv.lstM (I : Inv X pins σ H s) (hH : H l = some (.lst xs)) : xs.length ≤ sizeLine ∧ ∃ (its : List Value) (n : Nat), Vals xs its ∧ xs.length = its.length ∧ s.heap.get? l = some { cls := .type "list", data := .seq its.toArray n } := by
  obtain ⟨z, its, n, r, e⟩ := I.hok l _ hH
  exact ⟨z, its, n, r, r.length, e⟩
end
section
variable {X : Cx}
def rAppend : V → List V → Hp → VK → Prop := fun x vs H Q => ∃ l xs y, x = .ref l ∧ vs = [y] ∧ H l = some (.lst xs) ∧ xs.length < sizeLine ∧ Q .non (upd H l (.lst (xs ++ [y])))
theorem mt_append : MtM X "list.append" rAppend := by
  intro pins s σ H x vs v us Q I rx rv h
  obtain ⟨l, xs, y, rfl, rfl, hH, hz, q⟩ := h
  cases rx
  obtain ⟨u, rfl, ru⟩ := rv.one
  obtain ⟨z, its, n, r, hl, e⟩ := I.lstM hH
  refine call_meets F.slot_list_append ⟨_, e, rfl⟩ F.entry_list_append (F.args_list_append_2 _ _) (PySem.list_append l its.toArray n u (by rw [List.size_toArray]; omega)) ⟨e, ?_⟩
  refine ⟨.non, _, I.lset (its' := its ++ [u]) hH e (by simp) (r.append (.cons ru .nil)) ?_, rfl, q⟩
  rw [List.length_append, List.length_singleton]
  omega
def rPop : V → List V → Hp → VK → Prop := fun x vs H Q => ∃ l xs y, x = .ref l ∧ vs = [] ∧ H l = some (.lst xs) ∧ xs[xs.length - 1]? = some y ∧ Q y (upd H l (.lst xs.dropLast))
theorem mt_pop : MtM X "list.pop" rPop := by
  intro pins s σ H x vs v us Q I rx rv h
  obtain ⟨l, xs, y, rfl, rfl, hH, hy, q⟩ := h
  cases rx
  have hus := rv.zero
  subst hus
  obtain ⟨z, its, n, r, hl, e⟩ := I.lstM hH
  obtain ⟨u, hu, ru⟩ := r.get hy
  have hy' : its.toArray[its.toArray.size - 1]? = some u := by
    show its.toArray[its.length - 1]? = some u
    rw [← Array.getElem?_toList, ← hl]
    exact hu
  refine call_meets F.slot_list_pop ⟨_, e, rfl⟩ F.entry_list_pop (F.args_list_pop_1 _) (MeetsSeq.list_pop_last l its.toArray n u hy' (by rw [List.size_toArray]; omega)) ⟨e, ?_⟩
  refine ⟨y, _, I.lset (its' := its.dropLast) hH e ?_ r.dropLast ?_, ru, q⟩
  · show its.toArray.eraseIdxIfInBounds (its.toArray.size - 1) = its.dropLast.toArray
    rw [List.size_toArray, List.eraseIdxIfInBounds_toArray, erase_last]
  · rw [List.length_dropLast]
    omega
end
end L2
namespace Att
open PySem PySem.W PySem.Calls PyProof.Rows
theorem ints_of_wellAll {P : Params} {h : Heap} : ∀ (ns : List Int) (vs : List Value), WellAll P h vs (ns.map WData.int) → IntsAre vs ns := by
  intro ns
  induction ns with
  | nil =>
    intro vs w
    rw [List.map_nil] at w
    cases w
    exact .nil
  | cons n ns ih =>
    intro vs w
    rw [List.map_cons] at w
    cases w with
    | cons a b =>
      cases a
      exact .cons _ _ (ih _ b)
theorem script_of {l : OpenLaw} {n : Nat} (hn : l.most = some n) {P : Params} {h : Heap} {args : List WData} {vals : List Value}
    (hpre : l.row.toRowW.claim.pre args = true) (hwl : WellAll P h vals args) :
    ∃ a vs ns, vals = [Value.ref a] ∧ args = [WData.list (ns.map WData.int)] ∧ h.get? a = some { cls := .type "list", data := .seq vs.toArray } ∧ IntsAre vs ns ∧ ns.length ≤ n := by
  have hsh : WShape.hasAll [] args [.list .int] = true := (pre_splitW hpre).1
  have hc : l.pre.holds [] { args := args } = true := (pre_splitW hpre).2
  obtain ⟨d, r, rfl, h1, h2⟩ := hasAllW_cons hsh
  obtain rfl := hasAllW_nil h2
  obtain ⟨xs, rfl, h3⟩ := hasW_list h1
  obtain ⟨ns, rfl⟩ := items_int h3
  have hlen : ns.length ≤ n := by
    unfold OpenLaw.pre at hc
    have h4 : (WTm.not (.lt (.lit (.int (n : Int))) (.len (.arg 0)))).holds [] { args := [.list (ns.map .int)] } = true := by
      have h4 := (holds_andW hc).1
      rw [hn] at h4
      exact h4
    have h5 := condW_of h4 (w_not (w_lt w_lit (w_len_list (w_arg rfl))))
    rw [List.length_map] at h5
    refine Nat.le_of_not_lt fun q => ?_
    have q' : (n : Int) < ((ns.length : Nat) : Int) := by omega
    first
      | (rw [decide_eq_true q'] at h5; exact absurd h5 (by decide))
      | (simp at h5; omega)
  cases hwl with
  | cons w1 w2 =>
    cases w2
    cases w1 with
    | list ho hall => exact ⟨_, _, ns, rfl, rfl, ho, ints_of_wellAll ns _ hall, hlen⟩
theorem post_true (l : OpenLaw) (args : List WData) : l.row.toRowW.claim.post args (.bool true) args = true :=
  postW_of (r := l.row.toRowW) (X := (true == true))
    (show WShape.has [] (.bool true) .bool = true by first | rfl | decide | simp [WShape.has, WShape.arms, WShape.armsAll])
    (show (WTm.eq .res (.lit (.bool true))).value [] { args := args, res := some (.bool true), after := args } = some (.bool (true == true)) from w_eq_bool (w_res rfl) w_lit) rfl
theorem attach_call {l : OpenLaw} {n : Nat} {q : Program} {loose : List Str} {XP : (Str → Option Value) → Heap → Prop} {YP : World → Heap → Prop} {d : DefRec}
    (hn : l.most = some n) (hdf : d.params.defaults = [])
    (call : ∀ (w : World) (s₀ s₁ : Shared) (mg mb : Str → Option Value) (fa : Addr) (o : Obj) (pm cd doc : Value) (a : Addr) (vs : List Value) (ns : List Int),
      Ground q loose [] XP w s₀ mg mb s₁.heap → YP w s₁.heap →
      s₁.heap.get? fa = some o → o.data = .func (docDef d.name d.params d.body d.scope pm cd doc) → s₁.heap.CodeRec cd d.name → mg d.name = some (.ref fa) →
      s₁.heap.get? a = some { cls := .type "list", data := .seq vs.toArray } → IntsAre vs ns → ns.length ≤ n → s₁.gens = #[] →
      codeAny (model l.prog w) callerA (.call (.ref fa) ⟨[.ref a], []⟩) (fun r s' => r = .ok (.ret (.bool true)) ∧ OldK s₁.heap s'.heap ∧ s'.os = s₁.os ∧ AllBare s'.gens) s₁) :
    WalkO q loose XP YP l.row.toRowW d [] (fun f vs => PySem.call f vs) := by
  intro w s₀ s₁ mg mb G Y fa o pm cd doc dV kV ho hd hcd hD hmg hg args vals as hpre hlay hrd hwl hlo
  obtain rfl : dV = .none := Dflts.none hD hdf
  obtain rfl : kV = .none := Dflts.noKw hD
  obtain ⟨a, vs, ns, rfl, rfl, hobj, hints, hlen⟩ := script_of hn hpre hwl
  refine enter_call (codeAny_mono (call w s₀ s₁ mg mb fa o pm cd doc a vs ns G Y ho (fd_plain hd) hcd hmg hobj hints hlen hg) fun r s' hq => ?_)
  obtain ⟨rfl, h2, h3, h4⟩ := hq
  exact ⟨.inl ⟨.bool true, .bool true, [], rfl, fun _ => rfl, .bool true, post_true l _, fun _ => ⟨List.Pairwise.nil, fun _ hm => (nomatch hm)⟩⟩, h2, h3, h4⟩
section
variable {prog : Program} {w : World} {A : Around} {E : Value → Shared → Prop} {s : Shared} {K : Frag}
def noObjs (h : Heap) : Heap := { h with objs := #[] }
theorem noObjs_get (h : Heap) (b : Addr) : (noObjs h).get? b = none := by
  cases e : (noObjs h).get? b with
  | none => rfl
  | some o => exact absurd (Heap.lt_size e) (Nat.not_lt_zero _)
def ledger (h : Heap) (L d : Addr) : List (Addr × Obj) := (List.range h.objs.size).filterMap fun a => if a = L ∨ a = d then none else (h.get? a).map fun o => (a, o)
theorem mem_ledger {h : Heap} {L d a : Addr} {o : Obj} : (a, o) ∈ ledger h L d ↔ a ≠ L ∧ a ≠ d ∧ h.get? a = some o := by
  unfold ledger
  rw [List.mem_filterMap]
  constructor
  · rintro ⟨b, _, e⟩
    split at e
    · cases e
    · rename_i hb
      obtain ⟨o', ho, e'⟩ := Option.map_eq_some_iff.mp e
      cases e'
      exact ⟨fun q => hb (.inl q), fun q => hb (.inr q), ho⟩
  · rintro ⟨n1, n2, ho⟩
    refine ⟨a, List.mem_range.mpr (Heap.lt_size ho), ?_⟩
    rw [if_neg (show ¬ (a = L ∨ a = d) from fun q => q.elim n1 n2), ho] <;> rfl
theorem news_ledger {h : Heap} {L d : Addr} {od : Obj} (hne : d ≠ L) (ho : h.get? d = some od) : News (noObjs h) L h ([] ++ (d, od) :: ledger h L d) := by
  rintro ⟨a, o⟩ hp
  rcases List.mem_cons.mp hp with e | hp
  · cases e
    exact ⟨ho, hne, noObjs_get _ _⟩
  · obtain ⟨n1, n2, e⟩ := mem_ledger.mp hp
    exact ⟨e, n1, noObjs_get _ _⟩
theorem fr_all {h : Heap} {L : Addr} {m : Str → Option Value} (n : h.Ns L m) : Fr (noObjs h) L h m :=
  ⟨n, fun b o e => (by rw [noObjs_get] at e; cases e), Nat.zero_le _⟩
theorem set_field {x C dx L : Addr} {ox : Obj} {m : Str → Option Value} {es es' : List DictEntry} {n n' : Nat} {name : Str} {v : Value} {Q : Unit → Shared → Prop}
    (X : K.In s.heap) (I : PySem.W.InstAt s.heap x ox C (some (dictOf es n))) (hd : ox.dict = some dx) (hL : s.heap.Ns L m) (hne : dx ≠ L)
    (hs : findIn K (.ref C) "__setattr__" = some (some (.builtin "object.__setattr__"))) (hp : plainOver K C = true) (ht : takerIn K C name = some none) (hh : hasDictIn K C = true) (hl : (getL name es).isSome = true)
    (e : (putL name (PyData.keyHash w.params name) (.str name (s.toks + 1)) v es, putN name es n) = (es', n')) (hz : es'.length ≤ 1000)
    (h : ∀ h' : Heap, h'.Ns L m → h'.get? dx = some (dictOf es' n') → (∀ b o, b ≠ dx → b ≠ L → s.heap.get? b = some o → h'.get? b = some o) → Q () { s with heap := h', toks := s.toks + 2 }) :
    wpAny (model prog w) A (setAttr (.ref x) name v) Q E s := by
  obtain ⟨e1, e2⟩ := Prod.mk.inj e
  have hdx : s.heap.get? dx = some (dictOf es n) := by
    have := I.dict
    rw [hd] at this
    exact this
  refine set_plain X I hs (osa_dict (s := { s with toks := s.toks + 1 }) (h₀ := noObjs s.heap) (L := L) (m := m) (od := dictOf es n) (od' := dictOf es' n') (es := es') (n := n') (pre := []) (post := ledger s.heap L dx)
    (fr_all hL) (news_ledger hne hdx) X I hd hp ht hh hl (fun _ q => nomatch q) (fun ⟨_, _⟩ q => (mem_ledger.mp q).2.1) (by rw [putName_dict, e1, e2]) rfl hz fun h' F' N' => ?_)
  exact h h' F'.ns (N'.get (List.Mem.head _)) fun b o n1 n2 ho => N'.get (List.Mem.tail _ (mem_ledger.mpr ⟨n2, n1, ho⟩))
end
end Att
namespace L2
open PySem PySem.Spec PyProof.Rows
theorem vals_ints : ∀ {vs : List Value} {ns : List Int}, IntsAre vs ns → Vals (ns.map V.int) vs
  | _, _, .nil => .nil
  | _, _, .cons n t h => .cons ⟨t, rfl⟩ (vals_ints h)
def Only (H : Hp) : Prop := ∀ b, H b = none ∨ ∃ o xs, H b = some (.frz o (.lst xs))
theorem law_call {P : Program} {w : World} {K : PySem.W.Frag} {mg mb : Str → Option Value} {CX : CXT} {k : Nat} {fa a : Addr} {fd : FuncData} {x : Str} {sp : Sp} {s₁ : Shared} {vs : List Value} {ns : List Int}
    (KX : K.In s₁.heap) (hns : s₁.heap.Ns mainGlobals mg) (hb : s₁.heap.Ns builtinsNs mb) (hbb : ∀ x : Str, x ≠ "__name__" → mb x = bootBuiltins x) (hlim : s₁.heap.NoLimit) (hg : s₁.gens = #[])
    (ha : s₁.heap.get? a = some { cls := .type "list", data := .seq vs.toArray }) (hi : IntsAre vs ns) (hl : ns.length ≤ sizeLine) (hr : Room k callerA)
    (F : ∀ base : Heap, K.In base → base.Ns mainGlobals mg → FnOk P w K mg base CX k fa fd [x] sp) (hbind : ∀ (s : Shared) (u : Value), BindsTo s fd ⟨[u], []⟩ [(x, u)])
    (hsp : ∀ H : Hp, Only H → SqL K H a (ns.map V.int) → sp [.ref a] H (fun v _ => v = .bl true) fun _ _ _ => False)
    (hCX : ∀ H e s', CX [] H s₁ (fun _ _ _ => False) e s' → False) :
    codeAny (model P w) callerA (.call (.ref fa) ⟨[.ref a], []⟩) (fun r s' => r = .ok (.ret (.bool true)) ∧ OldK s₁.heap s'.heap ∧ s'.os = s₁.os ∧ AllBare s'.gens) s₁ := by
  have rv := vals_ints hi
  have lenV := hi.length
  -- from an abstract heap in which nothing but the script may be tracked
  have core : ∀ H : Hp, Only H → SqL K H a (ns.map V.int) → HOk P w H s₁.heap → (∀ b, H b ≠ none → b = a) → (H a ≠ none → K.lookup a = none) →
      codeAny (model P w) callerA (.call (.ref fa) ⟨[.ref a], []⟩) (fun r s' => r = .ok (.ret (.bool true)) ∧ OldK s₁.heap s'.heap ∧ s'.os = s₁.os ∧ AllBare s'.gens) s₁ := by
    intro H hO hS hok hA hK
    have base_of : ∀ {b : Addr} {o : Obj}, s₁.heap.get? b = some o → H b = none → (hidT s₁.heap H).get? b = some o := fun e n => hidT_get e n
    have noA : ∀ {b : Addr} {o : Obj} {es : Array DictEntry} {ep : Nat}, s₁.heap.get? b = some o → o.data = .dict es ep → H b = none := fun {b o es ep} e d => by
      cases q : H b with
      | none => rfl
      | some u =>
        have e' : b = a := hA b (by rw [q]; simp)
        subst e'
        rw [ha] at e; cases e
        have d' : Data.seq vs.toArray _ = Data.dict es ep := d
        cases d'
    have nsK : ∀ {b : Addr} {m : Str → Option Value}, s₁.heap.Ns b m → (hidT s₁.heap H).Ns b m := fun {b m} ⟨o, es, ep, e, d, r⟩ => ⟨o, es, ep, base_of e (noA e d), d, r⟩
    have hKb : K.In (hidT s₁.heap H) := fun b o e => base_of (KX b o e) (by
      cases q : H b with
      | none => rfl
      | some u =>
        have e' : b = a := hA b (by rw [q]; simp)
        subst e'
        rw [hK (by rw [q]; simp)] at e; cases e)
    have hM : Mod K mg (hidT s₁.heap H) := ⟨hKb, nsK hns, ⟨mb, nsK hb, hbb⟩, let ⟨mc, h1, h2⟩ := hlim; ⟨mc, nsK h1, h2⟩⟩
    have e0 : Env0 P w K mg (hidT s₁.heap H) callerA [] s₁ H := ⟨rfl, hM, fun b o e => of_hidT e, Nat.le_of_eq (hidT_size _ _), trivial, fun b hb => absurd (show b ∈ ([] : List Addr) from hb) (by simp), hok, .of_eq hg⟩
    refine codeAny_mono ((F _ hKb (nsK hns)).run callerA [] s₁ H ⟨[.ref a], []⟩ [.ref a] [.ref a] _ _ hr e0 (hbind s₁ (.ref a)) (.cons rfl .nil) (hsp H hO hS)) fun r s' h => ?_
    cases r with
    | error e => exact (hCX H e s' h).elim
    | ok fl =>
      cases fl with
      | next => exact False.elim h
      | brk => exact False.elim h
      | cont => exact False.elim h
      | ret u =>
        obtain ⟨v, H', os, bare, un, hok', r', q⟩ := h
        have q' : v = .bl true := q
        subst q'
        obtain rfl : u = Value.bool true := r'
        refine ⟨rfl, OldK.of_keep fun b o e => ?_, os, bare⟩
        cases q : H b with
        | none => exact un.keep b o e q (by intro z; exact absurd (show b ∈ ([] : List Addr) from z) (by simp)) (by simp)
        | some u =>
          rcases hO b with z | ⟨ob, xs, z⟩
          · rw [q] at z; cases z
          · have z2 := un.frzs b ob _ z
            obtain ⟨e1, _⟩ := hok b _ z
            obtain ⟨e2, _⟩ := hok' b _ z2
            rw [e] at e1; cases e1
            exact e2
  cases hk : K.lookup a with
  | some o =>
    -- the script is one of the module's own objects
    have e := KX a o hk
    rw [ha] at e
    cases e
    refine core (fun _ => none) (fun _ => .inl rfl) (.inr ⟨_, vs.toArray, _, hk, rfl, rfl, rfl, by rw [List.size_toArray, lenV]; exact hl, by simpa using rv⟩) (fun b u z => by have z' : (none : Option HO) = some u := z; cases z') (fun b z => absurd rfl z) fun z => absurd rfl z
  | none =>
    refine core (fun b => if b = a then some (.frz { cls := .type "list", data := .seq vs.toArray } (.lst (ns.map V.int))) else none) (fun b => ?_) (.inl (.inr ⟨{ cls := .type "list", data := .seq vs.toArray }, if_pos rfl⟩)) (fun b u z => ?_) (fun b z => ?_) fun _ => hk
    · by_cases hb : b = a
      · exact .inr ⟨_, _, if_pos hb⟩
      · exact .inl (if_neg hb)
    · by_cases hb : b = a
      · have z' := (if_pos hb).symm.trans z
        cases z'
        subst hb
        exact ⟨ha, by rw [List.length_map]; exact hl, vs, _, rv, ha⟩
      · have z' := (if_neg hb).symm.trans z
        cases z'
    · by_cases hb : b = a
      · exact hb
      · exact absurd (if_neg hb) z
end L2
namespace L2
open PySem PySem.Spec PyProof.Rows
abbrev KOf {K : PySem.W.Frag} {h : Heap} (_ : K.In h) : PySem.W.Frag := K
theorem walk_of {l : PySem.W.OpenLaw} {n k : Nat} {q : Program} {loose : List Str} {XP : (Str → Option Value) → Heap → Prop} {YP : World → Heap → Prop} {d : DefRec} {K : Params → PySem.W.Frag} {CX : World → CXT} {sp : World → Sp} {x : Str}
    (hn : l.most = some n) (hn2 : n ≤ sizeLine) (hdf : d.params.defaults = []) (hr : Room k callerA)
    (hY : ∀ (w : World) (h : Heap), YP w h → (K w.params).In h)
    (F : ∀ (w : World) (mg : Str → Option Value) (fa : Addr) (h : Heap), (K w.params).In h → h.Ns mainGlobals mg → mg d.name = some (.ref fa) →
      ∃ fd : FuncData, (∀ (s : Shared) (u : Value), BindsTo s fd ⟨[u], []⟩ [(x, u)]) ∧
        ∀ base : Heap, (K w.params).In base → base.Ns mainGlobals mg → FnOk l.prog w (K w.params) mg base (CX w) k fa fd [x] (sp w))
    (hsp : ∀ (w : World) (H : Hp) (a : Addr) (ns : List Int), ns.length ≤ n → Only H → SqL (K w.params) H a (ns.map V.int) → sp w [.ref a] H (fun v _ => v = .bl true) fun _ _ _ => False)
    (hCX : ∀ (w : World) (H : Hp) (s : Shared) (e : Value) (s' : Shared), CX w [] H s (fun _ _ _ => False) e s' → False) :
    PySem.W.WalkO q loose XP YP l.row.toRowW d [] (fun f vs => PySem.call f vs) := by
  refine Att.attach_call hn hdf fun w s₀ s₁ mg mb fa o pm cd doc a vs ns G Y ho hd hcd hmg hobj hints hlen hg => ?_
  have KX := hY w _ Y
  obtain ⟨fd, hb, hF⟩ := F w mg fa _ KX G.T.g hmg
  exact law_call KX G.T.g G.T.b G.T.builtins G.T.nolimit hg hobj hints (Nat.le_trans hlen hn2) hr hF hb (fun H hO hS => hsp w H a ns hlen hO hS) fun H e s' => hCX w H s₁ e s'
end L2
/- THE LAST THEOREM (shape; LID, My.* are yours):
   My.Adr: a structure of the addresses that your layer names (classes, functions); My.Txt K t: a structure (Prop) of the equations over K;
   My.txt_mk : {K} {implicit addresses ..} (e1 : nsIn K mainGlobals "law" = some (some (.ref f))) (e2 : K.lookup f = some ⟨oc, od, .func (fnOf "law" "law" params body scope dV kV doc pm an cdv ct), sl⟩) (e3 : codeIn K cdv "law" = true) .. : ∃ t, My.Txt K t
set_option maxRecDepth 100000 in
set_option maxHeartbeats 0 in
theorem PySem.Challenge.cw_LID_holds : PySem.Challenge.rw_LID.Holds := by
  w_on; o_law; k_head; (case hw => w_witness2)
  k_fill
  refine L2.walk_of (l := PySem.Challenge.rw_LID) (n := 63) (k := 40) (x := "script") (CX := fun w => ..) (sp := fun _ => My.sp_law) rfl (by decide) rfl ⟨rfl, by decide, by decide⟩ (fun w h Y => PySem.W.kIn_of Y) ?F ?S ?C
  case F =>
    intro w mg fa h KX G hmg
    have T : ∃ t, My.Txt (L2.KOf KX) t := by
      dsimp only [L2.KOf]                          -- K must stand as «<heap const> w.params» for k_is
      refine' My.txt_mk ?e1 ?e2 ?e3 ..
      (case e1 => PySem.W.k_is)                    -- in the order: a name -> its address -> its object -> its parts
      (case e2 => PySem.W.k_is)
      ..
    obtain ⟨t, T⟩ := T
    have e0 := hmg.symm.trans (PySem.W.mg_of KX G T.law)
    cases e0                                       -- fa is the law's own address
    exact ⟨_, fun s u => .of_eq rfl, fun base kb nb => My.law_fn T kb nb⟩     -- if «.of_eq rfl» comes too early: refine' ⟨_, ?b, fun base kb nb => My.law_fn T kb nb⟩; exact fun s u => .of_eq rfl
  case S => exact fun w H a ns hl hO hS => ..
  case C => exact ..
(the tactic k_is has no namespace: write k_is) -/
namespace L2
open PySem PySem.Spec PyProof.Rows
def defArgs (s : Stmt) : Arguments := match s with
  | .FunctionDef _ a _ _ _ _ _ _ _ _ => a
  | _ => { posonlyargs := [], args := [], vararg := none, kwonlyargs := [], kw_defaults := [], kwarg := none, defaults := [] }
def defBody (s : Stmt) : List Stmt := match s with
  | .FunctionDef _ _ b _ _ _ _ _ _ _ => b
  | _ => []
def defScope (s : Stmt) : Scope := match s with
  | .FunctionDef _ _ _ _ _ _ sc _ _ _ => sc
  | _ => { kind := .function, names := [], isGenerator := false, isCoroutine := false }
abbrev CX0 : CXT := fun _ _ _ _ _ _ => False
abbrev E0 : XK := fun _ _ _ => False
theorem pass0 {X : Cx} : Passes CX0 X E0 := fun _ _ _ _ _ _ _ h => h.elim
structure Fun (K : PySem.W.Frag) (x qual : Str) (st : Stmt) (f : Addr) (fd : FuncData) : Prop where
  ex : ∃ (oc : Value) (od : Option Addr) (kV doc pm : Value) (an : Option Addr) (cdv ct : Value) (osl : Array (Option Value)),
    fd = PySem.W.fnOf x qual (defArgs st) (defBody st) (defScope st) .none kV doc pm an cdv ct ∧ K.lookup f = some ⟨oc, od, .func fd, osl⟩ ∧ PySem.W.codeIn K cdv qual = true
  kp : PySem.W.keepIn K (.ref f) = true
section
variable {P : Program} {w : World} {K : PySem.W.Frag} {mg : Str → Option Value} {base : Heap}
theorem Fun.ok {x qual : Str} {st : Stmt} {f : Addr} {fd : FuncData} {N ps : List Str} {k : Nat} {sp : Sp} (F : Fun K x qual st f fd) (S : FnScope N ps (defScope st)) (len : ∀ vs H Q E, sp vs H Q E → vs.length = ps.length)
    (hbody : ∀ (cdv : Value) (A : Around) (outer : List Env) (s : Shared) (H : Hp) (vs : List V) (Q : VK) (E : XK), Room k (A.deeper (envOfC qual (defScope st) s.heap.objs.size f cdv)) → sp vs H Q E →
      ∃ t, PSs (cxOf CX0 P w K mg base N qual (defScope st) f cdv A outer s H E).nox (defBody st) t ∧ t { nx := fun _ H' => Q .non H', rt := Q } (start N vs) H) : FnOk P w K mg base CX0 (k + 1) f fd ps sp := by
  obtain ⟨oc, od, kV, doc, pm, an, cdv, ct, osl, rfl, lk, hcd⟩ := F.ex
  refine fn_of lk hcd S len fun A outer s H vs Q E hr hsp => ?_
  obtain ⟨t, h, q⟩ := hbody cdv A outer s H vs Q E hr hsp
  exact ⟨t, h.nox, q⟩
theorem Fun.binds {x qual : Str} {st : Stmt} {f : Addr} {fd : FuncData} {ps : List Str} (F : Fun K x qual st f fd)
    (h : ∀ (kV doc pm : Value) (an : Option Addr) (cdv ct : Value) (us : List Value), us.length = ps.length → bindArgs (PySem.W.fnOf x qual (defArgs st) (defBody st) (defScope st) .none kV doc pm an cdv ct) ⟨us, []⟩ = pure (ps.zip us)) : Binds K fd ps [] := by
  obtain ⟨oc, od, kV, doc, pm, an, cdv, ct, osl, rfl, lk, hcd⟩ := F.ex
  exact .all (h kV doc pm an cdv ct)
theorem fun_mk {x qual : Str} {st : Stmt} {f : Addr} {oc : Value} {od an : Option Addr} {osl : Array (Option Value)} {kV doc pm cdv ct : Value} (l : K.lookup f = some ⟨oc, od, .func (PySem.W.fnOf x qual (defArgs st) (defBody st) (defScope st) .none kV doc pm an cdv ct), osl⟩)
    (c : PySem.W.codeIn K cdv qual = true) (k : PySem.W.keepIn K (.ref f) = true) : Fun K x qual st f (PySem.W.fnOf x qual (defArgs st) (defBody st) (defScope st) .none kV doc pm an cdv ct) := ⟨⟨oc, od, kV, doc, pm, an, cdv, ct, osl, rfl, l, c⟩, k⟩
end
theorem small1000 {n : Nat} (h : n ≤ 1000) : n < sizeLine := Nat.lt_of_le_of_lt h (by decide)
section
variable {X : Cx}
theorem pv (i : Nat) {x : Str} {pos : Pos} (hN : X.N[i]? = some x := by rfl) (hv : Vis X.env.scope x := by first | exact Or.inl rfl | exact Or.inr (Or.inl rfl) | exact Or.inr (Or.inr rfl)) (hd : (x == ("__debug__" : Str)) = false := by decide)
    (hcd : (x == ("__classdict__" : Str)) = false := by decide) : PE X (.Name x pos) (tVar i) := pe_var hN hv hd hcd
end
def Same (H H' : Hp) : Prop := ∀ b o, H b = some o → H' b = some o
theorem Same.refl (H : Hp) : Same H H := fun _ _ h => h
theorem Same.trans {H H1 H2 : Hp} (a : Same H H1) (b : Same H1 H2) : Same H H2 := fun c o h => b c o (a c o h)
theorem Same.free {H H' : Hp} (e : Same H H') {l : Addr} (h : H' l = Option.none) : H l = Option.none := by
  cases q : H l with
  | none => rfl
  | some o =>
    rw [e l o q] at h
    cases h
theorem Same.seq {K : PySem.W.Frag} {H H' : Hp} {a : Addr} {xs : List V} (e : Same H H') (h : SqL K H a xs) : SqL K H' a xs := by
  rcases h with (h | ⟨o, h⟩) | h
  · exact .inl (.inl (e _ _ h))
  · exact .inl (.inr ⟨o, e _ _ h⟩)
  · exact .inr h
end L2
end
section
namespace L2
open PySem PySem.Spec PyProof.Rows
def clFrom (env : Env) : List (Str × NameKind) → List (Str × Addr) → List (Str × Addr)
  | [], acc => acc
  | (x, k) :: r, acc => if k == .free then clFrom env r ((x, (env.cells.lookup x).getD 0) :: acc) else clFrom env r acc
theorem closure_of {sc : Scope} {env : Env} (h : ∀ x, (x, NameKind.free) ∈ sc.names → ∃ c, env.cells.lookup x = some c) : closureFor sc env = pure (clFrom env sc.names []) := by
  have key : ∀ (names : List (Str × NameKind)) (acc : List (Str × Addr)), (∀ x, (x, NameKind.free) ∈ names → ∃ c, env.cells.lookup x = some c) →
      (forIn names acc fun (x : Str × NameKind) (cs : List (Str × Addr)) => if (x.2 == NameKind.free) = true then (do let c ← cellOf env x.1; pure (ForInStep.yield ((x.1, c) :: cs))) else pure (ForInStep.yield cs)) = (pure (clFrom env names acc) : Sem (List (Str × Addr))) := by
    intro names
    induction names with
    | nil => intro acc _; rfl
    | cons p r ih =>
      intro acc hh
      obtain ⟨x, k⟩ := p
      rw [List.forIn_cons]
      unfold clFrom
      by_cases hk : (k == NameKind.free) = true
      · have hk' : k = .free := by simpa using hk
        subst hk'
        obtain ⟨c, hc⟩ := hh x List.mem_cons_self
        simp only [beq_self_eq_true, if_true]
        rw [← ih _ fun y hy => hh y (List.mem_cons_of_mem _ hy)]
        have : cellOf env x = pure c := by unfold cellOf; rw [hc]
        rw [this, hc]
        rfl
      · simp only [hk, Bool.false_eq_true, if_false]
        rw [← ih _ fun y hy => hh y (List.mem_cons_of_mem _ hy)]
        rfl
  simp only [closureFor]
  have q := key sc.names [] h
  refine Eq.trans ?_ (Eq.trans (congrArg (fun z => z >>= fun r => pure r) q) ?_)
  · rfl
  · rfl
theorem clFrom_mem {env : Env} : ∀ {names : List (Str × NameKind)} {acc : List (Str × Addr)} {p : Str × Addr}, p ∈ clFrom env names acc → p ∈ acc ∨ ((p.1, NameKind.free) ∈ names ∧ p.2 = (env.cells.lookup p.1).getD 0)
  | [], acc, p, h => .inl h
  | (x, k) :: r, acc, p, h => by
    unfold clFrom at h
    split at h
    · rename_i hk
      have hk' : k = .free := by simpa using hk
      subst hk'
      rcases clFrom_mem h with q | ⟨q, e⟩
      · rcases List.mem_cons.mp q with q | q
        · subst q; exact .inr ⟨List.mem_cons_self, rfl⟩
        · exact .inl q
      · exact .inr ⟨List.mem_cons_of_mem _ q, e⟩
    · rcases clFrom_mem h with q | ⟨q, e⟩
      · exact .inl q
      · exact .inr ⟨List.mem_cons_of_mem _ q, e⟩
theorem lookup_mem_some {α : Type} : ∀ {l : List (Str × α)} {x : Str} {v : α}, (x, v) ∈ l → ∃ u, l.lookup x = some u
  | (y, u) :: r, x, v, h => by
    rw [List.lookup_cons]
    cases hb : x == y with
    | true => exact ⟨u, rfl⟩
    | false =>
      rcases List.mem_cons.mp h with e | h
      · have : x = y := congrArg Prod.fst e
        subst this
        simp at hb
      · exact lookup_mem_some h
theorem clFrom_has {env : Env} : ∀ {names : List (Str × NameKind)} {acc : List (Str × Addr)} {x : Str}, (x, NameKind.free) ∈ names → (x, (env.cells.lookup x).getD 0) ∈ clFrom env names acc
  | (y, k) :: r, acc, x, h => by
    have mono : ∀ (names : List (Str × NameKind)) (acc : List (Str × Addr)) (p : Str × Addr), p ∈ acc → p ∈ clFrom env names acc := by
      intro names
      induction names with
      | nil => intro acc p hp; exact hp
      | cons q r ih =>
        intro acc p hp
        obtain ⟨a, b⟩ := q
        unfold clFrom
        split
        · exact ih _ _ (List.mem_cons_of_mem _ hp)
        · exact ih _ _ hp
    unfold clFrom
    rcases List.mem_cons.mp h with e | h
    · cases e
      simp only [beq_self_eq_true, if_true]
      exact mono _ _ _ List.mem_cons_self
    · split
      · exact clFrom_has h
      · exact clFrom_has h
theorem clFrom_lookup {env : Env} {names : List (Str × NameKind)} {x : Str} {c : Addr} (h : ∀ x, (x, NameKind.free) ∈ names → ∃ c, env.cells.lookup x = some c) (e : (clFrom env names []).lookup x = some c) : env.cells.lookup x = some c ∧ (x, NameKind.free) ∈ names := by
  rcases clFrom_mem (mem_of_lookup e) with q | ⟨q, e'⟩
  · cases q
  · obtain ⟨c', hc⟩ := h _ q
    dsimp only at hc e'
    rw [hc] at e'
    exact ⟨by rw [hc]; exact congrArg some e'.symm, q⟩
theorem clFrom_some {env : Env} {names : List (Str × NameKind)} {x : Str} {c : Addr} (h : ∀ x, (x, NameKind.free) ∈ names → ∃ c, env.cells.lookup x = some c) (hx : (x, NameKind.free) ∈ names) (e : env.cells.lookup x = some c) : (clFrom env names []).lookup x = some c := by
  obtain ⟨u, hu⟩ := lookup_mem_some (clFrom_has (env := env) (acc := []) hx)
  have := (clFrom_lookup h hu).1
  rw [this] at e
  rw [hu, e]
theorem cellsFrom_lookup : ∀ {names : List (Str × NameKind)} {n : Nat} {acc : List (Str × Addr)} {x : Str} {c : Addr}, (cellsFrom n names acc).lookup x = some c → (n ≤ c ∧ c < n + names.length ∧ (x, NameKind.cell) ∈ names) ∨ (acc.lookup x = some c ∧ (x, NameKind.cell) ∉ names)
  | [], n, acc, x, c, h => .inr ⟨h, by simp⟩
  | (y, k) :: r, n, acc, x, c, h => by
    unfold cellsFrom at h
    split at h
    · rename_i hk
      have hk' : k = .cell := by simpa using hk
      subst hk'
      rcases cellsFrom_lookup h with ⟨q1, q2, q3⟩ | ⟨q1, q2⟩
      · exact .inl ⟨Nat.le_of_succ_le q1, Nat.lt_of_lt_of_le q2 (by rw [List.length_cons]; omega), List.mem_cons_of_mem _ q3⟩
      · rw [List.lookup_cons] at q1
        cases hb : x == y with
        | true =>
          rw [hb] at q1
          cases q1
          have : x = y := by simpa using hb
          subst this
          exact .inl ⟨Nat.le_refl _, by rw [List.length_cons]; exact Nat.lt_add_of_pos_right (Nat.succ_pos _), List.mem_cons_self⟩
        | false =>
          rw [hb] at q1
          refine .inr ⟨q1, fun z => ?_⟩
          rcases List.mem_cons.mp z with e | z
          · have : x = y := congrArg Prod.fst e
            subst this
            simp at hb
          · exact q2 z
    · rename_i hk
      rcases cellsFrom_lookup h with ⟨q1, q2, q3⟩ | ⟨q1, q2⟩
      · exact .inl ⟨q1, Nat.lt_of_lt_of_le q2 (by rw [List.length_cons]; omega), List.mem_cons_of_mem _ q3⟩
      · refine .inr ⟨q1, fun z => ?_⟩
        rcases List.mem_cons.mp z with e | z
        · have : k = .cell := (congrArg Prod.snd e).symm
          subst this
          simp at hk
        · exact q2 z
theorem cellsFrom_apart : ∀ (names : List (Str × NameKind)) (n : Nat) (acc : List (Str × Addr)), (acc.Pairwise fun x y => x.2 ≠ y.2) → (∀ p ∈ acc, p.2 < n) → (cellsFrom n names acc).Pairwise fun x y => x.2 ≠ y.2
  | [], n, acc, h, _ => h
  | (y, k) :: r, n, acc, h, hl => by
    unfold cellsFrom
    split
    · refine cellsFrom_apart r (n + 1) _ (List.pairwise_cons.mpr ⟨fun p hp => ?_, h⟩) fun p hp => ?_
      · exact Nat.ne_of_gt (hl p hp)
      · rcases List.mem_cons.mp hp with e | hp
        · subst e; exact Nat.lt_succ_self _
        · exact Nat.lt_succ_of_lt (hl p hp)
    · exact cellsFrom_apart r n acc h hl
theorem cellsFrom_own {names : List (Str × NameKind)} {n : Nat} {acc : List (Str × Addr)} {x : Str} (h : names.lookup x = some .cell) : ∃ c, (cellsFrom n names acc).lookup x = some c :=
  Option.isSome_iff_exists.mp (PySem.W.cellsFrom_some names n acc (.inl h))
theorem cellsFrom_old {names : List (Str × NameKind)} {n : Nat} {acc : List (Str × Addr)} {x : Str} (h : (acc.lookup x).isSome = true) : ∃ c, (cellsFrom n names acc).lookup x = some c :=
  Option.isSome_iff_exists.mp (PySem.W.cellsFrom_some names n acc (.inr h))
theorem pushCells_new : ∀ (names : List (Str × NameKind)) (h : Heap) (acc : List (Str × Addr)) (x : Str) (c : Addr), (cellsFrom h.objs.size names acc).lookup x = some c → h.objs.size ≤ c → (∀ p ∈ acc, p.2 < h.objs.size) → (pushCells h names).IsCell c none
  | [], h, acc, x, c, e, hc, hl => absurd (hl _ (mem_of_lookup e)) (Nat.not_lt.mpr hc)
  | (y, k) :: r, h, acc, x, c, e, hc, hl => by
    unfold cellsFrom at e
    unfold pushCells
    split at e
    · rename_i hk
      rw [if_pos hk]
      by_cases hcc : c = h.objs.size
      · subst hcc
        exact ⟨_, pushCells_keeps _ _ _ _ (Heap.get?_push_size _ rfl), rfl⟩
      · have es : (h.push { cls := .type "cell", data := .cell none }).objs.size = h.objs.size + 1 := Heap.size_push ..
        refine pushCells_new r _ ((y, h.objs.size) :: acc) x c (by rw [es]; exact e) (by rw [es]; exact Nat.lt_of_le_of_ne hc (Ne.symm hcc)) fun p hp => ?_
        rw [es]
        rcases List.mem_cons.mp hp with e | hp
        · subst e; exact Nat.lt_succ_self _
        · exact Nat.lt_succ_of_lt (hl p hp)
    · rename_i hk
      rw [if_neg hk]
      exact pushCells_new r h acc x c e hc hl
end L2
end
section
namespace L2
open PySem PySem.Spec PyProof.Rows
def cxComp (X : Cx) (sc : Scope) (N : List Str) (s₀ : Shared) (H₀ : Hp) (ex : List Addr) (pn : List (Addr × Obj)) : Cx :=
  { X with N := N, s₀ := s₀, H₀ := H₀, env := compEnvC sc (cellsFrom (s₀.heap.objs.size + 1) sc.names (clFrom X.env sc.names [])) s₀.heap.objs.size X.env,
           outer := X.stack, ex := ex, fn := fun x => decide (sc.names.lookup x = some .cell), pn := pn, xe := fun _ _ => False }
structure CompScope (NO : List Str) (scO : Scope) (N : List Str) (sc : Scope) (own : Nat) (fr : List Nat) : Prop where
  kind : sc.kind = .function
  nd : N.Nodup
  snd : (sc.names.map (·.1)).Nodup
  free : ∀ p ∈ sc.names, p.2 = .free → scO.names.lookup p.1 = some .cell ∨ scO.names.lookup p.1 = some .free
  frn : ∀ p ∈ (N.drop own).zip fr, NO[p.2]? = some p.1 ∧ sc.names.lookup p.1 = some .free
  len : N.length = own + fr.length
def startC (own : Nat) (fr : List Nat) (σ : St) : St := List.replicate own none ++ fr.map fun j => (σ[j]?).getD none
theorem lookup_of_nodup {α : Type} : ∀ {l : List (Str × α)} {x : Str} {k : α}, (l.map (·.1)).Nodup → (x, k) ∈ l → l.lookup x = some k
  | (y, u) :: r, x, k, nd, h => by
    rw [List.map_cons] at nd
    obtain ⟨h1, h2⟩ := List.nodup_cons.mp nd
    rw [List.lookup_cons]
    rcases List.mem_cons.mp h with e | h'
    · cases e; simp
    · have : x ≠ y := by
        intro e
        subst e
        exact h1 (List.mem_map.mpr ⟨(x, k), h', rfl⟩)
      rw [beq_eq_false_iff_ne.mpr this]
      exact lookup_of_nodup h2 h'
theorem lookup_relabel {env : Env} : ∀ {names : List (Str × NameKind)} {x : Str} {k : NameKind}, names.lookup x = some k →
    (names.map fun (n, k) => if (k == NameKind.free && env.scope.kind == .function && env.kindOf n == some .cell) then (n, NameKind.cell) else (n, k)).lookup x = some (if (k == NameKind.free && env.scope.kind == .function && env.kindOf x == some .cell) then .cell else k)
  | (n, k') :: r, x, k, h => by
    have ih := @lookup_relabel env r x k
    show List.lookup x ((if (k' == NameKind.free && env.scope.kind == .function && env.kindOf n == some .cell) = true then (n, NameKind.cell) else (n, k')) :: _) = _
    cases hx : x == n with
    | true =>
      have : x = n := by simpa using hx
      subst this
      simp only [List.lookup_cons, hx] at h
      cases h
      split <;> simp [List.lookup_cons]
    | false =>
      simp only [List.lookup_cons, hx] at h
      split
      · simp only [List.lookup_cons, hx]; exact ih h
      · simp only [List.lookup_cons, hx]; exact ih h
theorem lookup_relabel_none {env : Env} : ∀ {names : List (Str × NameKind)} {x : Str}, names.lookup x = none →
    (names.map fun (n, k) => if (k == NameKind.free && env.scope.kind == .function && env.kindOf n == some .cell) then (n, NameKind.cell) else (n, k)).lookup x = none
  | [], _, _ => rfl
  | (n, k') :: r, x, h => by
    have ih := @lookup_relabel_none env r x
    show List.lookup x ((if (k' == NameKind.free && env.scope.kind == .function && env.kindOf n == some .cell) = true then (n, NameKind.cell) else (n, k')) :: _) = _
    cases hx : x == n with
    | true => simp only [List.lookup_cons, hx] at h; cases h
    | false =>
      simp only [List.lookup_cons, hx] at h
      split
      · simp only [List.lookup_cons, hx]; exact ih h
      · simp only [List.lookup_cons, hx]; exact ih h
section
variable {X : Cx} {pins : List (Addr × Obj)} {σ : St} {H : Hp} {s : Shared} {NO N : List Str} {scO sc : Scope} {own : Nat} {fr : List Nat} {fp : List Addr}
theorem inv_comp {tk : Nat} (S : CompScope NO scO N sc own fr) (hN : X.N = NO) (hsc : X.env.scope = scO) (I : Inv X pins σ H s) (hf : ∀ b ∈ fp, FpOk X pins H b) (ho : ∀ b ∈ fp, ∃ o, s.heap.get? b = some o ∧ ∀ v, o.data ≠ .cell v) :
    Inv (cxComp X sc N s H fp (X.pn ++ pins)) [] (startC own fr σ) H { s with heap := pushCells (s.heap.push { cls := .type "dict", data := .dict #[] }) sc.names, toks := tk } := by
  have hfree : ∀ x, (x, NameKind.free) ∈ sc.names → ∃ c, X.env.cells.lookup x = some c := fun x hx => I.ok.has x (by
    show X.env.scope.names.lookup x = _ ∨ X.env.scope.names.lookup x = _
    rw [hsc]
    exact S.free _ hx rfl)
  have hclt : ∀ p ∈ clFrom X.env sc.names [], p.2 < s.heap.objs.size := fun p hp => by
    rcases clFrom_mem hp with q | ⟨q, e⟩
    · cases q
    · obtain ⟨c, hc⟩ := hfree _ q
      rw [e, hc]
      obtain ⟨v, o, ho, _⟩ := I.cell _ c hc
      exact Heap.lt_size ho
  have hsz : (s.heap.push { cls := .type "dict", data := .dict #[] }).objs.size = s.heap.objs.size + 1 := Heap.size_push ..
  have hk : ∀ b o, s.heap.get? b = some o → (pushCells (s.heap.push { cls := .type "dict", data := .dict #[] }) sc.names).get? b = some o := fun b o e => pushCells_keeps _ _ _ _ (Heap.get?_push_of_some _ e)
  have hcase : ∀ {x : Str} {c : Addr}, (cellsFrom (s.heap.objs.size + 1) sc.names (clFrom X.env sc.names [])).lookup x = some c → (s.heap.objs.size + 1 ≤ c ∧ (x, NameKind.cell) ∈ sc.names) ∨ (X.env.cells.lookup x = some c ∧ (x, NameKind.free) ∈ sc.names) := fun {x c} e => by
    rcases cellsFrom_lookup e with ⟨q1, _, q3⟩ | ⟨q1, _⟩
    · exact .inl ⟨q1, q3⟩
    · exact .inr (clFrom_lookup hfree q1)
  have clap : (clFrom X.env sc.names []).Pairwise fun x y => x.2 ≠ y.2 := by
    have key : ∀ (names : List (Str × NameKind)) (acc : List (Str × Addr)), (∀ p ∈ acc, X.env.cells.lookup p.1 = some p.2) → (∀ x, (x, NameKind.free) ∈ names → ∃ c, X.env.cells.lookup x = some c) → (acc.Pairwise fun x y => x.2 ≠ y.2) → (∀ p ∈ acc, (p.1, NameKind.free) ∉ names) → (names.map (·.1)).Nodup →
        (clFrom X.env names acc).Pairwise fun x y => x.2 ≠ y.2 := by
      intro names
      induction names with
      | nil => intro acc _ _ h _ _; exact h
      | cons p r ih =>
        intro acc h1 h2 h3 h4 h5
        obtain ⟨y, k⟩ := p
        rw [List.map_cons] at h5
        obtain ⟨n1, n2⟩ := List.nodup_cons.mp h5
        unfold clFrom
        split
        · rename_i hk
          have hk' : k = .free := by simpa using hk
          subst hk'
          obtain ⟨c, hc⟩ := h2 y List.mem_cons_self
          rw [hc]
          refine ih _ (fun p hp => ?_) (fun x hx => h2 x (List.mem_cons_of_mem _ hx)) (List.pairwise_cons.mpr ⟨fun p hp => ?_, h3⟩) (fun p hp => ?_) n2
          · rcases List.mem_cons.mp hp with e | hp
            · subst e; exact hc
            · exact h1 p hp
          · intro e
            have e' : p.2 = c := e.symm
            have := I.ok.inj _ _ _ hc (e' ▸ h1 p hp)
            exact h4 p hp (this ▸ List.mem_cons_self)
          · rcases List.mem_cons.mp hp with e | hp
            · subst e
              intro z
              exact n1 (List.mem_map.mpr ⟨_, z, rfl⟩)
            · intro z; exact h4 p hp (List.mem_cons_of_mem _ z)
        · exact ih acc h1 (fun x hx => h2 x (List.mem_cons_of_mem _ hx)) h3 (fun p hp z => h4 p hp (List.mem_cons_of_mem _ z)) n2
    exact key sc.names [] (fun p hp => by cases hp) hfree List.Pairwise.nil (fun p hp => by cases hp) S.snd
  have apart := cellsFrom_apart sc.names (s.heap.objs.size + 1) _ clap fun p hp => Nat.lt_succ_of_lt (hclt p hp)
  have hkd : ∀ x, (cxComp X sc N s H fp (X.pn ++ pins)).env.kindOf x = some .cell ∨ (cxComp X sc N s H fp (X.pn ++ pins)).env.kindOf x = some .free → (x, NameKind.cell) ∈ sc.names ∨ (x, NameKind.free) ∈ sc.names := fun x hx => by
    cases q : sc.names.lookup x with
    | none =>
      have e : (cxComp X sc N s H fp (X.pn ++ pins)).env.kindOf x = none := lookup_relabel_none q
      rw [e] at hx
      rcases hx with z | z <;> cases z
    | some k =>
      have e : (cxComp X sc N s H fp (X.pn ++ pins)).env.kindOf x = some _ := lookup_relabel (env := X.env) q
      rw [e] at hx
      have hm := mem_of_lookup q
      cases k <;> first | exact .inl hm | exact .inr hm | (rcases hx with z | z <;> cases z)
  have cellAt : ∀ x c, (cellsFrom (s.heap.objs.size + 1) sc.names (clFrom X.env sc.names [])).lookup x = some c → ∃ v, (pushCells (s.heap.push { cls := .type "dict", data := .dict #[] }) sc.names).IsCell c v := fun x c e => by
    rcases hcase e with ⟨q, _⟩ | ⟨q, _⟩
    · exact ⟨none, pushCells_new _ _ _ x c (by rw [hsz]; exact e) (by rw [hsz]; exact q) fun p hp => by rw [hsz]; exact Nat.lt_succ_of_lt (hclt p hp)⟩
    · obtain ⟨v, o, ho, hd⟩ := I.cell x c q
      exact ⟨v, o, hk _ _ ho, hd⟩
  have lt_of_cell : ∀ x c, X.env.cells.lookup x = some c → c < s.heap.objs.size := fun x c e => by
    obtain ⟨v, o, ho, hd⟩ := I.cell x c e
    exact Heap.lt_size ho
  have lt_of_fp : ∀ b ∈ fp, b < s.heap.objs.size := fun b hb => by
    obtain ⟨o, e, _⟩ := ho b hb
    exact Heap.lt_size e
  have okX : (cxComp X sc N s H fp (X.pn ++ pins)).Ok := by
    refine ⟨I.mod, S.kind, I.ok.glob, I.ok.blt, Nat.le_refl _, fun x y c h1 h2 => name_of_addr apart (mem_of_lookup h1) (mem_of_lookup h2), fun x hx => ?_, fun x c hx hc => ?_, I.ok.hd, I.ok.frames, .inl rfl, fun b hb => ⟨Nat.ne_of_lt (lt_of_fp b hb), fun x c e => ?_⟩, I.bs, Nat.le_trans I.ok.bsz I.sz, fun b o e hb => ?_, fun b hb z => ?_, I.stack, I.stkFree⟩
    · rcases hkd x hx with q | q
      · exact cellsFrom_own (lookup_of_nodup S.snd q)
      · obtain ⟨c, hc⟩ := hfree x q
        exact cellsFrom_old (by rw [clFrom_some hfree q hc]; rfl)
    · have hx' : sc.names.lookup x = some .cell := of_decide_eq_true hx
      rcases hcase hc with ⟨q, _⟩ | ⟨_, q⟩
      · exact Nat.le_of_succ_le q
      · rw [lookup_of_nodup S.snd q] at hx'; cases hx'
    · rcases hcase e with ⟨q, _⟩ | ⟨q, _⟩
      · exact Nat.ne_of_gt (Nat.lt_of_lt_of_le (lt_of_fp b hb) (Nat.le_of_succ_le q))
      · exact (hf b hb).2.2.2.2.1 x c q
    · rcases (hf b hb).2.2.2.1 with z | z
      · exact I.ok.noex b o e z
      · exact absurd (Heap.lt_size e) (Nat.not_lt.mpr (Nat.le_trans I.ok.bsz z))
    · rcases List.mem_cons.mp (I.stkSub b z) with q | q
      · exact (hf b hb).2.1 q
      · exact (hf b hb).2.2.1 q
  refine ⟨okX, rfl, I.bare, Un.kept hk, ⟨fun _ => none, (Heap.Ns.new s.heap (.type "dict")).keeps (pushCells_keeps _ _), fun i x v h1 h2 h3 => ?_⟩, cellAt, I.hok.fresh (Nat.le_refl _), fun x c e => ?_, fun p hp => ?_, I.hok.kept hk, ?_⟩
  · obtain ⟨m, _, hl⟩ := id I.loc
    have h2' : (startC own fr σ)[i]? = some (some v) := h2
    have hio : own ≤ i := by
      unfold startC at h2'
      refine Nat.le_of_not_lt fun hi => ?_
      rw [List.getElem?_append_left (by simpa using hi), List.getElem?_replicate] at h2'
      split at h2' <;> cases h2'
    obtain ⟨k, rfl⟩ := Nat.exists_eq_add_of_le hio
    have h1' : N[own + k]? = some x := h1
    unfold startC at h2'
    rw [List.getElem?_append_right (by simp)] at h2'
    simp only [List.length_replicate, Nat.add_sub_cancel_left, List.getElem?_map] at h2'
    cases hj : fr[k]? with
    | none => rw [hj] at h2'; cases h2'
    | some j =>
      rw [hj] at h2'
      have h2'' : (σ[j]?).getD none = some v := Option.some.inj h2'
      have hp : (x, j) ∈ (N.drop own).zip fr := by
        refine List.mem_of_getElem? (i := k) ?_
        rw [List.getElem?_zip_eq_some]
        exact ⟨by rw [List.getElem?_drop]; exact h1', hj⟩
      obtain ⟨f1, f2⟩ := S.frn _ hp
      have hσ : σ[j]? = some (some v) := by
        cases q : σ[j]? with
        | none => rw [q] at h2''; cases h2''
        | some w => rw [q] at h2''; exact congrArg some h2''
      have hxf : (x, NameKind.free) ∈ sc.names := mem_of_lookup f2
      have hko := S.free _ hxf rfl
      have hvis : Vis X.env.scope x := by rw [hsc]; exact .inr hko
      obtain ⟨u, ru, q⟩ := hl j x v (by rw [hN]; exact f1) hσ hvis
      refine ⟨u, ru, .inr ⟨?_, ?_⟩⟩
      · have e : (cxComp X sc N s H fp (X.pn ++ pins)).env.kindOf x = some _ := lookup_relabel (env := X.env) f2
        rw [e]
        split
        · exact .inl rfl
        · exact .inr rfl
      · rcases q with ⟨k1, _⟩ | ⟨_, c, hc, z⟩
        · have k1' : X.env.scope.names.lookup x = some .local := k1
          rw [hsc] at k1'
          rcases hko with z | z <;> rw [z] at k1' <;> cases k1'
        · obtain ⟨o, ho, hd⟩ := z
          refine ⟨c, ?_, o, hk _ _ ho, hd⟩
          have hcl := clFrom_some hfree hxf hc
          obtain ⟨c', hc'⟩ := cellsFrom_old (names := sc.names) (n := s.heap.objs.size + 1) (acc := clFrom X.env sc.names []) (x := x) (by rw [hcl]; rfl)
          rcases hcase hc' with ⟨_, z⟩ | ⟨z, _⟩
          · have := lookup_of_nodup S.snd z
            rw [f2] at this; cases this
          · rw [hc] at z; cases z; exact hc'
  · rcases hcase e with ⟨q, _⟩ | ⟨q, _⟩
    · exact I.hok.fresh (Nat.le_of_succ_le q)
    · exact I.freeC x c q
  · have hp' : p ∈ X.pn ++ pins := by simpa [cxComp] using hp
    obtain ⟨e, n, ne, nf, d⟩ := I.pin p hp'
    refine ⟨hk _ _ e, n, Nat.ne_of_lt (Heap.lt_size e), fun z => ?_, d⟩
    rcases List.mem_cons.mp (I.stkSub _ z) with q | q
    · exact ne q
    · exact nf q
  · show (startC own fr σ).length = N.length
    unfold startC
    rw [S.len]
    simp
end
end L2
end
section
namespace L2
open PySem PySem.Spec PyProof.Rows
abbrev TB := St → Hp → (St → Hp → Prop) → Prop
def PB (X : Cx) (act : Sem Unit) (t : TB) : Prop :=
  ∀ (pins : List (Addr × Obj)) (s : Shared) (σ : St) (H : Hp) (Q : St → Hp → Prop), Inv X pins σ H s → t σ H Q → wpAny (model X.prog X.w) X.A act (fun _ s' => ∃ σ' H', Inv X pins σ' H' s' ∧ Q σ' H') X.xe s
def PTs (X : Cx) (ifs : List Expr) (t : TT) : Prop :=
  ∀ (pins : List (Addr × Obj)) (s : Shared) (σ : St) (H : Hp) (Q : Bool → Hp → Prop), Inv X pins σ H s → t σ H Q →
    wpAny (model X.prog X.w) X.A (forIn ifs true fun c r => if r = true then do let ok ← isTrue c X.env (eval c X.env); pure (ForInStep.yield ok) else pure (ForInStep.yield r)) (TP X pins σ Q) X.xe s
def tYes : TT := fun _ H Q => Q true H
theorem pts_nil {X : Cx} : PTs X [] tYes := fun pins s σ H Q I h => wpAny_tests_nil ⟨H, I, h⟩
def tLoop (J : It) (g : TG) (tt : TT) (tb : TB) : TB := fun σ H Q => ∃ W : Nat → Nat → St → Hp → Prop, (∃ m, W 0 m σ H) ∧ ∀ i m σ H, W i m σ H →
  (J.stop i H ∧ Q σ H) ∨ (J.go i H ∧ ∀ x H', J.yld i H x H' → g x σ H' fun σ2 H2 => tt σ2 H2 fun b H3 => if b = true then tb σ2 H3 fun σ' H' => ∃ m', m' < m ∧ W (i + 1) m' σ' H' else ∃ m', m' < m ∧ W (i + 1) m' σ2 H3)
section
variable {X : Cx} {pins : List (Addr × Obj)} {s : Shared} {σ : St} {H : Hp} {tg : Expr} {e : Expr} {d : Nat} {acc : Value} {ifs : List Expr} {g : TG} {tt : TT} {tb : TB} {act : Sem Unit} {pos : Pos}
theorem loop_any (hx : ∀ e s, X.xe e s → False) (hc : X.calm = true) (hg : PG X tg g) (ht : PTs X ifs tt) (hb : PB X act tb)
    (heq : ∀ it, compTurn e d it acc X.env = (do
      standAt pos
      match ← pyNext it with
      | none => pure (.done .next)
      | some v =>
        letOwnedTupleGo tg it v
        assign tg X.env v
        let mut ok := true
        for c in ifs do
          if ok then ok ← isTrue c X.env (eval c X.env)
        if ok then
          act
        again (.compLoop e d it acc X.env)))
    (hqt : ∀ it, (Code.compLoop e d it acc X.env).quiet = true)
    (hden : ∀ it, (model X.prog X.w).den (.compLoop e d it acc X.env) = (compTurn e d it acc X.env).onRaise (fun x => do noteFrame x X.env; theTreesLotGoes x))
    (hund : ∀ it, X.A.under (.compLoop e d it acc X.env) = X.A)
    {it : Addr} {fp : List Addr} {tn : Nat → Heap → Prop} {J : It} {Q : St → Hp → Prop} {R : Result → Shared → Prop} (I : Inv X pins σ H s) (T : Turn X.prog X.w X.K tg J fp it tn) (st : tn 0 s.heap) (f : ∀ b ∈ fp, FpOk X pins H b)
    (h : tLoop J g tt tb σ H Q) (hR : ∀ σ' H' s', Inv X pins σ' H' s' → (∀ b ∈ fp, H' b = none) → Q σ' H' → R (.ok .next) s') : codeAny (model X.prog X.w) X.A (.compLoop e d (.ref it) acc X.env) R s := by
  obtain ⟨W, ⟨m0, w0⟩, turn⟩ := h
  have stat : ∀ {H' : Hp}, (∀ b ∈ fp, H' b = none) → ∀ b ∈ fp, FpOk X pins H' b := fun hn b hb => ⟨hn b hb, (f b hb).2⟩
  refine codeAny_loop (hqt _) (fun n s' => ∃ i σ' H', Inv X pins σ' H' s' ∧ tn i s'.heap ∧ (∀ b ∈ fp, H' b = none) ∧ W i n σ' H') ?_ m0 ⟨0, σ, H, I, st, fun b hb => (f b hb).1, w0⟩
  rintro n s3 ⟨i, σ3, H3, I3, st3, fr3, w3⟩
  rw [hden, hund]
  refine wpAny_noted ?_
  rw [heq]
  have nox : ∀ e' s', X.xe e' s' → notedBy (model X.prog X.w) X.A X.env (fun e s' => R (.error e) s') e' s' := fun e' s' z => (hx e' s' z).elim
  refine wpAny_bind (wpAny_standAt (wpAny_bind ?_))
  rcases turn i n σ3 H3 w3 with ⟨stop, qn⟩ | ⟨go, step⟩
  · refine wpAny_mono (T.done X rfl rfl rfl hc i pins s3 σ3 H3 X.xe I3 (stat fr3) st3 stop) (fun r s4 hr4 => ?_) nox
    obtain ⟨hr, I4⟩ := hr4
    subst hr
    exact wpAny_pure (hR σ3 H3 s4 I4 fr3 qn)
  · refine wpAny_mono (T.item X rfl rfl rfl hc i pins s3 σ3 H3 X.xe I3 (stat fr3) st3 go) (fun r s4 hr4 => ?_) nox
    obtain ⟨u, hr, h4⟩ := hr4
    subst hr
    refine wpAny_bind (wpAny_mono h4 (fun _ s5 h5 => ?_) nox)
    obtain ⟨x, H5, I5, r5, y5, st5, fr5⟩ := h5
    have I5' := I5.pinned (stat fr5) (T.obj _ _ st5)
    refine wpAny_bind (wpAny_mono (hg _ s5 σ3 H5 x u _ I5' r5 (step x H5 y5)) (fun _ s6 h6 => ?_) nox)
    obtain ⟨σ6, H6, I6, q6⟩ := h6
    refine wpAny_bind (wpAny_mono (ht _ s6 σ6 H6 _ I6 q6) (fun ok s7 h7 => ?_) nox)
    obtain ⟨H7, I7, q7⟩ := h7
    have again : ∀ {σ7 : St} {H7 : Hp} {s7 : Shared}, Inv X (pins ++ pinsAt fp s5.heap) σ7 H7 s7 → (∃ m', m' < n ∧ W (i + 1) m' σ7 H7) → ∃ m, m < n ∧ ∃ i σ' H', Inv X pins σ' H' s7 ∧ tn i s7.heap ∧ (∀ b ∈ fp, H' b = none) ∧ W i m σ' H' := fun {σ7 H7 s7} I7 n7 => by
      obtain ⟨m', hm, w7⟩ := n7
      refine ⟨m', hm, i + 1, σ7, H7, I7.unpinned, T.keep _ _ _ st5 fun b hb o e => (I7.pin (b, o) (List.mem_append_right _ (List.mem_append_right _ (mem_pinsAt hb e)))).1, fun b hb => ?_, w7⟩
      obtain ⟨o, e, d⟩ := T.obj _ _ st5 b hb
      exact (I7.pin (b, o) (List.mem_append_right _ (List.mem_append_right _ (mem_pinsAt hb e)))).2.1
    cases ok with
    | false =>
      rw [if_neg Bool.false_ne_true] at q7
      exact wpAny_pure ⟨rfl, again I7 q7⟩
    | true =>
      rw [if_pos rfl] at q7
      refine wpAny_bind (wpAny_mono (hb _ s7 σ6 H7 _ I7 q7) (fun _ s8 h8 => ?_) nox)
      obtain ⟨σ8, H8, I8, q8⟩ := h8
      exact wpAny_pure ⟨rfl, again I8 q8⟩
theorem pb_emit {D : Addr} {elt : Expr} {te : TE} (he : PE X elt te) : PB X (do let _ ← call (.builtin "list.append") [.ref D, ← eval elt X.env]) (fun σ H Q => te σ H fun y H1 => ∃ xs, H1 D = some (.lst xs) ∧ xs.length < sizeLine ∧ Q σ (upd H1 D (.lst (xs ++ [y])))) := by
  intro pins s σ H Q I h
  refine wpAny_bind (thn (he pins s σ H _ I h) fun v s1 h1 => ?_)
  obtain ⟨y, H1, I1, r1, xs, hD, hz, q⟩ := h1
  obtain ⟨z, its, n, r, hl, e⟩ := I1.lstM hD
  refine wpAny_bind ?_
  refine call_meets F.slot_list_append ⟨_, e, rfl⟩ F.entry_list_append (F.args_list_append_2 _ _) (PySem.list_append D its.toArray n v (by rw [List.size_toArray]; omega)) ⟨e, ?_⟩
  refine wpAny_pure ⟨σ, _, I1.lset (its' := its ++ [v]) hD e (by simp) (r.append (.cons r1 .nil)) ?_, q⟩
  rw [List.length_append, List.length_singleton]
  omega
theorem newEnv_comp {M : Model} {A : Around} {E : Value → Shared → Prop} {sc : Scope} {gl : Addr} {cl : List (Str × Addr)} {qual : Str} {env : Env} {Q : Env → Shared → Prop} {s : Shared}
    (h : Q { scope := sc, locals := s.heap.objs.size, globals := gl, cells := cellsFrom (s.heap.objs.size + 1) sc.names cl, qual := qual, func := none, code := env.code, frame := env.frame, builtins := env.builtins } { s with heap := pushCells (s.heap.push { cls := .type "dict", data := .dict #[] }) sc.names }) :
    wpAny M A (newFunctionEnv sc gl cl [] qual none .none (some env)) Q E s := by
  simp only [newFunctionEnv, Option.isSome_some, if_true]
  refine wpAny_bind (wpAny_alloc ?_)
  refine wpAny_bind (wpAny_layCells _ (fun name kind cells => by cases hkc : kind == NameKind.cell <;> simp [hkc]) _ _ _ _ ?_)
  rw [show ({ s with heap := s.heap.push { cls := .type "dict", data := .dict #[] } } : Shared).heap.objs.size = s.heap.objs.size + 1 from Heap.size_push ..]
  refine wpAny_bind ?_
  rw [List.forIn_nil]
  exact wpAny_pure (wpAny_pure h)
theorem comp_back {sc : Scope} {N : List Str} {fp : List Addr} {σ' : St} {H' : Hp} {s' : Shared} {h' : Heap} (I : Inv X pins σ H s) (hf : ∀ b ∈ fp, FpOk X pins H b) (J : Inv (cxComp X sc N s H fp (X.pn ++ pins)) [] σ' H' s') (hs : Heap.SameBut s.heap.objs.size s'.heap h') :
    Inv X pins σ H' { s' with heap := h' } := by
  have u : Un (frs X.stack) fp H H' s.heap s'.heap := J.base
  have ne : ∀ b o, s.heap.get? b = some o → b ≠ s.heap.objs.size := fun b o e => Nat.ne_of_lt (Heap.lt_size e)
  have hfree : H' s.heap.objs.size = none := J.free
  refine I.call' (s' := { s' with heap := h' }) (ch := fp) J.os ⟨fun b o e n h1 h2 => (hs.2 b (ne b o e)).trans (u.keep b o e n h1 h2), fun b o e n h1 h2 => ?_, u.free, fun b o e h2 => ?_, u.tups, u.frzs, u.tbls⟩ (fun a o e => ?_) J.bare fun b hb => ?_
  · obtain ⟨sl, q⟩ := u.slot b o e n h1 h2
    exact ⟨sl, (hs.2 b (ne b o e)).trans q⟩
  · obtain ⟨o', q⟩ := u.there b o e h2
    exact ⟨o', (hs.2 b (ne b o e)).trans q⟩
  · refine (J.hok a o e).stay (fun c v hc q => (hs.2 c ?_).trans q) (fun _ q => q) fun _ _ q => q
    intro z
    subst z
    rcases hc with hc | hc
    · rw [← hc] at e
      rw [hfree] at e; cases e
    · rw [hfree] at hc; cases hc
  · exact ⟨(hf b hb).2.2.2.1, (hf b hb).2.1, (hf b hb).2.2.2.2⟩
end
end L2
end
section
namespace L2
open PySem PySem.Spec PyProof.Rows
def tEmit (D : Addr) (te : TE) : TB := fun σ H Q => te σ H fun y H1 => ∃ xs, H1 D = some (.lst xs) ∧ xs.length < sizeLine ∧ Q σ (upd H1 D (.lst (xs ++ [y])))
def tComp (wi : TI) (own : Nat) (fr : List Nat) (g : TG) (tt : TT) (tb : Addr → TB) : TE := fun σ H Q => wi σ H fun J H1 => ∀ D, H1 D = none →
  tLoop J g tt (tb D) (startC own fr σ) (upd H1 D (.lst [])) fun _ H2 => Q (.ref D) H2
section
variable {X : Cx} {pins : List (Addr × Obj)} {s : Shared} {σ : St} {H : Hp} {tg elt iter : Expr} {ifs : List Expr} {rest : List Comprehension} {sc scO : Scope} {NO N : List Str} {own : Nat} {fr : List Nat} {wi : TI} {g : TG} {tt : TT} {tb : Addr → TB} {pos : Pos}
theorem comp_run {RR : Value → Addr → Result → Shared → Prop} {it : Addr} {fp : List Addr} {tn : Nat → Heap → Prop} {J : It} {Q : VK} (S : CompScope NO scO N sc own fr) (hN : X.N = NO) (hsc : X.env.scope = scO) (hc : X.calm = true)
    (hg : ∀ s₀ H₀ ex pn, PG (cxComp X sc N s₀ H₀ ex pn) tg g) (ht : ∀ s₀ H₀ ex pn, PTs (cxComp X sc N s₀ H₀ ex pn) ifs tt)
    (hb : ∀ D s₀ H₀ ex pn, ∃ act, PB (cxComp X sc N s₀ H₀ ex pn) act (tb D) ∧ ∀ it, compTurn (.ListComp elt (⟨tg, iter, ifs, 0⟩ :: rest) sc pos) 0 it (.ref D) (cxComp X sc N s₀ H₀ ex pn).env = (do
      standAt iter.pos
      match ← pyNext it with
      | none => pure (.done .next)
      | some v =>
        letOwnedTupleGo tg it v
        assign tg (cxComp X sc N s₀ H₀ ex pn).env v
        let mut ok := true
        for c in ifs do
          if ok then ok ← isTrue c (cxComp X sc N s₀ H₀ ex pn).env (eval c (cxComp X sc N s₀ H₀ ex pn).env)
        if ok then
          act
        again (.compLoop (.ListComp elt (⟨tg, iter, ifs, 0⟩ :: rest) sc pos) 0 it (.ref D) (cxComp X sc N s₀ H₀ ex pn).env)))
    (I : Inv X pins σ H s) (T : Turn X.prog X.w X.K tg J fp it tn) (st : tn 0 s.heap) (f : ∀ b ∈ fp, FpOk X pins H b)
    (h : ∀ D, H D = none → tLoop J g tt (tb D) (startC own fr σ) (upd H D (.lst [])) fun _ H2 => Q (.ref D) H2)
    (hRR : ∀ (D C : Addr) (s' : Shared) (H' : Hp), (∃ m, s'.heap.Ns C m) → C ≠ X.env.locals → (∀ x c, X.env.cells.lookup x = some c → c ≠ C) → H' C = none → X.s₀.heap.objs.size ≤ C → (∀ p ∈ X.pn ++ pins, p.1 ≠ C) → Inv X pins σ H' s' → Q (.ref D) H' → RR (.ref D) C (.ok .next) s') :
    wpAny (model X.prog X.w) X.A (newList []) (fun acc s₃ => wpAny (model X.prog X.w) X.A (newFunctionEnv sc X.env.globals (clFrom X.env sc.names []) [] X.env.qual none .none (some X.env)) (fun cenv s₄ =>
      codeAny (model X.prog X.w) X.A (.compStart (.ListComp elt (⟨tg, iter, ifs, 0⟩ :: rest) sc pos) 0 (.ref it) acc { cenv with scope := relabel sc X.env }) (RR acc cenv.locals) s₄) X.xe s₃) X.xe s := by
  refine wpAny_newObj_type (newEnv_comp ?_)
  have fpsz : ∀ b ∈ fp, b < s.heap.objs.size := fun b hb => by
    obtain ⟨o, e, _⟩ := T.obj _ _ st b hb
    exact Heap.lt_size e
  have I3 := I.lnew (its := []) (ys := []) (t' := s.toks) .nil (Nat.zero_le _)
  have f3 : ∀ b ∈ fp, FpOk X pins (upd H s.heap.objs.size (.lst [])) b := fun b hb => ⟨by rw [upd_ne (Nat.ne_of_lt (fpsz b hb))]; exact (f b hb).1, (f b hb).2⟩
  have st3 : tn 0 (s.heap.push { cls := .type "list", data := .seq ([] : List Value).toArray }) := T.keep _ _ _ st fun b _ o e => Heap.get?_push_of_some _ e
  have I4 := inv_comp (tk := s.toks) S hN hsc I3 f3 (T.obj _ _ st3)
  obtain ⟨act, pb, heq⟩ := hb s.heap.objs.size _ _ _ _
  have st4 := T.keep _ _ (pushCells ((s.heap.push { cls := .type "list", data := .seq ([] : List Value).toArray }).push { cls := .type "dict", data := .dict #[] }) sc.names) st3 fun b _ o e => pushCells_keeps _ _ _ _ (Heap.get?_push_of_some _ e)
  have cells_lt : ∀ x c, X.env.cells.lookup x = some c → c < s.heap.objs.size := fun x c e => by
    obtain ⟨v, o, ho, hd⟩ := I.cell x c e
    exact Heap.lt_size ho
  have esz : (s.heap.push { cls := .type "list", data := .seq ([] : List Value).toArray }).objs.size = s.heap.objs.size + 1 := Heap.size_push ..
  have loop := loop_any (X := cxComp X sc N { s with heap := s.heap.push { cls := .type "list", data := .seq ([] : List Value).toArray } } (upd H s.heap.objs.size (.lst [])) fp (X.pn ++ pins)) (R := RR (.ref s.heap.objs.size) (s.heap.push { cls := .type "list", data := .seq ([] : List Value).toArray }).objs.size) (fun _ _ z => z) hc (hg _ _ _ _) (ht _ _ _ _) pb heq (fun _ => rfl) (fun _ => rfl) (fun _ => rfl) I4 T st4
    (fun b hb => ⟨(f3 b hb).1, I4.ok.exf b hb |>.1, I4.ok.exfs b hb, .inl hb, I4.ok.exf b hb |>.2, fun p hp => by
      have hp' : p ∈ X.pn ++ pins := by simpa [cxComp] using hp
      exact (f b hb).2.2.2.2.2 p hp'⟩) (h _ I.fresh)
    (fun σ' H' s' J' fr' q' => hRR _ _ s' H' (let ⟨m, hm, _⟩ := J'.loc; ⟨m, hm⟩) (by rw [esz]; exact Nat.ne_of_gt (Nat.lt_succ_of_lt I.lt)) (fun x c e => by rw [esz]; exact Nat.ne_of_lt (Nat.lt_succ_of_lt (cells_lt x c e))) J'.free (by rw [esz]; exact Nat.le_succ_of_le I.sz) (fun p hp => by rw [esz]; exact Nat.ne_of_lt (Nat.lt_succ_of_lt (Heap.lt_size (I.pin p hp).1))) (comp_back (h' := s'.heap) I3 f3 J' (Heap.SameBut.refl ..)) q')
  exact codeAny_compStart_list loop (T.self X.A 0 _ _ _ st4 loop)
theorem Inv.touch {C : Addr} {h' : Heap} (I : Inv X pins σ H s) (hs : Heap.SameBut C s.heap h') (hn : H C = none) (h0 : C ≠ X.env.locals) (h1 : ∀ x c, X.env.cells.lookup x = some c → c ≠ C) (h2 : X.s₀.heap.objs.size ≤ C) (h3 : ∀ p ∈ X.pn ++ pins, p.1 ≠ C) :
    Inv X pins σ H { s with heap := h' } :=
  I.turned (t' := s.toks) (fun b o hb e => (hs.2 b hb).trans e) hn h0 (.inr h2) h1 h3
section
variable {elt2 : Expr} {te : TE} {tg2 iter2 : Expr} {ifs2 : List Expr} {wi2 : TI} {g2 : TG} {tt2 : TT} {tb2 : TB} {y : Str} {i : Nat} {py spos : Pos}
theorem clos_ok (S : CompScope NO scO N sc own fr) (hsc : X.env.scope = scO) (ok : X.Ok) : closureFor sc X.env = pure (clFrom X.env sc.names []) :=
  closure_of fun x hx => ok.has x (by
    show X.env.scope.names.lookup x = _ ∨ X.env.scope.names.lookup x = _
    rw [hsc]
    exact S.free _ hx rfl)
theorem pe_comp (S : CompScope NO scO N sc own fr) (hc : X.calm = true) (hi : PI X tg iter wi) (hg : ∀ s₀ H₀ ex pn, PG (cxComp X sc N s₀ H₀ ex pn) tg g) (ht : ∀ s₀ H₀ ex pn, PTs (cxComp X sc N s₀ H₀ ex pn) ifs tt)
    (hb : ∀ D s₀ H₀ ex pn, ∃ act, PB (cxComp X sc N s₀ H₀ ex pn) act (tb D) ∧ ∀ it, compTurn (.ListComp elt (⟨tg, iter, ifs, 0⟩ :: rest) sc pos) 0 it (.ref D) (cxComp X sc N s₀ H₀ ex pn).env = (do
      standAt iter.pos
      match ← pyNext it with
      | none => pure (.done .next)
      | some v =>
        letOwnedTupleGo tg it v
        assign tg (cxComp X sc N s₀ H₀ ex pn).env v
        let mut ok := true
        for c in ifs do
          if ok then ok ← isTrue c (cxComp X sc N s₀ H₀ ex pn).env (eval c (cxComp X sc N s₀ H₀ ex pn).env)
        if ok then
          act
        again (.compLoop (.ListComp elt (⟨tg, iter, ifs, 0⟩ :: rest) sc pos) 0 it (.ref D) (cxComp X sc N s₀ H₀ ex pn).env)))
    (hN : X.N = NO) (hsc : X.env.scope = scO) (hs : ∀ x, foldedSetIterable iter X.env x = pure x) :
    PE X (.ListComp elt (⟨tg, iter, ifs, 0⟩ :: rest) sc pos) (tComp wi own fr g tt tb) := by
  intro pins s σ H Q I h
  rw [eval_ListComp]
  refine wpAny_comprehension_free (use := none) rfl hs (clos_ok S hsc I.ok) S.kind (fun p hp hl => lookup_of_nodup S.snd (k := .local) (by rw [← hl]; exact hp)) (thn (hi pins s σ H _ I h) fun v s1 h1 => thn h1 fun itv s2 h2 => ?_)
  obtain ⟨it, fp, tn, J, H2, e, I2, T, st2, f2, q⟩ := h2
  subst e
  refine comp_run (RR := fun acc C => compPost (model X.prog X.w) X.A X.xe none (EP X pins σ Q) acc C) S hN hsc hc hg ht hb I2 T st2 f2 q ?_
  rintro D C s' H' ⟨m, hm⟩ c0 c1 c2 c3 c4 J' q'
  exact ⟨m, hm, fun h' hs' => ⟨.ref D, H', J'.touch hs' c2 c0 c1 c3 c4, rfl, q'⟩⟩
theorem ps_setComp (S : CompScope NO scO N sc own fr) (hc : X.calm = true) (hNd : X.N.Nodup) (hiN : X.N[i]? = some y) (hy : Loc X.env.scope y) (hi : PI X tg iter wi) (hg : ∀ s₀ H₀ ex pn, PG (cxComp X sc N s₀ H₀ ex pn) tg g) (ht : ∀ s₀ H₀ ex pn, PTs (cxComp X sc N s₀ H₀ ex pn) ifs tt)
    (hb : ∀ D s₀ H₀ ex pn, ∃ act, PB (cxComp X sc N s₀ H₀ ex pn) act (tb D) ∧ ∀ it, compTurn (.ListComp elt (⟨tg, iter, ifs, 0⟩ :: rest) sc pos) 0 it (.ref D) (cxComp X sc N s₀ H₀ ex pn).env = (do
      standAt iter.pos
      match ← pyNext it with
      | none => pure (.done .next)
      | some v =>
        letOwnedTupleGo tg it v
        assign tg (cxComp X sc N s₀ H₀ ex pn).env v
        let mut ok := true
        for c in ifs do
          if ok then ok ← isTrue c (cxComp X sc N s₀ H₀ ex pn).env (eval c (cxComp X sc N s₀ H₀ ex pn).env)
        if ok then
          act
        again (.compLoop (.ListComp elt (⟨tg, iter, ifs, 0⟩ :: rest) sc pos) 0 it (.ref D) (cxComp X sc N s₀ H₀ ex pn).env)))
    (hN : X.N = NO) (hsc : X.env.scope = scO) (hs : ∀ x, foldedSetIterable iter X.env x = pure x) (hf : X.fn y = true ∨ X.env.scope.names.lookup y = some .local)
    (hsw : swapsWith (.ListComp elt (⟨tg, iter, ifs, 0⟩ :: rest) sc pos) (some (.Name y py)) spos.line X.env = pure true) :
    PS X (.Assign [.Name y py] (.ListComp elt (⟨tg, iter, ifs, 0⟩ :: rest) sc pos) spos) (tAsg (tComp wi own fr g tt tb) (gName i)) := by
  intro pins s σ H D I h
  rw [exec_Assign_Name_used _ _ _ _ hsw]
  refine wpAny_bind (wpAny_standAt (wpAny_bind ?_))
  show wpAny _ X.A (do let _ ← comprehension (.ListComp elt (⟨tg, iter, ifs, 0⟩ :: rest) sc pos) sc X.env _ (newList []) false (eval iter X.env) (some (assign (.Name y py) X.env))) _ _ s
  refine wpAny_bind (wpAny_mono (wpAny_comprehension_free (use := some (assign (.Name y py) X.env)) (Q := fun _ s' => SP X pins D .next s') rfl hs (clos_ok S hsc I.ok) S.kind (fun p hp hl => lookup_of_nodup S.snd (k := .local) (by rw [← hl]; exact hp))
    (thn (hi pins s σ H _ I h) fun v s1 h1 => thn h1 fun itv s2 h2 => ?_)) (fun _ s' hq => wpAny_pure (wpAny_pure hq)) fun _ _ e => e)
  obtain ⟨it, fp, tn, J, H2, e, I2, T, st2, f2, q⟩ := h2
  subst e
  refine comp_run (Q := fun x H1 => gName i x σ H1 D.nx) (RR := fun acc C => compPost (model X.prog X.w) X.A X.xe (some (assign (.Name y py) X.env)) (fun _ s' => SP X pins D .next s') acc C) S hN hsc hc hg ht hb I2 T st2 f2 q ?_
  rintro A' C s' H' ⟨m, hm⟩ c0 c1 c2 c3 c4 J' q'
  show wpAny _ X.A (assign (.Name y py) X.env (.ref A')) _ _ _
  refine wpAny_assign_Name (store_ok2 (v := .ref A') J' hNd hiN hy rfl (fun s2' I2' hsb => ?_) hf)
  obtain ⟨a, hs2, ha⟩ := hsb
  have hCa : C ≠ a := by
    rcases ha with ha | ha
    · rw [ha]; exact c0
    · exact Ne.symm (c1 _ _ ha)
  exact ⟨m, hm.sameBut hs2 hCa, fun h' hs' => ⟨_, H', I2'.touch hs' c2 c0 c1 c3 c4, q'⟩⟩
end
end
end L2
end
section
namespace L2
open PySem PySem.Spec PyProof.Rows
section
variable {X : Cx} {tg elt iter tg2 iter2 : Expr} {ifs ifs2 : List Expr} {sc scO : Scope} {NO N : List Str} {own : Nat} {fr : List Nat} {wi wi2 : TI} {g g2 : TG} {tt tt2 : TT} {te : TE} {pos py spos : Pos} {y : Str} {i : Nat}
theorem pe_comp1 (S : CompScope NO scO N sc own fr) (hc : X.calm = true) (hi : PI X tg iter wi) (hg : ∀ s₀ H₀ ex pn, PG (cxComp X sc N s₀ H₀ ex pn) tg g) (ht : ∀ s₀ H₀ ex pn, PTs (cxComp X sc N s₀ H₀ ex pn) ifs tt) (he : ∀ s₀ H₀ ex pn, PE (cxComp X sc N s₀ H₀ ex pn) elt te)
    (hN : X.N = NO) (hsc : X.env.scope = scO) (hs : ∀ x, foldedSetIterable iter X.env x = pure x) : PE X (.ListComp elt [⟨tg, iter, ifs, 0⟩] sc pos) (tComp wi own fr g tt fun D => tEmit D te) :=
  pe_comp S hc hi hg ht (fun D s₀ H₀ ex pn => ⟨_, pb_emit (D := D) (he s₀ H₀ ex pn), fun _ => rfl⟩) hN hsc hs
theorem ps_setComp1 (S : CompScope NO scO N sc own fr) (hc : X.calm = true) (hNd : X.N.Nodup) (hiN : X.N[i]? = some y) (hy : Loc X.env.scope y) (hi : PI X tg iter wi) (hg : ∀ s₀ H₀ ex pn, PG (cxComp X sc N s₀ H₀ ex pn) tg g) (ht : ∀ s₀ H₀ ex pn, PTs (cxComp X sc N s₀ H₀ ex pn) ifs tt) (he : ∀ s₀ H₀ ex pn, PE (cxComp X sc N s₀ H₀ ex pn) elt te)
    (hN : X.N = NO) (hsc : X.env.scope = scO) (hs : ∀ x, foldedSetIterable iter X.env x = pure x) (hf : X.fn y = true ∨ X.env.scope.names.lookup y = some .local)
    (hsw : swapsWith (.ListComp elt [⟨tg, iter, ifs, 0⟩] sc pos) (some (.Name y py)) spos.line X.env = pure true) :
    PS X (.Assign [.Name y py] (.ListComp elt [⟨tg, iter, ifs, 0⟩] sc pos) spos) (tAsg (tComp wi own fr g tt fun D => tEmit D te) (gName i)) :=
  ps_setComp S hc hNd hiN hy hi hg ht (fun D s₀ H₀ ex pn => ⟨_, pb_emit (D := D) (he s₀ H₀ ex pn), fun _ => rfl⟩) hN hsc hs hf hsw
end
end L2
end
section
namespace L2
open PySem PySem.Spec PyProof.Rows
end L2
end
section
namespace L2
open PySem PySem.Spec PyProof.Rows
section
variable {X : Cx} {pins : List (Addr × Obj)} {σ : St} {H : Hp} {s : Shared} {h' : Heap} {fp : List Addr}
theorem Inv.turnedAll {t' : Nat} (I : Inv X pins σ H s) (hf : ∀ b ∈ fp, FpOk X pins H b) (k : ∀ b o, b ∉ fp → s.heap.get? b = some o → h'.get? b = some o) : Inv X pins σ H { s with heap := h', toks := t' } := by
  refine I.step (g' := s.gens) (d' := s.drawn) (ch := fp) (fun b hb => ⟨(hf b hb).2.2.2.1, (hf b hb).2.1, (hf b hb).2.2.2.2⟩) (fun b o _ _ hc e _ => k b o hc e) (fun b o _ _ hc e _ => ⟨o.slots, k b o hc e⟩) (fun _ _ _ _ n => n)
    (fun b o hc e => ⟨o, k b o hc e⟩) (fun _ _ e => e) (fun _ _ _ e => e) (fun b ps e => ⟨#[], by rw [e]; simp⟩) (fun m hm => ?_) (fun b u e => ?_) I.bare
  · obtain ⟨o, es, ep, ho, r⟩ := hm
    exact ⟨o, es, ep, k _ o (fun z => (hf _ z).2.1 rfl) ho, r⟩
  · refine (I.hok b u e).stay (fun c v hc q => k c v (fun z => ?_) q) (fun _ q => q) fun _ _ q => q
    have hn := (hf c z).1
    rcases hc with hc | hc
    · subst hc; rw [e] at hn; cases hn
    · rw [hc] at hn; cases hn
theorem Inv.turnedNew {t' : Nat} {t : Addr} {o : HO} (I : Inv X pins σ H s) (hf : ∀ b ∈ fp, FpOk X pins H b) (k : ∀ b o, b ∉ fp → s.heap.get? b = some o → h'.get? b = some o) (ht : s.heap.objs.size ≤ t) (new : ObjOk X.prog X.w (upd H t o) h' t o) :
    Inv X pins σ (upd H t o) { s with heap := h', toks := t' } := by
  have hn : H t = none := I.hok.fresh ht
  have ne : ∀ b ob, s.heap.get? b = some ob → b ≠ t := fun b ob e => Nat.ne_of_lt (Nat.lt_of_lt_of_le (Heap.lt_size e) ht)
  refine I.step (g' := s.gens) (d' := s.drawn) (ch := fp) (fun b hb => ⟨(hf b hb).2.2.2.1, (hf b hb).2.1, (hf b hb).2.2.2.2⟩) (fun b o _ _ hc e _ => k b o hc e) (fun b o _ _ hc e _ => ⟨o.slots, k b o hc e⟩) (fun b ob _ e n => by rw [upd_ne (ne b ob e)]; exact n)
    (fun b o hc e => ⟨o, k b o hc e⟩) (fun b xs e => by rw [upd_ne (ne_of_none e hn)]; exact e) (fun b ob u e => by rw [upd_ne (ne_of_none e hn)]; exact e) (fun b ps e => ⟨#[], by rw [upd_ne (ne_of_none e hn), e]; simp⟩) (fun m hm => ?_) (fun b u e => ?_) I.bare
  · obtain ⟨o, es, ep, ho, r⟩ := hm
    exact ⟨o, es, ep, k _ o (fun z => (hf _ z).2.1 rfl) ho, r⟩
  · by_cases hb : b = t
    · subst hb; rw [upd_same] at e; cases e; exact new
    · rw [upd_ne hb] at e
      refine (I.hok b u e).stay (fun c v hc q => k c v (fun z => ?_) q) (fun c q => by rw [upd_ne (ne_of_none q hn)]; exact q) fun c xs q => by rw [upd_ne (ne_of_none q hn)]; exact q
      have hn' := (hf c z).1
      rcases hc with hc | hc
      · subst hc; rw [e] at hn'; cases hn'
      · rw [hc] at hn'; cases hn'
end
def Ite (K : PySem.W.Frag) (a : Addr) : It :=
  ⟨fun i H => ∃ xs x, SqL K H a xs ∧ xs[i]? = some x, fun i H x H' => ∃ t y, x = .ref t ∧ H t = none ∧ H' = upd H t (.tup [.int i, y]) ∧ ∀ xs, SqL K H a xs → xs[i]? = some y, fun i H => ∃ xs, SqL K H a xs ∧ xs.length ≤ i⟩
theorem turn_enum {P : Program} {w : World} {K : PySem.W.Frag} {es : List Expr} {k : Nat} {pos : Pos} (a e it : Addr) (hne : e ≠ it) : Turn P w K (.Tuple es k pos) (Ite K a) [e, it] e (fun i h => (∃ old, IsEnum h e it i old) ∧ h.IsListIter it a i) where
  mem := by simp
  obj := fun i h st b hb => by
    obtain ⟨⟨old, se⟩, o, eo, c, d⟩ := st
    rcases List.mem_cons.mp hb with z | z
    · subst z
      exact ⟨_, se, fun v z => by
        have z' : Data.fields _ = Data.cell v := z
        cases z'⟩
    · have z : b = it := by simpa using z
      subst z
      exact ⟨o, eo, fun v z => by rw [d] at z; cases z⟩
  keep := fun i h h' st kk => ⟨let ⟨old, se⟩ := st.1; ⟨old, kk e (by simp) _ se⟩, st.2.at fun o eo => kk it (by simp) o eo⟩
  item := by
    intro X hP hw hK hc i pins s σ H E I hf st hg
    subst hP hw hK
    obtain ⟨xs, x, hq, hx⟩ := hg
    obtain ⟨its, rv, p, hz⟩ := I.list hq
    obtain ⟨u, hu, ru⟩ := rv.get hx
    obtain ⟨⟨old, se⟩, si⟩ := st
    refine wpAny_pyNext_enum_item se si p.isList (x := u) (by simpa using hu) hne fun h' so si' tp sz kp => ?_
    refine ⟨_, rfl, ?_⟩
    refine wpAny_letOwnedTupleGo_enum (s := { s with heap := h', toks := s.toks + 1 }) so fun h2 se2 sb => ?_
    have hlt : e < s.heap.objs.size := Heap.lt_size se
    obtain ⟨oi, eoi, _, _⟩ := id si
    have hlt2 : it < s.heap.objs.size := Heap.lt_size eoi
    have kk : ∀ b o, b ∉ [e, it] → s.heap.get? b = some o → h2.get? b = some o := fun b o hb eb => by
      have h1 : b ≠ e := fun z => hb (by simp [z])
      have h2' : b ≠ it := fun z => hb (by simp [z])
      exact (sb.2 b h1).trans (kp b o h1 h2' eb)
    have I2 : Inv X pins σ (upd H s.heap.objs.size (.tup [.int i, x])) { s with heap := h2, toks := s.toks + 1 } := I.turnedNew hf kk (Nat.le_refl _)
      ⟨by show 2 ≤ sizeLine; decide, [.int i s.toks, u], .cons ⟨_, rfl⟩ (.cons ru .nil), ⟨_, (sb.2 _ (Nat.ne_of_gt hlt)).trans tp, rfl, _, rfl⟩⟩
    refine ⟨.ref s.heap.objs.size, _, I2, rfl, ⟨_, x, rfl, I.fresh, rfl, fun ys hy => by rw [I.list_inj hy hq]; exact hx⟩, ⟨⟨_, se2⟩, ?_⟩, fun b hb => ?_⟩
    · exact si'.at fun o eo => (sb.2 it (Ne.symm hne)).trans eo
    · rw [upd_ne]
      · exact (hf b hb).1
      · rcases List.mem_cons.mp hb with z | z
        · subst z; exact Nat.ne_of_lt hlt
        · have z : b = it := by simpa using z
          subst z; exact Nat.ne_of_lt hlt2
  done := by
    intro X hP hw hK hc i pins s σ H E I hf st hg
    subst hP hw hK
    obtain ⟨xs, hq, hx⟩ := hg
    obtain ⟨its, rv, p, hz⟩ := I.list hq
    obtain ⟨⟨old, se⟩, si⟩ := st
    have hl := rv.length
    exact wpAny_pyNext_enum_end (I.ok.hd hc) se si p.isList (by simp; omega) fun h' eb => ⟨rfl, I.turnedAll (t' := s.toks) hf fun b o hb e' => eb b o (fun z => hb (by simp [z])) e'⟩
  self := fun _ _ _ _ _ st h => let ⟨_, se⟩ := st.1; wpAny_pyIter_enum se h
section
variable {X : Cx} {es : List Expr} {k : Nat} {tpos : Pos}
def iEnum (K : PySem.W.Frag) (ta : TA) : TI := fun σ H R => ta σ H fun vs H1 => ∃ a, vs = [.ref a] ∧ (∃ xs, SqL K H1 a xs) ∧ R (Ite K a) H1
theorem pi_enum {a : Expr} {ta : TA} {p pos : Pos} (hg : Gl X "enumerate") (hm : X.mg "enumerate" = none) (ha : PA X [a] ta) (hs : starEach [a] X.env = [(false, eval a X.env)] := by rfl) : PI X (.Tuple es k tpos) (.Call (.Name "enumerate" p) [a] [] pos) (iEnum X.K ta) := by
  intro pins s σ H R I h
  refine Call_ (ld_blt I hg hm boot_enumerate (PyProof.Rows.callWith_type1 (thn (ha pos pins s σ H _ I h) fun us s1 ⟨vs, H1, I1, r1, q1⟩ => ?_) hs rfl))
  obtain ⟨l, e, ⟨xs, hq⟩, q⟩ := q1
  subst e
  cases r1 with
  | cons r rr =>
    cases rr
    cases r
    obtain ⟨its, rv, p, hz⟩ := I1.list hq
    refine call_enumerate_list p.isList fun h' he hi hsz kp => ?_
    refine wpAny_pyIter_enum he ?_
    have hne : s1.heap.objs.size + 1 ≠ s1.heap.objs.size := Nat.succ_ne_self _
    refine ⟨s1.heap.objs.size + 1, [s1.heap.objs.size + 1, s1.heap.objs.size], _, _, H1, rfl, I1.kept (t' := s1.toks) kp, turn_enum l _ _ hne, ⟨⟨_, he⟩, hi⟩, fun b hb => ?_, q⟩
    rcases List.mem_cons.mp hb with z | z
    · subst z; exact I1.fpOk (Nat.le_succ _) (I1.hok.fresh (Nat.le_succ _))
    · have z : b = s1.heap.objs.size := by simpa using z
      subst z; exact I1.fpOk (Nat.le_refl _) (I1.hok.fresh (Nat.le_refl _))
end
end L2
end
section
namespace L2
open PySem PySem.Spec PyProof.Rows
mutual
def Rep (K : PySem.W.Frag) (H : Hp) : PyData → V → Prop
  | .none, v => v = .non
  | .bool b, v => v = .bl b
  | .int i, v => v = .int i
  | .str x, v => v = .str x
  | .list ds, v => ∃ a xs, v = .ref a ∧ SqL K H a xs ∧ Reps K H ds xs
  | .tuple ds, v => ∃ a xs, v = .ref a ∧ SqT K H a xs ∧ Reps K H ds xs
  | .dict _, _ => False
def Reps (K : PySem.W.Frag) (H : Hp) : List PyData → List V → Prop
  | [], xs => xs = []
  | d :: ds, xs => ∃ x r, xs = x :: r ∧ Rep K H d x ∧ Reps K H ds r
end
theorem Same.seqT {K : PySem.W.Frag} {H H' : Hp} {a : Addr} {xs : List V} (e : Same H H') (h : SqT K H a xs) : SqT K H' a xs := by
  rcases h with (h | ⟨o, h⟩) | h
  · exact .inl (.inl (e _ _ h))
  · exact .inl (.inr ⟨o, e _ _ h⟩)
  · exact .inr h
mutual
theorem Rep.mono {K : PySem.W.Frag} {H H' : Hp} (e : Same H H') : ∀ (d : PyData) (v : V), Rep K H d v → Rep K H' d v
  | .none, _, h => by rw [Rep] at h ⊢; exact h
  | .bool _, _, h => by rw [Rep] at h ⊢; exact h
  | .int _, _, h => by rw [Rep] at h ⊢; exact h
  | .str _, _, h => by rw [Rep] at h ⊢; exact h
  | .list ds, v, h => by
    rw [Rep] at h ⊢
    obtain ⟨a, xs, h1, h2, h3⟩ := h
    exact ⟨a, xs, h1, e.seq h2, Reps.mono e ds xs h3⟩
  | .tuple ds, v, h => by
    rw [Rep] at h ⊢
    obtain ⟨a, xs, h1, h2, h3⟩ := h
    exact ⟨a, xs, h1, e.seqT h2, Reps.mono e ds xs h3⟩
  | .dict _, _, h => by rw [Rep] at h; exact h.elim
theorem Reps.mono {K : PySem.W.Frag} {H H' : Hp} (e : Same H H') : ∀ (ds : List PyData) (xs : List V), Reps K H ds xs → Reps K H' ds xs
  | [], _, h => by rw [Reps] at h ⊢; exact h
  | d :: ds, xs, h => by
    rw [Reps] at h ⊢
    obtain ⟨x, r, h1, h2, h3⟩ := h
    exact ⟨x, r, h1, Rep.mono e d x h2, Reps.mono e ds r h3⟩
end
theorem rep_int {K : PySem.W.Frag} {H : Hp} {i : Int} {v : V} : Rep K H (.int i) v ↔ v = .int i := by rw [Rep]
theorem rep_bool {K : PySem.W.Frag} {H : Hp} {b : Bool} {v : V} : Rep K H (.bool b) v ↔ v = .bl b := by rw [Rep]
theorem rep_none {K : PySem.W.Frag} {H : Hp} {v : V} : Rep K H .none v ↔ v = .non := by rw [Rep]
theorem rep_str {K : PySem.W.Frag} {H : Hp} {x : Str} {v : V} : Rep K H (.str x) v ↔ v = .str x := by rw [Rep]
theorem rep_list {K : PySem.W.Frag} {H : Hp} {ds : List PyData} {v : V} : Rep K H (.list ds) v ↔ ∃ a xs, v = .ref a ∧ SqL K H a xs ∧ Reps K H ds xs := by rw [Rep]
theorem rep_tuple {K : PySem.W.Frag} {H : Hp} {ds : List PyData} {v : V} : Rep K H (.tuple ds) v ↔ ∃ a xs, v = .ref a ∧ SqT K H a xs ∧ Reps K H ds xs := by rw [Rep]
theorem reps_nil {K : PySem.W.Frag} {H : Hp} {xs : List V} : Reps K H [] xs ↔ xs = [] := by rw [Reps]
theorem reps_cons {K : PySem.W.Frag} {H : Hp} {d : PyData} {ds : List PyData} {xs : List V} : Reps K H (d :: ds) xs ↔ ∃ x r, xs = x :: r ∧ Rep K H d x ∧ Reps K H ds r := by rw [Reps]
theorem Reps.nil' {K : PySem.W.Frag} {H : Hp} : Reps K H [] [] := reps_nil.mpr rfl
theorem Reps.cons' {K : PySem.W.Frag} {H : Hp} {d : PyData} {ds : List PyData} {x : V} {r : List V} (h : Rep K H d x) (t : Reps K H ds r) : Reps K H (d :: ds) (x :: r) := reps_cons.mpr ⟨x, r, rfl, h, t⟩
theorem Reps.length {K : PySem.W.Frag} {H : Hp} : ∀ {ds : List PyData} {xs : List V}, Reps K H ds xs → xs.length = ds.length
  | [], xs, h => by rw [reps_nil.mp h]; rfl
  | d :: ds, xs, h => by
    obtain ⟨x, r, rfl, _, h3⟩ := reps_cons.mp h
    rw [List.length_cons, List.length_cons, Reps.length h3]
theorem Reps.get {K : PySem.W.Frag} {H : Hp} : ∀ {ds : List PyData} {xs : List V} {i : Nat} {d : PyData}, Reps K H ds xs → ds[i]? = some d → ∃ x, xs[i]? = some x ∧ Rep K H d x
  | [], _, _, _, _, e => by simp at e
  | d :: ds, xs, 0, d', h, e => by
    obtain ⟨x, r, rfl, h2, _⟩ := reps_cons.mp h
    simp at e; subst e
    exact ⟨x, rfl, h2⟩
  | d :: ds, xs, i + 1, d', h, e => by
    obtain ⟨x, r, rfl, _, h3⟩ := reps_cons.mp h
    obtain ⟨y, h1, h2⟩ := Reps.get (i := i) h3 (by simpa using e)
    exact ⟨y, by simpa using h1, h2⟩
theorem Reps.snoc {K : PySem.W.Frag} {H : Hp} {d : PyData} {x : V} (h : Rep K H d x) : ∀ {ds : List PyData} {xs : List V}, Reps K H ds xs → Reps K H (ds ++ [d]) (xs ++ [x])
  | [], xs, t => by rw [reps_nil.mp t]; exact .cons' h .nil'
  | d' :: ds, xs, t => by
    obtain ⟨y, r, rfl, h2, h3⟩ := reps_cons.mp t
    exact .cons' h2 (Reps.snoc h h3)
theorem Reps.append {K : PySem.W.Frag} {H : Hp} : ∀ {ds es : List PyData} {xs ys : List V}, Reps K H ds xs → Reps K H es ys → Reps K H (ds ++ es) (xs ++ ys)
  | [], es, xs, ys, t, u => by rw [reps_nil.mp t]; exact u
  | d' :: ds, es, xs, ys, t, u => by
    obtain ⟨y, r, rfl, h2, h3⟩ := reps_cons.mp t
    exact .cons' h2 (Reps.append h3 u)
theorem Reps.ints {K : PySem.W.Frag} {H : Hp} : ∀ {ns : List Int} {xs : List V}, Reps K H (ns.map .int) xs → xs = ns.map V.int
  | [], xs, h => reps_nil.mp h
  | n :: ns, xs, h => by
    obtain ⟨x, r, rfl, h2, h3⟩ := reps_cons.mp h
    rw [rep_int.mp h2, Reps.ints h3]; rfl
theorem Reps.ints' {K : PySem.W.Frag} {H : Hp} : ∀ (ns : List Int), Reps K H (ns.map .int) (ns.map V.int)
  | [] => .nil'
  | n :: ns => .cons' (rep_int.mpr rfl) (Reps.ints' ns)
section
variable {X : Cx} {pins : List (Addr × Obj)} {σ : St} {H : Hp} {s : Shared}
mutual
theorem reads_of (I : Inv X pins σ H s) : ∀ (d : PyData) (v : V) (u : Value), Rep X.K H d v → RelV v u → ∃ as, Reads s.heap u d as
  | .none, v, u, h, r => by rw [rep_none.mp h] at r; cases r; exact ⟨_, .none⟩
  | .bool b, v, u, h, r => by rw [rep_bool.mp h] at r; cases r; exact ⟨_, .bool b⟩
  | .int i, v, u, h, r => by rw [rep_int.mp h] at r; obtain ⟨t, rfl⟩ := r; exact ⟨_, .int i t⟩
  | .str x, v, u, h, r => by rw [rep_str.mp h] at r; obtain ⟨t, rfl⟩ := r; exact ⟨_, .str x t⟩
  | .list ds, v, u, h, r => by
    obtain ⟨a, xs, rfl, h2, h3⟩ := rep_list.mp h
    cases r
    obtain ⟨its, rv, p, _⟩ := I.list h2
    obtain ⟨o, ho, hc, n, hd⟩ := p.isList
    obtain ⟨as, ra⟩ := readsAll_of I ds xs its h3 rv
    exact ⟨_, .list ho hc hd (by simpa using ra)⟩
  | .tuple ds, v, u, h, r => by
    obtain ⟨a, xs, rfl, h2, h3⟩ := rep_tuple.mp h
    cases r
    obtain ⟨its, rv, p, _⟩ := I.tuple h2
    obtain ⟨o, ho, hc, n, hd⟩ := p
    obtain ⟨as, ra⟩ := readsAll_of I ds xs its h3 rv
    exact ⟨_, .tuple ho hc hd (by simpa using ra)⟩
  | .dict _, _, _, h, _ => by rw [Rep] at h; exact h.elim
theorem readsAll_of (I : Inv X pins σ H s) : ∀ (ds : List PyData) (xs : List V) (us : List Value), Reps X.K H ds xs → Vals xs us → ∃ as, ReadsAll s.heap us ds as
  | [], xs, us, h, r => by rw [reps_nil.mp h] at r; cases r; exact ⟨_, .nil⟩
  | d :: ds, xs, us, h, r => by
    obtain ⟨x, q, rfl, h2, h3⟩ := reps_cons.mp h
    cases r with
    | cons r1 r2 =>
      obtain ⟨as, ra⟩ := reads_of I d x _ h2 r1
      obtain ⟨bs, rb⟩ := readsAll_of I ds q _ h3 r2
      exact ⟨_, .cons ra rb⟩
end
def rEqD (K : PySem.W.Frag) (neg : Bool) : R2 := fun x y H Q => ∃ d d', Rep K H d x ∧ Rep K H d' y ∧ d.canLay0 = true ∧ d'.canLay0 = true ∧ min d.depth d'.depth ≤ 60 ∧ Q (.bl (if neg then !PyData.eqv d d' else PyData.eqv d d')) H
theorem op_eqD (hu : X.A.units + 64 < cLine) : OpR X (compareOp .Eq) (rEqD X.K false) := by
  intro pins s σ H x y v u Q I rx ry h
  obtain ⟨d, d', h1, h2, c1, c2, hm, q⟩ := h
  obtain ⟨as, ra⟩ := reads_of I d x v h1 rx
  obtain ⟨bs, rb⟩ := reads_of I d' y u h2 ry
  exact SeqAt.compareEq_reads ra rb c1 c2 (by omega) ⟨.bl (PyData.eqv d d'), H, I, rfl, q⟩
theorem op_neD (hu : X.A.units + 64 < cLine) : OpR X (compareOp .NotEq) (rEqD X.K true) := by
  intro pins s σ H x y v u Q I rx ry h
  obtain ⟨d, d', h1, h2, c1, c2, hm, q⟩ := h
  obtain ⟨as, ra⟩ := reads_of I d x v h1 rx
  obtain ⟨bs, rb⟩ := reads_of I d' y u h2 ry
  exact SeqAt.compareNe_reads ra rb c1 c2 (by omega) ⟨.bl (!PyData.eqv d d'), H, I, rfl, q⟩
theorem call_minL (hc : X.calm = true) : CallR X (.builtin "min") (fun xs H Q => ∃ a ns, xs = [.ref a] ∧ SqL X.K H a (ns.map V.int) ∧ ns ≠ [] ∧ ∀ M, M ∈ ns → (∀ b ∈ ns, M ≤ b) → Q (.int M) H) := by
  intro pins s σ H xs us Q I r h
  obtain ⟨a, ns, rfl, hq, hne, q⟩ := h
  obtain ⟨u, rfl, r1⟩ := vals1 r
  cases r1
  obtain ⟨its, rv, p, _⟩ := I.list hq
  obtain ⟨m, F⟩ := I.fr
  have hi := intsAre_of rv
  obtain ⟨ys, e⟩ := hi.allInts.items
  have hns : ns = ys.toList.map (·.1) := by rw [← hi.numsOf, ← nums_intItems, ← e]
  have hsz : 0 < ys.size := by
    have h3 : 0 < ns.length := List.length_pos_iff.mpr hne
    rw [hns, List.length_map, Array.length_toList] at h3; exact h3
  have hl := p.isList
  rw [e] at hl
  refine min_intList (I.ok.hd hc) hl hsz fun v h' tk hv hk => ?_
  obtain ⟨t, rfl⟩ := intItems_at hv
  obtain ⟨_, h2⟩ := argBest_lt (numAt ys) (ys.size - 1)
  refine ⟨.int _, H, I.kept (t' := tk) hk, ⟨t, rfl⟩, q _ ?_ fun b hb => ?_⟩
  · rw [hns, numAt_eq]; exact getD_mem (by rw [List.length_map, Array.length_toList]; omega)
  · rw [hns] at hb
    obtain ⟨j, hj, rfl⟩ := mem_getD hb
    rw [List.length_map, Array.length_toList] at hj
    rw [← numAt_eq]; exact h2 j (by omega)
theorem call_maxL (hc : X.calm = true) : CallR X (.builtin "max") (fun xs H Q => ∃ a ns, xs = [.ref a] ∧ SqL X.K H a (ns.map V.int) ∧ ns ≠ [] ∧ ∀ M, M ∈ ns → (∀ b ∈ ns, b ≤ M) → Q (.int M) H) := by
  intro pins s σ H xs us Q I r h
  obtain ⟨a, ns, rfl, hq, hne, q⟩ := h
  obtain ⟨u, rfl, r1⟩ := vals1 r
  cases r1
  obtain ⟨its, rv, p, _⟩ := I.list hq
  have hi := intsAre_of rv
  obtain ⟨ys, e⟩ := hi.allInts.items
  have hns : ns = ys.toList.map (·.1) := by rw [← hi.numsOf, ← nums_intItems, ← e]
  have hsz : 0 < ys.size := by
    have h3 : 0 < ns.length := List.length_pos_iff.mpr hne
    rw [hns, List.length_map, Array.length_toList] at h3; exact h3
  have hl := p.isList
  rw [e] at hl
  refine max_intList (I.ok.hd hc) hl hsz fun v h' tk hv hk => ?_
  obtain ⟨t, rfl⟩ := intItems_at hv
  obtain ⟨_, h2⟩ := argBest_gt (numAt ys) (ys.size - 1)
  refine ⟨.int _, H, I.kept (t' := tk) hk, ⟨t, rfl⟩, q _ ?_ fun b hb => ?_⟩
  · rw [hns, numAt_eq]; exact getD_mem (by rw [List.length_map, Array.length_toList]; omega)
  · rw [hns] at hb
    obtain ⟨j, hj, rfl⟩ := mem_getD hb
    rw [List.length_map, Array.length_toList] at hj
    rw [← numAt_eq]; exact h2 j (by omega)
end
end L2
end
section
namespace L2
open PySem PySem.Spec PyProof.Rows
inductive DV where
  | dat (d : PyData)
  | feed
  | own (k : Nat)
  | exc (C : Value)
  | mon (φ : Hp → V → Prop)
abbrev DEnv := List (Option DV)
structure Fx where
  f : Option Addr
  M : List Addr
def hide (H : Hp) (f : Fx) : Hp := fun b => if f.f = some b ∨ b ∈ f.M then none else H b
structure FOk (f : Fx) (H : Hp) : Prop where
  fd : ∀ p, f.f = some p → ∃ a b : Int, H p = some (.lst [.int a, .int b]) ∧ 0 ≤ a ∧ 0 ≤ b ∧ b < 2147483647
  mm : ∀ b ∈ f.M, ∃ o, H b = some o
  nm : ∀ p, f.f = some p → p ∉ f.M
def RepV (K : PySem.W.Frag) (f : Fx) (H : Hp) : DV → V → Prop
  | .dat d, v => Rep K (hide H f) d v
  | .feed, v => ∃ p, f.f = some p ∧ v = .ref p
  | .own k, v => ∃ p, f.M.reverse[k]? = some p ∧ v = .ref p
  | .exc C, v => ∃ a, v = .ref a ∧ hide H f a = some (.ext fun h => ∃ o, h.get? a = some o ∧ o.cls = C)
  | .mon φ, v => ∀ H', Same (hide H f) H' → φ H' v
structure Goes (f : Fx) (H H' : Hp) : Prop where
  sm : Same (hide H f) (hide H' f)
  ok : FOk f H'
  kp : ∀ b ∈ f.M, H' b = H b
structure EnvOk (K : PySem.W.Frag) (f : Fx) (ρ : DEnv) (σ : St) (H : Hp) : Prop where
  len : ρ.length = σ.length
  get : ∀ (i : Nat) x, ρ[i]? = some (some x) → ∃ v, σ[i]? = some (some v) ∧ RepV K f H x v
  fd : FOk f H
theorem hide_none (H : Hp) : hide H ⟨none, []⟩ = H := by funext b; unfold hide; rw [if_neg (by rintro (h | h) <;> cases h)]
theorem hide_same (H : Hp) (f : Fx) : Same (hide H f) H := fun b o h => by
  unfold hide at h
  split at h
  · cases h
  · exact h
theorem hide_of {H : Hp} {f : Fx} {b : Addr} {o : HO} (h : hide H f b = some o) : ¬ (f.f = some b ∨ b ∈ f.M) ∧ H b = some o := by
  unfold hide at h
  split at h
  · cases h
  · rename_i n; exact ⟨n, h⟩
theorem hide_get {H : Hp} {f : Fx} {b : Addr} {o : HO} (n : ¬ (f.f = some b ∨ b ∈ f.M)) (h : H b = some o) : hide H f b = some o := by unfold hide; rw [if_neg n]; exact h
theorem Goes.refl {f : Fx} {H : Hp} (h : FOk f H) : Goes f H H := ⟨Same.refl _, h, fun _ _ => rfl⟩
theorem Goes.trans {f : Fx} {H H1 H2 : Hp} (a : Goes f H H1) (b : Goes f H1 H2) : Goes f H H2 := ⟨a.1.trans b.1, b.2, fun x hx => (b.kp x hx).trans (a.kp x hx)⟩
theorem Goes.of_same {f : Fx} {H H' : Hp} (s : Same H H') (h : FOk f H) : Goes f H H' :=
  ⟨fun b o e => hide_get (hide_of e).1 (s b o (hide_of e).2), ⟨fun p e => let ⟨a, b, h1, h2⟩ := h.fd p e; ⟨a, b, s _ _ h1, h2⟩, fun b hb => let ⟨o, e⟩ := h.mm b hb; ⟨o, s _ _ e⟩, h.nm⟩, fun b hb => let ⟨o, e⟩ := h.mm b hb; (s _ _ e).trans e.symm⟩
theorem same_new {H : Hp} {p : Addr} (h : H p = none) (o : HO) : Same H (upd H p o) := fun b u q => by rw [upd_ne (ne_of_none q h)]; exact q
theorem RepV.mono {K : PySem.W.Frag} {f : Fx} {H H' : Hp} (g : Goes f H H') : ∀ {x : DV} {v : V}, RepV K f H x v → RepV K f H' x v
  | .dat d, v, h => Rep.mono g.1 d v h
  | .feed, v, h => h
  | .own _, v, h => h
  | .exc _, v, h => let ⟨a, e, q⟩ := h; ⟨a, e, g.1 _ _ q⟩
  | .mon _, v, h => fun H' s => h H' (g.1.trans s)
theorem EnvOk.mono {K : PySem.W.Frag} {f : Fx} {ρ : DEnv} {σ : St} {H H' : Hp} (e : EnvOk K f ρ σ H) (g : Goes f H H') : EnvOk K f ρ σ H' :=
  ⟨e.len, fun i x h => let ⟨v, h1, h2⟩ := e.get i x h; ⟨v, h1, h2.mono g⟩, g.2⟩
theorem EnvOk.set {K : PySem.W.Frag} {f : Fx} {ρ : DEnv} {σ : St} {H : Hp} {x : DV} {v : V} (e : EnvOk K f ρ σ H) (i : Nat) (r : RepV K f H x v) : EnvOk K f (ρ.set i (some x)) (σ.set i (some v)) H := by
  refine ⟨by rw [List.length_set, List.length_set]; exact e.len, fun j y h => ?_, e.fd⟩
  by_cases hj : i = j
  · subst hj
    by_cases hi : i < ρ.length
    · rw [List.getElem?_set_self hi] at h
      cases h
      exact ⟨v, by rw [List.getElem?_set_self (by rw [← e.len]; exact hi)], r⟩
    · rw [List.getElem?_eq_none (by rw [List.length_set]; omega)] at h; cases h
  · rw [List.getElem?_set_ne hj] at h ⊢
    exact e.get j y h
theorem fresh_ne {f : Fx} {H : Hp} {p : Addr} (h : FOk f H) (n : H p = none) : ¬ (f.f = some p ∨ p ∈ f.M) := fun e => by
  rcases e with e | e
  · obtain ⟨a, b, h1, _⟩ := h.fd p e
    rw [n] at h1; cases h1
  · obtain ⟨o, h1⟩ := h.mm p e
    rw [n] at h1; cases h1
inductive RepVs (K : PySem.W.Frag) (f : Fx) (H : Hp) : List DV → List V → Prop where
  | nil : RepVs K f H [] []
  | cons {x v xs vs} : RepV K f H x v → RepVs K f H xs vs → RepVs K f H (x :: xs) (v :: vs)
theorem RepVs.mono {K : PySem.W.Frag} {f : Fx} {H H' : Hp} (g : Goes f H H') : ∀ {xs : List DV} {vs : List V}, RepVs K f H xs vs → RepVs K f H' xs vs
  | _, _, .nil => .nil
  | _, _, .cons r t => .cons (r.mono g) (t.mono g)
theorem RepVs.length {K : PySem.W.Frag} {f : Fx} {H : Hp} : ∀ {xs : List DV} {vs : List V}, RepVs K f H xs vs → vs.length = xs.length
  | _, _, .nil => rfl
  | _, _, .cons _ t => by rw [List.length_cons, List.length_cons, t.length]
section
variable (K : PySem.W.Frag) (f : Fx)
def PEd (te : TE) (ρ : DEnv) (P : PyData → Prop) : Prop := ∀ (σ : St) (H : Hp) (Q : VK), EnvOk K f ρ σ H → (∀ d v H', Goes f H H' → Rep K (hide H' f) d v → P d → Q v H') → te σ H Q
def PTd (tt : TT) (ρ : DEnv) (P : Bool → Prop) : Prop := ∀ (σ : St) (H : Hp) (Q : Bool → Hp → Prop), EnvOk K f ρ σ H → (∀ b H', Goes f H H' → P b → Q b H') → tt σ H Q
def PAd (ta : TA) (ρ : DEnv) (P : List DV → Prop) : Prop := ∀ (σ : St) (H : Hp) (Q : List V → Hp → Prop), EnvOk K f ρ σ H → (∀ xs vs H', Goes f H H' → RepVs K f H' xs vs → P xs → Q vs H') → ta σ H Q
structure DEnds where
  nx : DEnv → Prop
  rt : PyData → Prop
  bk : DEnv → Prop := fun _ => False
  ct : DEnv → Prop := fun _ => False
def PSd (ts : TS) (ρ : DEnv) (D : DEnds) : Prop := ∀ (σ : St) (H : Hp) (E : Ends), EnvOk K f ρ σ H → (∀ ρ' σ' H', Goes f H H' → EnvOk K f ρ' σ' H' → D.nx ρ' → E.nx σ' H') → (∀ d v H', Goes f H H' → Rep K (hide H' f) d v → D.rt d → E.rt v H') →
  (∀ ρ' σ' H', Goes f H H' → EnvOk K f ρ' σ' H' → D.bk ρ' → E.bk σ' H') → (∀ ρ' σ' H', Goes f H H' → EnvOk K f ρ' σ' H' → D.ct ρ' → E.ct σ' H') → ts E σ H
def spD {γ : Type} (n : Nat) (pre : γ → List DV → Prop) (post : γ → PyData → Prop) : Sp := fun vs H Q _ => ∃ f xs c, RepVs K f H xs vs ∧ xs.length = n ∧ FOk f H ∧ pre c xs ∧ ∀ r v H', Goes f H H' → Rep K (hide H' f) r v → post c r → Q v H'
end
section
variable {K : PySem.W.Frag} {f : Fx} {ρ : DEnv} {P : PyData → Prop} {te ta tb tc : TE}
theorem d_var {i : Nat} {d : PyData} (h : ρ[i]? = some (some (.dat d))) (p : P d) : PEd K f (tVar i) ρ P := fun σ H Q e q => by
  obtain ⟨v, h1, h2⟩ := e.get i _ h
  exact ⟨v, h1, q d v H (.refl e.fd) h2 p⟩
theorem d_int {i : Int} (p : P (.int i)) : PEd K f (tC (.int i)) ρ P := fun σ H Q e q => q (.int i) _ H (.refl e.fd) (rep_int.mpr rfl) p
theorem d_bl {i : Bool} (p : P (.bool i)) : PEd K f (tC (.bl i)) ρ P := fun σ H Q e q => q (.bool i) _ H (.refl e.fd) (rep_bool.mpr rfl) p
theorem d_str {i : Str} (p : P (.str i)) : PEd K f (tC (.str i)) ρ P := fun σ H Q e q => q (.str i) _ H (.refl e.fd) (rep_str.mpr rfl) p
theorem d_non (p : P .none) : PEd K f (tC .non) ρ P := fun σ H Q e q => q .none _ H (.refl e.fd) (rep_none.mpr rfl) p
theorem PEd.imp {P' : PyData → Prop} (h : PEd K f te ρ P) (i : ∀ d, P d → P' d) : PEd K f te ρ P' := fun σ H Q e q => h σ H Q e fun d v H' g r p => q d v H' g r (i d p)
theorem d_op {r : R2} (h : PEd K f ta ρ fun x => PEd K f tb ρ fun y => ∀ (v w : V) (H : Hp) (Q : VK), FOk f H → Rep K (hide H f) x v → Rep K (hide H f) y w → (∀ d u H', Goes f H H' → Rep K (hide H' f) d u → P d → Q u H') → r v w H Q) : PEd K f (tOp r ta tb) ρ P := fun σ H Q e q =>
  h σ H _ e fun x v H1 g1 r1 p1 => p1 σ H1 _ (e.mono g1) fun y w H2 g2 r2 p2 => p2 v w H2 Q g2.2 (Rep.mono g2.1 x v r1) r2 fun d u H' g' r' p' => q d u H' (g1.trans (g2.trans g')) r' p'
theorem d_un {r : V → Hp → VK → Prop} (h : PEd K f ta ρ fun x => ∀ (v : V) (H : Hp) (Q : VK), FOk f H → Rep K (hide H f) x v → (∀ d u H', Goes f H H' → Rep K (hide H' f) d u → P d → Q u H') → r v H Q) : PEd K f (tUn r ta) ρ P := fun σ H Q e q =>
  h σ H _ e fun x v H1 g1 r1 p1 => p1 v H1 Q g1.2 r1 fun d u H' g' r' p' => q d u H' (g1.trans g') r' p'
theorem d_opI {g : Int → Int → Int} (h : PEd K f ta ρ fun x => ∃ i, x = .int i ∧ PEd K f tb ρ fun y => ∃ j, y = .int j ∧ P (.int (g i j))) : PEd K f (tOp (rI0 fun i j => .int (g i j)) ta tb) ρ P :=
  d_op (h.imp fun x ⟨i, ex, h2⟩ => h2.imp fun y ⟨j, ey, p⟩ v w H Q fo rx ry q => by
    subst ex ey
    exact ⟨i, j, rep_int.mp rx, rep_int.mp ry, q _ _ H (.refl fo) (rep_int.mpr rfl) p⟩)
theorem d_opIC {C : Int → Int → Prop} {g : Int → Int → Int} (h : PEd K f ta ρ fun x => ∃ i, x = .int i ∧ PEd K f tb ρ fun y => ∃ j, y = .int j ∧ C i j ∧ P (.int (g i j))) : PEd K f (tOp (rI C fun i j => .int (g i j)) ta tb) ρ P :=
  d_op (h.imp fun x ⟨i, ex, h2⟩ => h2.imp fun y ⟨j, ey, c, p⟩ v w H Q fo rx ry q => by
    subst ex ey
    exact ⟨i, j, rep_int.mp rx, rep_int.mp ry, c, q _ _ H (.refl fo) (rep_int.mpr rfl) p⟩)
theorem d_opB {g : Int → Int → Bool} (h : PEd K f ta ρ fun x => ∃ i, x = .int i ∧ PEd K f tb ρ fun y => ∃ j, y = .int j ∧ P (.bool (g i j))) : PEd K f (tOp (rI0 fun i j => .bl (g i j)) ta tb) ρ P :=
  d_op (h.imp fun x ⟨i, ex, h2⟩ => h2.imp fun y ⟨j, ey, p⟩ v w H Q fo rx ry q => by
    subst ex ey
    exact ⟨i, j, rep_int.mp rx, rep_int.mp ry, q _ _ H (.refl fo) (rep_bool.mpr rfl) p⟩)
theorem d_eqD {neg : Bool} (h : PEd K f ta ρ fun x => PEd K f tb ρ fun y => x.canLay0 = true ∧ y.canLay0 = true ∧ min x.depth y.depth ≤ 60 ∧ P (.bool (if neg then !PyData.eqv x y else PyData.eqv x y))) : PEd K f (tOp (rEqD K neg) ta tb) ρ P :=
  d_op (h.imp fun x h2 => h2.imp fun y ⟨c1, c2, c3, p⟩ v w H Q fo rx ry q =>
    ⟨x, y, Rep.mono (hide_same _ _) x v rx, Rep.mono (hide_same _ _) y w ry, c1, c2, c3, q _ _ H (.refl fo) (rep_bool.mpr rfl) p⟩)
theorem ixN_of {n : Nat} {k : Int} {j : Nat} (h : (j : Int) = k) (hj : j < n) : ixN n k = some j := by
  unfold ixN
  rw [if_pos (by omega), if_pos (by omega)]
  congr 1
  omega
theorem d_ixL (h : PEd K f ta ρ fun x => ∃ ds, x = .list ds ∧ PEd K f tb ρ fun y => ∃ k, y = .int k ∧ ∃ d, atI ds k = some d ∧ P d) : PEd K f (tOp (rIxL K) ta tb) ρ P :=
  d_op (h.imp fun x ⟨ds, ex, h2⟩ => h2.imp fun y ⟨k, ey, d, a, p⟩ v w H Q fo rx ry q => by
    subst ex ey
    obtain ⟨l, xs, rfl, hs, hr⟩ := rep_list.mp rx
    unfold atI at a
    cases hi : ixN ds.length k with
    | none => rw [hi] at a; cases a
    | some j =>
      rw [hi] at a
      obtain ⟨u, hu, ru⟩ := hr.get a
      exact ⟨l, xs, k, u, rfl, rep_int.mp ry, (hide_same H f).seq hs, by unfold atI; rw [hr.length, hi]; exact hu, q d u H (.refl fo) ru p⟩)
theorem d_ixT (h : PEd K f ta ρ fun x => ∃ ds, x = .tuple ds ∧ PEd K f tb ρ fun y => ∃ k, y = .int k ∧ ∃ d, atI ds k = some d ∧ P d) : PEd K f (tOp (rIxT K) ta tb) ρ P :=
  d_op (h.imp fun x ⟨ds, ex, h2⟩ => h2.imp fun y ⟨k, ey, d, a, p⟩ v w H Q fo rx ry q => by
    subst ex ey
    obtain ⟨l, xs, rfl, hs, hr⟩ := rep_tuple.mp rx
    unfold atI at a
    cases hi : ixN ds.length k with
    | none => rw [hi] at a; cases a
    | some j =>
      rw [hi] at a
      obtain ⟨u, hu, ru⟩ := hr.get a
      exact ⟨l, xs, k, u, rfl, rep_int.mp ry, (hide_same H f).seqT hs, by unfold atI; rw [hr.length, hi]; exact hu, q d u H (.refl fo) ru p⟩)
theorem d_ixF {i : Nat} (hi : ρ[i]? = some (some .feed)) (h : PEd K f tb ρ fun y => (y = .int 0 ∧ ∀ a : Int, 0 ≤ a → P (.int a)) ∨ (y = .int 1 ∧ ∀ b : Int, 0 ≤ b → b < 2147483647 → P (.int b))) : PEd K f (tOp (rIxL K) (tVar i) tb) ρ P := fun σ H Q e q => by
  obtain ⟨v, h1, p, ef, ev⟩ := e.get i _ hi
  refine ⟨v, h1, h σ H _ e fun y w H' g r c => ?_⟩
  obtain ⟨a, b, hf, c1, c2, c3⟩ := g.2.fd p ef
  rcases c with ⟨rfl, c⟩ | ⟨rfl, c⟩
  · exact ⟨p, _, 0, .int a, ev, rep_int.mp r, SqL.of hf, rfl, q (.int a) _ H' g (rep_int.mpr rfl) (c a c1)⟩
  · exact ⟨p, _, 1, .int b, ev, rep_int.mp r, SqL.of hf, rfl, q (.int b) _ H' g (rep_int.mpr rfl) (c b c2 c3)⟩
theorem a_nil {R : List DV → Prop} (p : R []) : PAd K f tNil ρ R := fun σ H Q e q => q [] [] H (.refl e.fd) .nil p
theorem a_cons {R : List DV → Prop} {u : TA} (h : PEd K f te ρ fun x => PAd K f u ρ fun xs => R (.dat x :: xs)) : PAd K f (tCons te u) ρ R := fun σ H Q e q =>
  h σ H _ e fun x v H1 g1 r1 p1 => p1 σ H1 _ (e.mono g1) fun xs vs H2 g2 r2 p2 => q (.dat x :: xs) (v :: vs) H2 (g1.trans g2) (.cons (RepV.mono (x := .dat x) g2 r1) r2) p2
theorem a_feed {R : List DV → Prop} {u : TA} {i : Nat} (hi : ρ[i]? = some (some .feed)) (h : PAd K f u ρ fun xs => R (.feed :: xs)) : PAd K f (tCons (tVar i) u) ρ R := fun σ H Q e q => by
  obtain ⟨v, h1, h2⟩ := e.get i _ hi
  exact ⟨v, h1, h σ H _ e fun xs vs H2 g2 r2 p2 => q (.feed :: xs) (v :: vs) H2 g2 (.cons (RepV.mono (x := .feed) g2 h2) r2) p2⟩
def allDat : List DV → Option (List PyData)
  | [] => some []
  | .dat d :: r => (allDat r).map (d :: ·)
  | .feed :: _ => none
  | .own _ :: _ => none
  | .exc _ :: _ => none
  | .mon _ :: _ => none
theorem reps_of {H : Hp} : ∀ {xs : List DV} {vs : List V} {ds : List PyData}, RepVs K f H xs vs → allDat xs = some ds → Reps K (hide H f) ds vs
  | _, _, ds, .nil, e => by cases e; exact .nil'
  | .dat d :: xs, v :: vs, ds, .cons r t, e => by
    unfold allDat at e
    cases q : allDat xs with
    | none => rw [q] at e; cases e
    | some es => rw [q] at e; cases e; exact .cons' r (reps_of t q)
  | .feed :: xs, _, ds, .cons r t, e => by cases e
  | .own _ :: xs, _, ds, .cons r t, e => by cases e
  | .exc _ :: xs, _, ds, .cons r t, e => by cases e
  | .mon _ :: xs, _, ds, .cons r t, e => by cases e
theorem d_lst {t : TA} (h : PAd K f t ρ fun xs => ∃ ds, allDat xs = some ds ∧ ds.length ≤ 1000 ∧ P (.list ds)) : PEd K f (tLst t) ρ P := fun σ H Q e q =>
  h σ H _ e fun xs vs H1 g1 r1 ⟨ds, ea, hl, p⟩ => by
    have rs := reps_of r1 ea
    refine ⟨by rw [rs.length]; exact Nat.le_of_lt (small1000 hl), fun l hn => ?_⟩
    have sm := same_new hn (.lst vs)
    have g2 : Goes f H1 (upd H1 l (.lst vs)) := .of_same sm g1.2
    exact q (.list ds) _ _ (g1.trans g2) (rep_list.mpr ⟨l, vs, rfl, .of (hide_get (fresh_ne g1.2 hn) upd_same), Reps.mono g2.1 ds vs rs⟩) p
theorem d_tup {t : TA} (h : PAd K f t ρ fun xs => ∃ ds, allDat xs = some ds ∧ ds.length ≤ 1000 ∧ P (.tuple ds)) : PEd K f (tTup t) ρ P := fun σ H Q e q =>
  h σ H _ e fun xs vs H1 g1 r1 ⟨ds, ea, hl, p⟩ => by
    have rs := reps_of r1 ea
    refine ⟨by rw [rs.length]; exact Nat.le_of_lt (small1000 hl), fun l hn => ?_⟩
    have sm := same_new hn (.tup vs)
    have g2 : Goes f H1 (upd H1 l (.tup vs)) := .of_same sm g1.2
    exact q (.tuple ds) _ _ (g1.trans g2) (rep_tuple.mpr ⟨l, vs, rfl, .of (hide_get (fresh_ne g1.2 hn) upd_same), Reps.mono g2.1 ds vs rs⟩) p
theorem d_call {γ : Type} {n : Nat} {pre : γ → List DV → Prop} {post : γ → PyData → Prop} {E : XK} {t : TA} (c : γ) (h : PAd K f t ρ fun xs => xs.length = n ∧ pre c xs ∧ ∀ r, post c r → P r) : PEd K f (tCall (spD K n pre post) [] E t) ρ P := fun σ H Q e q =>
  h σ H _ e fun xs vs H1 g1 r1 ⟨hl, hp, k⟩ => by
    refine ⟨f, xs, c, by rw [List.append_nil]; exact r1, hl, g1.2, hp, fun r v H' g' r' p' => q r v H' (g1.trans g') r' (k r p')⟩
theorem d_cb {r : List V → Hp → VK → Prop} {t : TA} (h : PAd K f t ρ fun xs => ∃ ds, allDat xs = some ds ∧ ∀ (vs : List V) (H : Hp) (Q : VK), FOk f H → Reps K (hide H f) ds vs → (∀ d u H', Goes f H H' → Rep K (hide H' f) d u → P d → Q u H') → r vs H Q) : PEd K f (tCB r t) ρ P := fun σ H Q e q =>
  h σ H _ e fun xs vs H1 g1 r1 ⟨ds, ea, k⟩ => k vs H1 Q g1.2 (reps_of r1 ea) fun d u H' g' r' p' => q d u H' (g1.trans g') r' p'
end
end L2
end
section
namespace L2
open PySem PySem.Spec PyProof.Rows
section
variable {K : PySem.W.Frag} {f : Fx} {ρ : DEnv} {P : PyData → Prop} {B : Bool → Prop} {te ta tb tc : TE} {tt tu : TT}
theorem PTd.imp {B' : Bool → Prop} (h : PTd K f tt ρ B) (i : ∀ d, B d → B' d) : PTd K f tt ρ B' := fun σ H Q e q => h σ H Q e fun d H' g p => q d H' g (i d p)
theorem t_test (h : PEd K f te ρ fun d => ∃ k, d = .bool k ∧ B k) : PTd K f (tTest te) ρ B := fun σ H Q e q => h σ H _ e fun d v H' g r ⟨k, ed, p⟩ => by
  subst ed
  exact ⟨k, rep_bool.mp r, q k H' g p⟩
theorem t_b (h : PEd K f te ρ fun d => ∃ k, d = .bool k ∧ B k) : PTd K f (tB te) ρ B := fun σ H Q e q => h σ H _ e fun d v H' g r ⟨k, ed, p⟩ => by
  subst ed
  exact ⟨k, rep_bool.mp r, q k H' g p⟩
theorem t_and (h : PTd K f tt ρ fun c => if c = true then PTd K f tu ρ B else B false) : PTd K f (tAnd tt tu) ρ B := fun σ H Q e q => h σ H _ e fun c H1 g p => by
  cases c with
  | true =>
    rw [if_pos rfl] at p ⊢
    exact p σ H1 Q (e.mono g) fun b H2 g2 p2 => q b H2 (g.trans g2) p2
  | false =>
    rw [if_neg Bool.false_ne_true] at p ⊢
    exact q false H1 g p
theorem t_or (h : PTd K f tt ρ fun c => if c = true then B true else PTd K f tu ρ B) : PTd K f (tOr tt tu) ρ B := fun σ H Q e q => h σ H _ e fun c H1 g p => by
  cases c with
  | true =>
    rw [if_pos rfl] at p ⊢
    exact q true H1 g p
  | false =>
    rw [if_neg Bool.false_ne_true] at p ⊢
    exact p σ H1 Q (e.mono g) fun b H2 g2 p2 => q b H2 (g.trans g2) p2
theorem t_not (h : PTd K f tt ρ fun c => B (!c)) : PTd K f (tNot tt) ρ B := fun σ H Q e q => h σ H _ e fun c H1 g p => q (!c) H1 g p
def truD : PyData → Option Bool
  | .none => some false
  | .bool b => some b
  | .int i => some (i != 0)
  | .list ds => some (!ds.isEmpty)
  | .tuple ds => some (!ds.isEmpty)
  | _ => none
def tTru (K : PySem.W.Frag) (ta : TE) : TT := fun σ H Q => ta σ H fun x H' => ∃ k, TruV K x H' k ∧ Q k H'
theorem pt_tru {X : Cx} {a : Expr} (ha : PE X a ta) (he : ∀ whole, isTrue a X.env whole = (do let v ← whole; standAt a.pos; holding [v] (truthy v))) : PT X a (tTru X.K ta) := pt_truth ha he
theorem t_tru (h : PEd K f ta ρ fun d => ∃ k, truD d = some k ∧ B k) : PTd K f (tTru K ta) ρ B := fun σ H Q e q => h σ H _ e fun d v H' g r ⟨k, ed, p⟩ => by
  refine ⟨k, ?_, q k H' g p⟩
  cases d with
  | none => rw [rep_none.mp r]; cases ed; rfl
  | bool b => rw [rep_bool.mp r]; cases ed; rfl
  | int i => rw [rep_int.mp r]; cases ed; rfl
  | str x => cases ed
  | list ds =>
    obtain ⟨a, xs, rfl, h1, h2⟩ := rep_list.mp r
    cases ed
    refine .inl ⟨xs, (hide_same _ _).seq h1, ?_⟩
    cases ds with
    | nil => rw [reps_nil.mp h2]; rfl
    | cons d ds => obtain ⟨x, r, rfl, _⟩ := reps_cons.mp h2; rfl
  | tuple ds =>
    obtain ⟨a, xs, rfl, h1, h2⟩ := rep_tuple.mp r
    cases ed
    refine .inr (.inl ⟨xs, (hide_same _ _).seqT h1, ?_⟩)
    cases ds with
    | nil => rw [reps_nil.mp h2]; rfl
    | cons d ds => obtain ⟨x, r, rfl, _⟩ := reps_cons.mp h2; rfl
  | dict _ => cases ed
theorem d_if (h : PTd K f tt ρ fun c => if c = true then PEd K f ta ρ P else PEd K f tb ρ P) : PEd K f (tIf tt ta tb) ρ P := fun σ H Q e q => h σ H _ e fun c H1 g p => by
  cases c with
  | true => rw [if_pos rfl] at p ⊢; exact p σ H1 Q (e.mono g) fun d v H2 g2 r2 p2 => q d v H2 (g.trans g2) r2 p2
  | false => rw [if_neg Bool.false_ne_true] at p ⊢; exact p σ H1 Q (e.mono g) fun d v H2 g2 r2 p2 => q d v H2 (g.trans g2) r2 p2
theorem d_andV (h : PEd K f ta ρ fun x => ∃ c, x = .bool c ∧ if c = true then PEd K f tb ρ P else P (.bool false)) : PEd K f (tAndV ta tb) ρ P := fun σ H Q e q => h σ H _ e fun x v H1 g r ⟨c, ex, p⟩ => by
  subst ex
  refine ⟨c, rep_bool.mp r, ?_⟩
  cases c with
  | true => rw [if_pos rfl] at p ⊢; exact p σ H1 Q (e.mono g) fun d v H2 g2 r2 p2 => q d v H2 (g.trans g2) r2 p2
  | false => rw [if_neg Bool.false_ne_true] at p ⊢; exact q _ _ H1 g (rep_bool.mpr rfl) p
theorem d_orV (h : PEd K f ta ρ fun x => ∃ c, x = .bool c ∧ if c = true then P (.bool true) else PEd K f tb ρ P) : PEd K f (tOrV ta tb) ρ P := fun σ H Q e q => h σ H _ e fun x v H1 g r ⟨c, ex, p⟩ => by
  subst ex
  refine ⟨c, rep_bool.mp r, ?_⟩
  cases c with
  | true => rw [if_pos rfl] at p ⊢; exact q _ _ H1 g (rep_bool.mpr rfl) p
  | false => rw [if_neg Bool.false_ne_true] at p ⊢; exact p σ H1 Q (e.mono g) fun d v H2 g2 r2 p2 => q d v H2 (g.trans g2) r2 p2
theorem d_notV (h : PEd K f ta ρ fun x => ∃ c, x = .bool c ∧ P (.bool !c)) : PEd K f (tNotV ta) ρ P := fun σ H Q e q => h σ H _ e fun x v H1 g r ⟨c, ex, p⟩ => by
  subst ex
  exact ⟨c, rep_bool.mp r, q _ _ H1 g (rep_bool.mpr rfl) p⟩
theorem d_chain {g g' : Int → Int → Bool} (h : PEd K f ta ρ fun x => ∃ i, x = .int i ∧ PEd K f tb ρ fun y => ∃ j, y = .int j ∧ if g i j = true then PEd K f tc ρ fun z => ∃ k, z = .int k ∧ P (.bool (g' j k)) else P (.bool false)) :
    PEd K f (tChain (rI0 fun i j => .bl (g i j)) (rI0 fun i j => .bl (g' i j)) ta tb tc) ρ P := fun σ H Q e q => h σ H _ e fun x v H1 g1 r1 ⟨i, ex, p1⟩ => p1 σ H1 _ (e.mono g1) fun y w H2 g2 r2 ⟨j, ey, p2⟩ => by
  subst ex ey
  refine ⟨i, j, rep_int.mp r1, rep_int.mp r2, g i j, rfl, ?_⟩
  by_cases hg : g i j = true
  · rw [if_pos hg] at p2 ⊢
    exact p2 σ H2 _ ((e.mono g1).mono g2) fun z u H3 g3 r3 ⟨k, ez, p3⟩ => by
      subst ez
      exact ⟨j, k, rep_int.mp r2, rep_int.mp r3, q _ _ H3 (g1.trans (g2.trans g3)) (rep_bool.mpr rfl) p3⟩
  · rw [if_neg hg] at p2 ⊢
    exact q _ _ H2 (g1.trans g2) (rep_bool.mpr rfl) p2
theorem d_len {t : TA} (h : PAd K f t ρ fun xs => (∃ ds, xs = [.dat (.list ds)] ∧ P (.int ds.length)) ∨ (∃ ds, xs = [.dat (.tuple ds)] ∧ P (.int ds.length))) :
    PEd K f (tCB (fun xs H Q => ∃ p ys, xs = [.ref p] ∧ (SqL K H p ys ∨ SqT K H p ys) ∧ Q (.int ys.length) H) t) ρ P :=
  d_cb fun σ H Q e q => h σ H Q e fun xs vs H' g r p => by
    rcases p with ⟨ds, rfl, p⟩ | ⟨ds, rfl, p⟩
    · refine q _ vs H' g r ⟨_, rfl, fun vs H Q fo rs k => ?_⟩
      obtain ⟨x, r, rfl, h2, h3⟩ := reps_cons.mp rs
      rw [reps_nil.mp h3]
      obtain ⟨a, ys, rfl, s1, s2⟩ := rep_list.mp h2
      exact ⟨a, ys, rfl, .inl ((hide_same _ _).seq s1), k (.int ds.length) _ H (.refl fo) (rep_int.mpr (by rw [s2.length])) p⟩
    · refine q _ vs H' g r ⟨_, rfl, fun vs H Q fo rs k => ?_⟩
      obtain ⟨x, r, rfl, h2, h3⟩ := reps_cons.mp rs
      rw [reps_nil.mp h3]
      obtain ⟨a, ys, rfl, s1, s2⟩ := rep_tuple.mp h2
      exact ⟨a, ys, rfl, .inr ((hide_same _ _).seqT s1), k (.int ds.length) _ H (.refl fo) (rep_int.mpr (by rw [s2.length])) p⟩
theorem d_minL {t : TA} (h : PAd K f t ρ fun xs => ∃ ns : List Int, xs = [.dat (.list (ns.map .int))] ∧ ns ≠ [] ∧ ∀ M, M ∈ ns → (∀ b ∈ ns, M ≤ b) → P (.int M)) :
    PEd K f (tCB (fun xs H Q => ∃ a ns, xs = [.ref a] ∧ SqL K H a (ns.map V.int) ∧ ns ≠ [] ∧ ∀ M, M ∈ ns → (∀ b ∈ ns, M ≤ b) → Q (.int M) H) t) ρ P :=
  d_cb fun σ H Q e q => h σ H Q e fun xs vs H' g r ⟨ns, ex, hne, p⟩ => by
    subst ex
    refine q _ vs H' g r ⟨_, rfl, fun vs H Q fo rs k => ?_⟩
    obtain ⟨x, r, rfl, h2, h3⟩ := reps_cons.mp rs
    rw [reps_nil.mp h3]
    obtain ⟨a, ys, rfl, s1, s2⟩ := rep_list.mp h2
    rw [s2.ints] at s1
    exact ⟨a, ns, rfl, (hide_same _ _).seq s1, hne, fun M h1 h2 => k (.int M) _ H (.refl fo) (rep_int.mpr rfl) (p M h1 h2)⟩
theorem d_maxL {t : TA} (h : PAd K f t ρ fun xs => ∃ ns : List Int, xs = [.dat (.list (ns.map .int))] ∧ ns ≠ [] ∧ ∀ M, M ∈ ns → (∀ b ∈ ns, b ≤ M) → P (.int M)) :
    PEd K f (tCB (fun xs H Q => ∃ a ns, xs = [.ref a] ∧ SqL K H a (ns.map V.int) ∧ ns ≠ [] ∧ ∀ M, M ∈ ns → (∀ b ∈ ns, b ≤ M) → Q (.int M) H) t) ρ P :=
  d_cb fun σ H Q e q => h σ H Q e fun xs vs H' g r ⟨ns, ex, hne, p⟩ => by
    subst ex
    refine q _ vs H' g r ⟨_, rfl, fun vs H Q fo rs k => ?_⟩
    obtain ⟨x, r, rfl, h2, h3⟩ := reps_cons.mp rs
    rw [reps_nil.mp h3]
    obtain ⟨a, ys, rfl, s1, s2⟩ := rep_list.mp h2
    rw [s2.ints] at s1
    exact ⟨a, ns, rfl, (hide_same _ _).seq s1, hne, fun M h1 h2 => k (.int M) _ H (.refl fo) (rep_int.mpr rfl) (p M h1 h2)⟩
theorem d_cbI2 {g : Int → Int → Int} {t : TA} (h : PAd K f t ρ fun xs => ∃ i j, xs = [.dat (.int i), .dat (.int j)] ∧ P (.int (g i j))) : PEd K f (tCB (fun xs H Q => ∃ i j, xs = [.int i, .int j] ∧ Q (.int (g i j)) H) t) ρ P :=
  d_cb fun σ H Q e q => h σ H Q e fun xs vs H' g' r ⟨i, j, ex, p⟩ => by
    subst ex
    refine q _ vs H' g' r ⟨_, rfl, fun vs H Q fo rs k => ?_⟩
    obtain ⟨x, r, rfl, h2, h3⟩ := reps_cons.mp rs
    obtain ⟨y, r', rfl, h4, h5⟩ := reps_cons.mp h3
    rw [reps_nil.mp h5, rep_int.mp h2, rep_int.mp h4]
    exact ⟨i, j, rfl, k _ _ H (.refl fo) (rep_int.mpr rfl) p⟩
theorem d_cbI1 {g : Int → Int} {t : TA} (h : PAd K f t ρ fun xs => ∃ i, xs = [.dat (.int i)] ∧ P (.int (g i))) : PEd K f (tCB (fun xs H Q => ∃ i, xs = [.int i] ∧ Q (.int (g i)) H) t) ρ P :=
  d_cb fun σ H Q e q => h σ H Q e fun xs vs H' g' r ⟨i, ex, p⟩ => by
    subst ex
    refine q _ vs H' g' r ⟨_, rfl, fun vs H Q fo rs k => ?_⟩
    obtain ⟨x, r, rfl, h2, h3⟩ := reps_cons.mp rs
    rw [reps_nil.mp h3, rep_int.mp h2]
    exact ⟨i, rfl, k _ _ H (.refl fo) (rep_int.mpr rfl) p⟩
theorem d_listof {t : TA} (h : PAd K f t ρ fun xs => (∃ ds, xs = [.dat (.list ds)] ∧ P (.list ds)) ∨ (∃ ds, xs = [.dat (.tuple ds)] ∧ P (.list ds))) :
    PEd K f (tCB (fun xs H Q => ∃ p ys, xs = [.ref p] ∧ (SqL K H p ys ∨ SqT K H p ys) ∧ ∀ l, H l = none → Q (.ref l) (upd H l (.lst ys))) t) ρ P :=
  d_cb fun σ H Q e q => h σ H Q e fun xs vs H' g r p => by
    rcases p with ⟨ds, rfl, p⟩ | ⟨ds, rfl, p⟩
    · refine q _ vs H' g r ⟨_, rfl, fun vs H Q fo rs k => ?_⟩
      obtain ⟨x, r, rfl, h2, h3⟩ := reps_cons.mp rs
      rw [reps_nil.mp h3]
      obtain ⟨a, ys, rfl, s1, s2⟩ := rep_list.mp h2
      refine ⟨a, ys, rfl, .inl ((hide_same _ _).seq s1), fun l hn => ?_⟩
      have g2 : Goes f H (upd H l (.lst ys)) := .of_same (same_new hn _) fo
      exact k (.list ds) _ _ g2 (rep_list.mpr ⟨l, ys, rfl, .of (hide_get (fresh_ne fo hn) upd_same), Reps.mono g2.1 ds ys s2⟩) p
    · refine q _ vs H' g r ⟨_, rfl, fun vs H Q fo rs k => ?_⟩
      obtain ⟨x, r, rfl, h2, h3⟩ := reps_cons.mp rs
      rw [reps_nil.mp h3]
      obtain ⟨a, ys, rfl, s1, s2⟩ := rep_tuple.mp h2
      refine ⟨a, ys, rfl, .inr ((hide_same _ _).seqT s1), fun l hn => ?_⟩
      have g2 : Goes f H (upd H l (.lst ys)) := .of_same (same_new hn _) fo
      exact k (.list ds) _ _ g2 (rep_list.mpr ⟨l, ys, rfl, .of (hide_get (fresh_ne fo hn) upd_same), Reps.mono g2.1 ds ys s2⟩) p
end
section
variable {K : PySem.W.Frag} {f : Fx} {ρ : DEnv} {D : DEnds} {te ta tb : TE} {tt : TT} {ts tu : TS}
theorem PSd.imp {D' : DEnds} (h : PSd K f ts ρ D) (h1 : ∀ r, D.nx r → D'.nx r) (h2 : ∀ r, D.rt r → D'.rt r) (h3 : ∀ r, D.bk r → D'.bk r) (h4 : ∀ r, D.ct r → D'.ct r) : PSd K f ts ρ D' := fun σ H E e n r b c =>
  h σ H E e (fun ρ' σ' H' g e' p => n ρ' σ' H' g e' (h1 _ p)) (fun d v H' g r' p => r d v H' g r' (h2 _ p)) (fun ρ' σ' H' g e' p => b ρ' σ' H' g e' (h3 _ p)) (fun ρ' σ' H' g e' p => c ρ' σ' H' g e' (h4 _ p))
theorem s_nil (p : D.nx ρ) : PSd K f tNext ρ D := fun σ H E e n _ _ _ => n ρ σ H (.refl e.fd) e p
theorem s_seq (h : PSd K f ts ρ { D with nx := fun ρ' => PSd K f tu ρ' D }) : PSd K f (tSeq ts tu) ρ D := fun σ H E e n r b c =>
  h σ H { E with nx := tu E } e (fun ρ' σ' H' g e' p => p σ' H' E e' (fun ρ'' σ'' H'' g' e'' p' => n ρ'' σ'' H'' (g.trans g') e'' p') (fun d v H'' g' r' p' => r d v H'' (g.trans g') r' p') (fun ρ'' σ'' H'' g' e'' p' => b ρ'' σ'' H'' (g.trans g') e'' p') (fun ρ'' σ'' H'' g' e'' p' => c ρ'' σ'' H'' (g.trans g') e'' p')) r b c
theorem s_ret (h : PEd K f te ρ D.rt) : PSd K f (tRet te) ρ D := fun σ H E e n r b c => h σ H _ e r
theorem s_drop (h : PEd K f te ρ fun _ => D.nx ρ) : PSd K f (tDrop te) ρ D := fun σ H E e n r b c => h σ H _ e fun d v H' g _ p => n ρ σ H' g (e.mono g) p
theorem s_if (h : PTd K f tt ρ fun b => if b = true then PSd K f ts ρ D else PSd K f tu ρ D) : PSd K f (tIfS tt ts tu) ρ D := fun σ H E e n r b c => h σ H _ e fun k H1 g p => by
  cases k with
  | true =>
    rw [if_pos rfl] at p ⊢
    exact p σ H1 E (e.mono g) (fun ρ'' σ'' H'' g' e'' p' => n ρ'' σ'' H'' (g.trans g') e'' p') (fun d v H'' g' r' p' => r d v H'' (g.trans g') r' p') (fun ρ'' σ'' H'' g' e'' p' => b ρ'' σ'' H'' (g.trans g') e'' p') (fun ρ'' σ'' H'' g' e'' p' => c ρ'' σ'' H'' (g.trans g') e'' p')
  | false =>
    rw [if_neg Bool.false_ne_true] at p ⊢
    exact p σ H1 E (e.mono g) (fun ρ'' σ'' H'' g' e'' p' => n ρ'' σ'' H'' (g.trans g') e'' p') (fun d v H'' g' r' p' => r d v H'' (g.trans g') r' p') (fun ρ'' σ'' H'' g' e'' p' => b ρ'' σ'' H'' (g.trans g') e'' p') (fun ρ'' σ'' H'' g' e'' p' => c ρ'' σ'' H'' (g.trans g') e'' p')
def PGd (K : PySem.W.Frag) (f : Fx) (g : TG) (d : PyData) (ρ : DEnv) (R : DEnv → Prop) : Prop := ∀ (σ : St) (H : Hp) (v : V) (Q : St → Hp → Prop), EnvOk K f ρ σ H → Rep K (hide H f) d v → (∀ ρ' σ' H', Goes f H H' → EnvOk K f ρ' σ' H' → R ρ' → Q σ' H') → g v σ H Q
def PGsd (K : PySem.W.Frag) (f : Fx) (g : TGs) (ds : List PyData) (ρ : DEnv) (R : DEnv → Prop) : Prop := ∀ (σ : St) (H : Hp) (vs : List V) (Q : St → Hp → Prop), EnvOk K f ρ σ H → Reps K (hide H f) ds vs → (∀ ρ' σ' H', Goes f H H' → EnvOk K f ρ' σ' H' → R ρ' → Q σ' H') → g vs σ H Q
theorem g_name {i : Nat} {d : PyData} {R : DEnv → Prop} (h : R (ρ.set i (some (.dat d)))) : PGd K f (gName i) d ρ R := fun σ H v Q e r q => q _ _ H (.refl e.fd) (e.set i (x := .dat d) r) h
theorem gs_nil {R : DEnv → Prop} (h : R ρ) : PGsd K f gNil [] ρ R := fun σ H vs Q e r q => ⟨reps_nil.mp r, q ρ σ H (.refl e.fd) e h⟩
theorem gs_cons {g : TG} {gs : TGs} {d : PyData} {ds : List PyData} {R : DEnv → Prop} (h : PGd K f g d ρ fun ρ' => PGsd K f gs ds ρ' R) : PGsd K f (gCons g gs) (d :: ds) ρ R := fun σ H vs Q e r q => by
  obtain ⟨x, r', rfl, h2, h3⟩ := reps_cons.mp r
  exact ⟨x, r', rfl, h σ H x _ e h2 fun ρ' σ' H' g' e' p => p σ' H' r' Q e' (Reps.mono g'.1 ds r' h3) fun ρ'' σ'' H'' g'' e'' p' => q ρ'' σ'' H'' (g'.trans g'') e'' p'⟩
theorem g_tup {n : Nat} {gs : TGs} {ds : List PyData} {R : DEnv → Prop} (hn : ds.length = n) (h : PGsd K f gs ds ρ R) : PGd K f (gTup K n gs) (.tuple ds) ρ R := fun σ H v Q e r q => by
  obtain ⟨a, xs, rfl, h1, h2⟩ := rep_tuple.mp r
  exact ⟨a, xs, rfl, (hide_same _ _).seqT h1, by rw [h2.length]; exact hn, h σ H xs Q e h2 q⟩
theorem s_asg {g : TG} (h : PEd K f te ρ fun d => PGd K f g d ρ D.nx) : PSd K f (tAsg te g) ρ D := fun σ H E e n r b c =>
  h σ H _ e fun d v H1 g1 r1 p1 => p1 σ H1 v _ (e.mono g1) r1 fun ρ' σ' H' g' e' p' => n ρ' σ' H' (g1.trans g') e' p'
end
end L2
end
section
namespace L2
open PySem PySem.Spec PyProof.Rows
end L2
end
section
namespace L2
open PySem PySem.Spec PyProof.Rows
def frD (fr : List Nat) (ρ : DEnv) : DEnv := fr.map fun j => (ρ[j]?).getD none
def startD (own : Nat) (fr : List Nat) (ρ : DEnv) : DEnv := List.replicate own none ++ frD fr ρ
abbrev Fx.with (f : Fx) (D : Addr) : Fx := ⟨f.f, D :: f.M⟩
section
variable {K : PySem.W.Frag} {f : Fx} {ρ : DEnv} {σ : St} {H H' : Hp} {D : Addr} {o : HO}
theorem startD_ok {own : Nat} {fr : List Nat} (e : EnvOk K f ρ σ H) : EnvOk K f (startD own fr ρ) (startC own fr σ) H := by
  refine ⟨by unfold startD startC frD; simp, fun i x h => ?_, e.fd⟩
  unfold startD frD at h
  unfold startC
  by_cases hi : i < own
  · rw [List.getElem?_append_left (by simpa using hi), List.getElem?_replicate] at h
    split at h <;> cases h
  · rw [List.getElem?_append_right (by simpa using hi)] at h ⊢
    simp only [List.length_replicate, List.getElem?_map] at h ⊢
    cases hj : fr[i - own]? with
    | none => rw [hj] at h; cases h
    | some j =>
      rw [hj] at h
      have h' : (ρ[j]?).getD none = some x := Option.some.inj h
      have hρ : ρ[j]? = some (some x) := by
        cases q : ρ[j]? with
        | none => rw [q] at h'; cases h'
        | some w => rw [q] at h'; exact congrArg some h'
      obtain ⟨v, h1, h2⟩ := e.get j x hρ
      exact ⟨v, by simp [h1], h2⟩
theorem hide_with_upd : hide (upd H D o) (f.with D) = hide H (f.with D) := by
  funext b
  unfold hide
  by_cases hb : f.f = some b ∨ b ∈ D :: f.M
  · rw [if_pos hb, if_pos hb]
  · rw [if_neg hb, if_neg hb]
    have : b ≠ D := fun z => hb (.inr (z ▸ List.mem_cons_self))
    exact upd_ne this
theorem same_with : Same (hide H (f.with D)) (hide H f) := fun b o h => by
  obtain ⟨h1, h2⟩ := hide_of h
  exact hide_get (fun z => h1 (z.elim .inl fun z => .inr (List.mem_cons_of_mem _ z))) h2
theorem same_in (hn : H D = none) : Same (hide H f) (hide (upd H D o) (f.with D)) := fun b u h => by
  obtain ⟨h1, h2⟩ := hide_of h
  have hb : b ≠ D := ne_of_none h2 hn
  exact hide_get (fun z => z.elim (fun z => h1 (.inl z)) fun z => (List.mem_cons.mp z).elim hb fun z => h1 (.inr z)) (by rw [upd_ne hb]; exact h2)
theorem fok_in (h : FOk f H) (hn : H D = none) : FOk (f.with D) (upd H D o) :=
  ⟨fun p e => let ⟨a, b, h1, h2⟩ := h.fd p e; ⟨a, b, by rw [upd_ne (ne_of_none h1 hn)]; exact h1, h2⟩, fun b hb => by
    rcases List.mem_cons.mp hb with rfl | hb
    · exact ⟨_, upd_same⟩
    · obtain ⟨o', h1⟩ := h.mm b hb
      exact ⟨o', by rw [upd_ne (ne_of_none h1 hn)]; exact h1⟩, fun p e hp => by
    rcases List.mem_cons.mp hp with rfl | hp
    · exact fresh_ne h hn (.inl e)
    · exact h.nm p e hp⟩
theorem env_in (e : EnvOk K f ρ σ H) (hn : H D = none) : EnvOk K (f.with D) ρ σ (upd H D o) :=
  ⟨e.len, fun i x h => let ⟨v, h1, h2⟩ := e.get i x h; ⟨v, h1, by
    cases x with
    | dat d => exact Rep.mono (same_in hn) d v h2
    | feed => exact h2
    | own k =>
      obtain ⟨p, h3, h4⟩ := h2
      refine ⟨p, ?_, h4⟩
      show (D :: f.M).reverse[k]? = some p
      rw [List.reverse_cons, List.getElem?_append_left (List.getElem?_eq_some_iff.mp h3).1]
      exact h3
    | exc C =>
      obtain ⟨a, h3, h4⟩ := h2
      exact ⟨a, h3, same_in hn _ _ h4⟩
    | mon φ => exact fun H' s => h2 H' ((same_in hn).trans s)⟩, fok_in e.fd hn⟩
theorem env_put (hD : f.f ≠ some D) (e : EnvOk K (f.with D) ρ σ H) : EnvOk K (f.with D) ρ σ (upd H D o) :=
  ⟨e.len, fun i x h => let ⟨v, h1, h2⟩ := e.get i x h; ⟨v, h1, by
    cases x with
    | dat d =>
      have h2' : Rep K (hide H (f.with D)) d v := h2
      show Rep K (hide (upd H D o) (f.with D)) d v
      rw [hide_with_upd]; exact h2'
    | feed => exact h2
    | own k => exact h2
    | exc C =>
      obtain ⟨a, h3, h4⟩ := h2
      refine ⟨a, h3, ?_⟩
      rw [hide_with_upd]
      exact h4
    | mon φ =>
      intro H' s
      rw [hide_with_upd] at s
      exact h2 H' s⟩, ⟨fun p ep => let ⟨a, b, h1, h2⟩ := e.fd.fd p ep; ⟨a, b, by rw [upd_ne (fun z => hD (by rw [← z]; exact ep))]; exact h1, h2⟩, fun b hb => by
      by_cases hb' : b = D
      · subst hb'; exact ⟨_, upd_same⟩
      · rw [upd_ne hb']; exact e.fd.mm b hb, e.fd.nm⟩⟩
end
section
variable {K : PySem.W.Frag} {f : Fx} {ρ : DEnv} {P : PyData → Prop} {te tl : TE} {tt : TT} {g : TG} {own : Nat} {fr : List Nat}
structure CSt (K : PySem.W.Frag) (f : Fx) (D : Addr) (H2 : Hp) (ρ' : DEnv) (es : List PyData) (σ : St) (H : Hp) : Prop where
  env : EnvOk K (f.with D) ρ' σ H
  sm : Same (hide H2 (f.with D)) (hide H (f.with D))
  kp : ∀ b ∈ f.M, H b = H2 b
  lst : ∃ vs, H D = some (.lst vs) ∧ Reps K (hide H (f.with D)) es vs
theorem CSt.go {D : Addr} {H2 H H' : Hp} {ρ' : DEnv} {es : List PyData} {σ : St} (c : CSt K f D H2 ρ' es σ H) (gg : Goes (f.with D) H H') {ρ2 : DEnv} {σ2 : St} (e2 : EnvOk K (f.with D) ρ2 σ2 H') : CSt K f D H2 ρ2 es σ2 H' :=
  ⟨e2, c.sm.trans gg.sm, fun b hb => (gg.kp b (List.mem_cons_of_mem _ hb)).trans (c.kp b hb), let ⟨vs, h1, h2⟩ := c.lst; ⟨vs, (gg.kp D List.mem_cons_self).trans h1, Reps.mono gg.sm es vs h2⟩⟩
theorem CSt.put {D : Addr} {H2 H : Hp} {ρ' : DEnv} {es : List PyData} {σ : St} {d : PyData} {v : V} {vs : List V} (hD : f.f ≠ some D) (hM : D ∉ f.M) (c : CSt K f D H2 ρ' es σ H) (h1 : H D = some (.lst vs)) (h2 : Reps K (hide H (f.with D)) es vs) (r : Rep K (hide H (f.with D)) d v) :
    CSt K f D H2 ρ' (es ++ [d]) σ (upd H D (.lst (vs ++ [v]))) :=
  ⟨env_put hD c.env, by rw [hide_with_upd]; exact c.sm, fun b hb => (upd_ne (fun (z : b = D) => hM (z ▸ hb))).trans (c.kp b hb), ⟨_, upd_same, by rw [hide_with_upd]; exact h2.snoc r⟩⟩
theorem comp_turn {D : Addr} {H2 H : Hp} {ρ' : DEnv} {es : List PyData} {σ : St} {d : PyData} {v : V} {W : St → Hp → Prop} {R : DEnv → List PyData → Prop} (hD : f.f ≠ some D) (hM : D ∉ f.M) (c : CSt K f D H2 ρ' es σ H) (hl : es.length < 1000) (r : Rep K (hide H (f.with D)) d v)
    (h : PGd K (f.with D) g d ρ' fun ρ2 => PTd K (f.with D) tt ρ2 fun b => if b = true then PEd K (f.with D) te ρ2 fun e => R ρ2 (es ++ [e]) else R ρ2 es)
    (hW : ∀ ρ2 es2 σ2 H', CSt K f D H2 ρ2 es2 σ2 H' → R ρ2 es2 → W σ2 H') :
    g v σ H fun σ2 H3 => tt σ2 H3 fun b H4 => if b = true then tEmit D te σ2 H4 W else W σ2 H4 := by
  refine h σ H v _ c.env r fun ρ2 σ2 H3 g3 e3 p3 => ?_
  have c3 := c.go g3 e3
  refine p3 σ2 H3 _ e3 fun b H4 g4 p4 => ?_
  have c4 := c3.go g4 (e3.mono g4)
  cases b with
  | false =>
    rw [if_neg Bool.false_ne_true] at p4 ⊢
    exact hW _ _ _ _ c4 p4
  | true =>
    rw [if_pos rfl] at p4 ⊢
    refine p4 σ2 H4 _ (e3.mono g4) fun e u H5 g5 r5 p5 => ?_
    have c5 := c4.go g5 ((e3.mono g4).mono g5)
    obtain ⟨vs, h1, h2⟩ := c5.lst
    exact ⟨vs, h1, small1000 (by rw [h2.length]; omega), hW _ _ _ _ (c5.put hD hM h1 h2 r5) p5⟩
theorem comp_end {D : Addr} {H1 H : Hp} {ρ' : DEnv} {es : List PyData} {σ σ' : St} (hn : H1 D = none) (fo : FOk f H1) (c : CSt K f D (upd H1 D (.lst [])) ρ' es σ H) : Goes f H1 H ∧ Rep K (hide H f) (.list es) (.ref D) := by
  obtain ⟨vs, h1, h2⟩ := c.lst
  have nD := fresh_ne fo hn
  refine ⟨⟨((same_in hn).trans c.sm).trans same_with, ⟨c.env.fd.fd, fun b hb => c.env.fd.mm b (List.mem_cons_of_mem _ hb), fun p e hp => c.env.fd.nm p e (List.mem_cons_of_mem _ hp)⟩, fun b hb => ?_⟩, rep_list.mpr ⟨D, vs, rfl, .of (hide_get nD h1), Reps.mono same_with es vs h2⟩⟩
  rw [c.kp b hb, upd_ne]
  obtain ⟨o, h3⟩ := fo.mm b hb
  exact ne_of_none h3 hn
theorem comp_begin {D : Addr} {H1 : Hp} {σ : St} (hn : H1 D = none) (e : EnvOk K f ρ σ H1) : CSt K f D (upd H1 D (.lst [])) (startD own fr ρ) [] (startC own fr σ) (upd H1 D (.lst [])) :=
  ⟨env_in (startD_ok e) hn, Same.refl _, fun _ _ => rfl, ⟨[], upd_same, .nil'⟩⟩
end
end L2
end
section
namespace L2
open PySem PySem.Spec PyProof.Rows
section
variable {K : PySem.W.Frag} {f : Fx} {ρ : DEnv} {D : DEnds} {te : TE} {i : Nat}
theorem feed_put {σ : St} {H : Hp} {p : Addr} {a b : Int} (e : EnvOk K f ρ σ H) (ef : f.f = some p) (h0 : 0 ≤ a) (h1 : 0 ≤ b) (h2 : b < 2147483647) : Goes f H (upd H p (.lst [.int a, .int b])) :=
  have hM := e.fd.nm p ef
  ⟨fun x o h => by
    obtain ⟨n, hx⟩ := hide_of h
    exact hide_get n (by rw [upd_ne (fun z => n (.inl (by rw [z]; exact ef)))]; exact hx),
   ⟨fun q eq => by
      rw [ef] at eq; cases eq
      exact ⟨a, b, upd_same, h0, h1, h2⟩, fun x hx => by
      by_cases hxp : x = p
      · subst hxp; exact absurd hx hM
      · rw [upd_ne hxp]; exact e.fd.mm x hx, e.fd.nm⟩,
   fun x hx => upd_ne (fun z => hM (z ▸ hx))⟩
theorem s_feed0 (hi : ρ[i]? = some (some .feed)) (h : PEd K f te ρ fun d => ∃ a : Int, d = .int a ∧ 0 ≤ a ∧ D.nx ρ) : PSd K f (tAsg te (gSub (tVar i) (tC (.int 0)) rSetL)) ρ D := fun σ H E e n r b c => h σ H _ e fun d v H1 g1 r1 ⟨a, ed, h0, p⟩ => by
  subst ed
  obtain ⟨u, h1, q, ef, eu⟩ := e.get i _ hi
  obtain ⟨a', b', hf, c1, c2, c3⟩ := g1.2.fd q ef
  refine ⟨u, h1, q, _, 0, 0, eu, rfl, hf, rfl, ?_⟩
  rw [rep_int.mp r1]
  have g2 : Goes f H1 (upd H1 q (.lst [.int a, .int b'])) := feed_put (e.mono g1) ef h0 c2 c3
  exact n ρ σ _ (g1.trans g2) ((e.mono g1).mono g2) p
theorem s_feed1 (hi : ρ[i]? = some (some .feed)) (h : PEd K f te ρ fun d => ∃ a : Int, d = .int a ∧ 0 ≤ a ∧ a < 2147483647 ∧ D.nx ρ) : PSd K f (tAsg te (gSub (tVar i) (tC (.int 1)) rSetL)) ρ D := fun σ H E e n r b c => h σ H _ e fun d v H1 g1 r1 ⟨a, ed, h0, h0', p⟩ => by
  subst ed
  obtain ⟨u, h1, q, ef, eu⟩ := e.get i _ hi
  obtain ⟨a', b', hf, c1, c2, c3⟩ := g1.2.fd q ef
  refine ⟨u, h1, q, _, 1, 1, eu, rfl, hf, rfl, ?_⟩
  rw [rep_int.mp r1]
  have g2 : Goes f H1 (upd H1 q (.lst [.int a', .int a])) := feed_put (e.mono g1) ef c1 h0 h0'
  exact n ρ σ _ (g1.trans g2) ((e.mono g1).mono g2) p
end
theorem pe_globI {X : Cx} {x : Str} {i : Int} {t : Tok} {pos : Pos} (hg : Gl X x) (hm : X.mg x = some (.int i t)) (hd : (x == ("__debug__" : Str)) = false := by decide) : PE X (.Name x pos) (tC (.int i)) := pe_glob hg hm ⟨t, rfl⟩ hd
def startV (N : List Str) (xs : List DV) : DEnv := xs.map some ++ List.replicate (N.length - xs.length) none
theorem startV_ok {K : PySem.W.Frag} {f : Fx} {H : Hp} {N : List Str} {xs : List DV} {vs : List V} (r : RepVs K f H xs vs) (fo : FOk f H) : EnvOk K f (startV N xs) (start N vs) H := by
  have hl := r.length
  refine ⟨by unfold startV start; simp [hl], fun i x h => ?_, fo⟩
  unfold startV at h
  unfold start
  have get : ∀ {xs : List DV} {vs : List V} {i : Nat} {x : DV}, RepVs K f H xs vs → xs[i]? = some x → ∃ v, vs[i]? = some v ∧ RepV K f H x v := by
    intro xs vs i x r
    induction r generalizing i with
    | nil => intro h; simp at h
    | cons r1 r2 ih =>
      intro h
      cases i with
      | zero => simp at h; subst h; exact ⟨_, rfl, r1⟩
      | succ i => simp at h; obtain ⟨v, h1, h2⟩ := ih h; exact ⟨v, by simpa using h1, h2⟩
  by_cases hi : i < xs.length
  · rw [List.getElem?_append_left (by simpa using hi), List.getElem?_map] at h
    cases q : xs[i]? with
    | none => rw [q] at h; cases h
    | some y =>
      rw [q] at h
      cases h
      obtain ⟨v, h1, h2⟩ := get r q
      exact ⟨v, by rw [List.getElem?_append_left (by simp; omega), List.getElem?_map, h1]; rfl, h2⟩
  · rw [List.getElem?_append_right (by simpa using hi), List.getElem?_replicate] at h
    split at h <;> cases h
structure Def (K : PySem.W.Frag) (mg : Str → Option Value) (x : Str) (st : Stmt) (ps : List Str) : Prop where
  ex : ∃ (f : Addr) (fd : FuncData), Fun K x x st f fd ∧ Binds K fd ps [] ∧ mg x = some (.ref f)
structure FnIn (P : Program) (w : World) (K : PySem.W.Frag) (mg : Str → Option Value) (base : Heap) (k : Nat) (x : Str) (ps : List Str) (sp : Sp) : Prop where
  ex : ∃ (f : Addr) (fd : FuncData), FnOk P w K mg base CX0 k f fd ps sp ∧ mg x = some (.ref f) ∧ PySem.W.keepIn K (.ref f) = true ∧ Binds K fd ps []
section
variable {P : Program} {w : World} {K : PySem.W.Frag} {mg : Str → Option Value} {base : Heap} {j k n : Nat} {x : Str} {st : Stmt} {ps N : List Str} {γ : Type} {pre : γ → List DV → Prop} {post : γ → PyData → Prop} {sp : Sp}
theorem FnIn.mono (h : FnIn P w K mg base j x ps sp) (hk : j ≤ k) : FnIn P w K mg base k x ps sp :=
  let ⟨f, fd, a, b, c, d⟩ := h.ex; ⟨f, fd, a.mono hk, b, c, d⟩
theorem Def.ok (F : Def K mg x st ps) (S : FnScope N ps (defScope st)) (hn : ps.length = n)
    (h : ∀ (fa : Addr) (cdv : Value) (A : Around) (outer : List Env) (s : Shared) (H : Hp) (E : XK), Room k (A.deeper (envOfC x (defScope st) s.heap.objs.size fa cdv)) →
      ∃ t, PSs (cxOf CX0 P w K mg base N x (defScope st) fa cdv A outer s H E).nox (defBody st) t ∧ ∀ (f : Fx) (xs : List DV) (c : γ), xs.length = n → pre c xs → PSd K f t (startV N xs) { nx := fun _ => post c .none, rt := post c }) :
    FnIn P w K mg base (k + 1) x ps (spD K n pre post) := by
  obtain ⟨fa, fd, F1, F2, F3⟩ := F.ex
  refine ⟨fa, fd, F1.ok S (fun vs H Q E h => ?_) (fun cdv A outer s H vs Q E hr hs => ?_), F3, F1.kp, F2⟩
  · obtain ⟨f, xs, c, r, hl, _⟩ := h
    rw [r.length, hl, hn]
  · obtain ⟨f, xs, c, r, hl, fo, hp, q⟩ := hs
    obtain ⟨t, h1, h2⟩ := h fa cdv A outer s H E hr
    exact ⟨t, h1, h2 f xs c hl hp (start N vs) H _ (startV_ok r fo) (fun _ _ H' g _ p => q .none _ H' g (rep_none.mpr rfl) p) (fun d v H' g r p => q d v H' g r p) (fun _ _ _ _ _ z => z.elim) (fun _ _ _ _ _ z => z.elim)⟩
theorem Def.raw (F : Def K mg x st ps) (S : FnScope N ps (defScope st)) (len : ∀ vs H Q E, sp vs H Q E → vs.length = ps.length)
    (h : ∀ (fa : Addr) (cdv : Value) (A : Around) (outer : List Env) (s : Shared) (H : Hp) (vs : List V) (Q : VK) (E : XK), Room k (A.deeper (envOfC x (defScope st) s.heap.objs.size fa cdv)) → sp vs H Q E →
      ∃ t, PSs (cxOf CX0 P w K mg base N x (defScope st) fa cdv A outer s H E).nox (defBody st) t ∧ t { nx := fun _ H' => Q .non H', rt := Q } (start N vs) H) :
    FnIn P w K mg base (k + 1) x ps sp := by
  obtain ⟨fa, fd, F1, F2, F3⟩ := F.ex
  exact ⟨fa, fd, F1.ok S len (fun cdv A outer s H vs Q E hr hs => h fa cdv A outer s H vs Q E hr hs), F3, F1.kp, F2⟩
theorem pe_callI {X : Cx} {e : Expr} {es : List Expr} {t : TA} {p pos : Pos} (G : FnIn X.prog X.w X.K X.mg X.base k x ps sp) (hr : Room k X.A) (hg : Gl X x) (ha : PA X (e :: es) t) (hdb : (x == ("__debug__" : Str)) = false := by decide)
    (he : starEach (e :: es) X.env = (false, eval e X.env) :: starEach es X.env := by rfl) (hpl : (backTo pos (starEach es X.env)).any (·.1) = false := by rfl) : PE X (.Call (.Name x p) (e :: es) [] pos) (tCall sp [] E0 t) := by
  obtain ⟨f, fd, a, b, c, d⟩ := G.ex
  exact pe_call a hr hg b c d .nil pass0 ha hdb he hpl
end
section
variable {K : PySem.W.Frag} {f : Fx} {ρ : DEnv} {σ : St} {H : Hp} {E : Ends} {ts tu : TS} {D : DEnds}
theorem s_then (h : PSd K f ts ρ D) (e : EnvOk K f ρ σ H) (hn : ∀ ρ' σ' H', Goes f H H' → EnvOk K f ρ' σ' H' → D.nx ρ' → tu E σ' H') (hr : ∀ d v H', Goes f H H' → Rep K (hide H' f) d v → D.rt d → E.rt v H') (hb : ∀ ρ, ¬ D.bk ρ) (hc : ∀ ρ, ¬ D.ct ρ) : tSeq ts tu E σ H :=
  h σ H { E with nx := tu E } e hn hr (fun ρ' _ _ _ _ p => (hb ρ' p).elim) (fun ρ' _ _ _ _ p => (hc ρ' p).elim)
theorem new_list {ta : TA} {Q : VK} {R : List PyData → Prop} (h : PAd K f ta ρ fun xs => ∃ ds, allDat xs = some ds ∧ ds.length ≤ 1000 ∧ R ds) (e : EnvOk K f ρ σ H)
    (q : ∀ p ds vs H1, Goes f H H1 → H1 p = none → Reps K (hide H1 f) ds vs → R ds → Q (.ref p) (upd H1 p (.lst vs))) : tLst ta σ H Q :=
  h σ H _ e fun xs vs H1 g1 r1 ⟨ds, ea, hl, p⟩ => by
    have rs := reps_of r1 ea
    exact ⟨by rw [rs.length]; exact Nat.le_of_lt (small1000 hl), fun l hn => q l ds vs H1 g1 hn rs p⟩
end
end L2
end
section
namespace L2
open PySem PySem.Spec PyProof.Rows
section
variable {K : PySem.W.Frag} {f : Fx} {ρ : DEnv}
theorem Goes.free {H H' : Hp} {p : Addr} (g : Goes f H H') (fo : FOk f H) (h : H' p = none) : H p = none := by
  cases q : H p with
  | none => rfl
  | some o =>
    by_cases hh : f.f = some p ∨ p ∈ f.M
    · rcases hh with hh | hh
      · obtain ⟨a, b, h1, _⟩ := g.ok.fd p hh
        rw [h] at h1; cases h1
      · rw [g.kp p hh, q] at h; cases h
    · have := hide_of (g.sm p o (hide_get hh q))
      rw [h] at this; cases this.2
def PEdL (K : PySem.W.Frag) (f : Fx) (te : TE) (ρ : DEnv) (P : List PyData → Prop) : Prop := ∀ (σ : St) (H : Hp) (Q : VK), EnvOk K f ρ σ H →
  (∀ es D vs H', Goes f H H' → H D = none → H' D = some (.lst vs) → Reps K (hide H' f) es vs → P es → Q (.ref D) H') → te σ H Q
theorem PEdL.ped {te : TE} {P : PyData → Prop} (h : PEdL K f te ρ fun es => P (.list es)) : PEd K f te ρ P := fun σ H Q e q => h σ H Q e fun es D vs H' g n h1 r p =>
  q (.list es) _ H' g (rep_list.mpr ⟨D, vs, rfl, .of (hide_get (fresh_ne e.fd n) h1), r⟩) p
theorem PEdL.imp {te : TE} {P P' : List PyData → Prop} (h : PEdL K f te ρ P) (i : ∀ es, P es → P' es) : PEdL K f te ρ P' := fun σ H Q e q => h σ H Q e fun es D vs H' g n h1 r p => q es D vs H' g n h1 r (i es p)
end
end L2
end
section
namespace L2
open PySem PySem.Spec PyProof.Rows
structure TabAt (H : Hp) (a : Addr) (as : List Addr) (rows : List (List Int)) : Prop where
  top : H a = some (.lst (as.map .ref))
  nd : (a :: as).Nodup
  len : as.length = rows.length
  row : ∀ (i : Nat) x r, as[i]? = some x → rows[i]? = some r → H x = some (.lst (r.map .int))
def PEdT (K : PySem.W.Frag) (f : Fx) (te : TE) (ρ : DEnv) (P : List (List Int) → Prop) : Prop := ∀ (σ : St) (H : Hp) (Q : VK), EnvOk K f ρ σ H →
  (∀ rows a as H', Goes f H H' → H a = none → (∀ x ∈ as, H x = none) → TabAt H' a as rows → P rows → Q (.ref a) H') → te σ H Q
section
variable {K : PySem.W.Frag} {f : Fx} {ρ : DEnv} {te tl : TE} {fr : List Nat}
theorem tab_core {J : It} {n : Nat} {dd : Nat → PyData} {R : Nat → List Int → Prop} {D : Addr} {H1 : Hp} {σ : St} {Q : VK} (hn : H1 D = none) (e1 : EnvOk K f ρ σ H1) (hz : n ≤ 1000)
    (hJ : ∀ (i : Nat) H', Same (hide H1 f) (hide H' (f.with D)) → (i < n → J.go i H' ∧ ∀ x H3, J.yld i H' x H3 → H3 = H' ∧ Rep K (hide H' (f.with D)) (dd i) x) ∧ (i = n → J.stop i H'))
    (hte : ∀ i, i < n → PEdL K (f.with D) te (some (.dat (dd i)) :: frD fr ρ) fun es => ∃ ns : List Int, es = ns.map .int ∧ R i ns)
    (hQ : ∀ rows as H', Goes f H1 H' → (∀ x ∈ as, H1 x = none) → TabAt H' D as rows → rows.length = n → (∀ (k : Nat) r, rows[k]? = some r → R k r) → Q (.ref D) H') :
    tLoop J (gName 0) tYes (tEmit D te) (startC 1 fr σ) (upd H1 D (.lst [])) fun _ H2 => Q (.ref D) H2 := by
  have nD := fresh_ne e1.fd hn
  have hD : f.f ≠ some D := fun z => nD (.inl z)
  have hM : D ∉ f.M := fun z => nD (.inr z)
  have fo2 : FOk (f.with D) (upd H1 D (.lst [])) := fok_in e1.fd hn
  refine ⟨fun i m σ' H' => i ≤ n ∧ m + i = n ∧ ∃ y as rows, EnvOk K (f.with D) (y :: frD fr ρ) σ' H' ∧ Same (hide (upd H1 D (.lst [])) (f.with D)) (hide H' (f.with D)) ∧ (∀ b ∈ f.M, H' b = (upd H1 D (.lst [])) b) ∧ (∀ p, H' p = none → (upd H1 D (.lst [])) p = none) ∧
      H' D = some (.lst (as.map .ref)) ∧ as.Nodup ∧ D ∉ as ∧ (∀ x ∈ as, (upd H1 D (.lst [])) x = none) ∧ as.length = i ∧ rows.length = i ∧ (∀ (k : Nat) x r, as[k]? = some x → rows[k]? = some r → H' x = some (.lst (r.map .int))) ∧ ∀ (k : Nat) r, rows[k]? = some r → R k r,
    ⟨n, Nat.zero_le _, rfl, none, [], [], env_in (startD_ok (own := 1) (fr := fr) e1) hn, Same.refl _, fun _ _ => rfl, fun _ h => h, upd_same, List.nodup_nil, by simp, (fun x hx => by cases hx), rfl, rfl, (fun k x r h => by simp at h), fun k r h => by simp at h⟩, ?_⟩
  rintro i m σ' H' ⟨hi, hm, y, as, rows, env, sm, kp, fre, top, nd, nDas, asf, la, lr, rw', hR⟩
  have smk : Same (hide H1 f) (hide H' (f.with D)) := (same_in hn).trans sm
  obtain ⟨jg, js⟩ := hJ i H' smk
  by_cases hlt : i < n
  · obtain ⟨go, yl⟩ := jg hlt
    refine .inr ⟨go, fun x H3 hy => ?_⟩
    obtain ⟨rfl, rx⟩ := yl x H3 hy
    unfold gName tYes
    dsimp only
    rw [if_pos rfl]
    unfold tEmit
    have env2 : EnvOk K (f.with D) (some (.dat (dd i)) :: frD fr ρ) (σ'.set 0 (some x)) H3 := env.set 0 (x := .dat (dd i)) rx
    refine hte i hlt _ H3 _ env2 fun es Dn vs H4 g4 n4 h4 r4 ⟨ns, hes, hRn⟩ => ?_
    subst hes
    have evs : vs = ns.map V.int := r4.ints
    subst evs
    have hDn : Dn ≠ D := fun z => by rw [z, top] at n4; cases n4
    have keep : ∀ x ∈ as, ∀ o, H3 x = some o → H4 x = some o := fun x hx o ho => (hide_of (g4.sm x o (hide_get (fresh_ne fo2 (asf x hx)) ho))).2
    have hasome : ∀ x ∈ as, ∃ o, H3 x = some o := fun x hx => by
      obtain ⟨k, hk, ek⟩ := List.getElem_of_mem hx
      exact ⟨_, rw' k x _ (by rw [List.getElem?_eq_getElem hk, ek]) (List.getElem?_eq_getElem (by omega))⟩
    have nDn : Dn ∉ as := fun hx => by
      obtain ⟨o, ho⟩ := hasome Dn hx
      rw [n4] at ho; cases ho
    refine ⟨as.map .ref, (g4.kp D List.mem_cons_self).trans top, small1000 (by rw [List.length_map]; omega), m - 1, by omega, by omega, by omega, some (.dat (dd i)), as ++ [Dn], rows ++ [ns], env_put hD (env2.mono g4), ?_, ?_, ?_, ?_, ?_, ?_, ?_, ?_, ?_, ?_, ?_⟩
    · rw [hide_with_upd (H := H4)]; exact sm.trans g4.sm
    · exact fun b hb => (upd_ne (fun (z : b = D) => hM (z ▸ hb))).trans ((g4.kp b (List.mem_cons_of_mem _ hb)).trans (kp b hb))
    · intro p hp
      by_cases hpd : p = D
      · subst hpd; rw [upd_same] at hp; cases hp
      · rw [upd_ne hpd] at hp
        exact fre p (g4.free env2.fd hp)
    · rw [upd_same, List.map_append]; rfl
    · exact List.nodup_append.mpr ⟨nd, by simp, fun x hx z hz => by
        have : z = Dn := by simpa using hz
        subst this
        exact fun e => nDn (e ▸ hx)⟩
    · simp [nDas, Ne.symm hDn]
    · intro x hx
      rcases List.mem_append.mp hx with hx | hx
      · exact asf x hx
      · have : x = Dn := by simpa using hx
        subst this
        exact fre _ n4
    · simp [la]
    · simp [lr]
    · intro k x r hx hr
      have hxm := List.mem_of_getElem? hx
      have hxD : x ≠ D := by
        rintro rfl
        rcases List.mem_append.mp hxm with hx' | hx'
        · exact nDas hx'
        · have : x = Dn := by simpa using hx'
          exact hDn this.symm
      rw [upd_ne hxD]
      by_cases hk : k < as.length
      · rw [List.getElem?_append_left hk] at hx
        rw [List.getElem?_append_left (by omega)] at hr
        exact keep x (List.mem_of_getElem? hx) _ (rw' k x r hx hr)
      · have hk' : k = as.length := by
          have := (List.getElem?_eq_some_iff.mp hx).1
          simp at this; omega
        subst hk'
        rw [List.getElem?_append_right (Nat.le_refl _)] at hx
        rw [List.getElem?_append_right (by omega)] at hr
        simp only [Nat.sub_self, List.getElem?_cons_zero] at hx
        rw [la, ← lr, Nat.sub_self, List.getElem?_cons_zero] at hr
        cases hx
        cases hr
        exact h4
    · intro k r hr
      by_cases hk : k < rows.length
      · rw [List.getElem?_append_left hk] at hr; exact hR k r hr
      · have hk' : k = rows.length := by
          have := (List.getElem?_eq_some_iff.mp hr).1
          simp at this; omega
        subst hk'
        rw [List.getElem?_append_right (Nat.le_refl _), Nat.sub_self, List.getElem?_cons_zero] at hr
        cases hr
        rw [lr]; exact hRn
  · have ei : i = n := by omega
    subst ei
    refine .inl ⟨js rfl, hQ rows as H' ⟨smk.trans same_with, ⟨env.fd.fd, fun b hb => env.fd.mm b (List.mem_cons_of_mem _ hb), fun p e hp => env.fd.nm p e (List.mem_cons_of_mem _ hp)⟩, fun b hb => ?_⟩ (fun x hx => ?_) ⟨top, List.nodup_cons.mpr ⟨nDas, nd⟩, by omega, rw'⟩ lr hR⟩
    · rw [kp b hb, upd_ne]
      obtain ⟨o, h3⟩ := e1.fd.mm b hb
      exact ne_of_none h3 hn
    · have := asf x hx
      rw [upd_ne (fun (z : x = D) => nDas (z ▸ hx))] at this
      exact this
theorem t_range {t : TA} {P : List (List Int) → Prop} (h : PAd K f t ρ fun xs => ∃ j : Int, xs = [.dat (.int j)] ∧ j ≤ 1000 ∧ -1000 ≤ j ∧ ∃ R : Nat → List Int → Prop,
      (∀ D (i : Nat), (i : Int) < j → PEdL K (f.with D) te (some (.dat (.int i)) :: frD fr ρ) fun es => ∃ ns : List Int, es = ns.map .int ∧ R i ns) ∧ ∀ rows, rows.length = j.toNat → (∀ (k : Nat) r, rows[k]? = some r → R k r) → P rows) :
    PEdT K f (tComp (iRng1 t) 1 fr (gName 0) tYes fun D => tEmit D te) ρ P := fun σ H Q e q => h σ H _ e fun xs vs H1 g1 r1 ⟨j, ex, b1, b2, R, rs, re⟩ => by
  subst ex
  cases r1 with
  | @cons _ v0 _ _ rx r' =>
    cases r'
    have rx' : Rep K (hide H1 f) (.int j) v0 := rx
    refine ⟨j, by rw [rep_int.mp rx'], by omega, by omega, fun D hn => ?_⟩
    refine tab_core (n := j.toNat) (dd := fun i => .int i) (R := R) hn (e.mono g1) (by omega) (fun i H' _ => ⟨fun hi => ⟨hi, fun x H3 hy => ?_⟩, fun hi => Nat.le_of_eq hi.symm⟩) (fun i hi => rs D i (by omega)) fun rows as H' g' fa ta hl hR => ?_
    · obtain ⟨rfl, rfl⟩ := hy
      have hz : (0 : Int) + (i : Int) = (i : Int) := Int.zero_add _
      exact ⟨rfl, by rw [hz]; exact (rep_int (K := K)).mpr rfl⟩
    · exact q rows D as H' (g1.trans g') (g1.free e.fd hn) (fun x hx => g1.free e.fd (fa x hx)) ta (re rows hl hR)
theorem TabAt.rep {H : Hp} {a : Addr} {as : List Addr} {rows : List (List Int)} (t : TabAt H a as rows) (ha : ¬ (f.f = some a ∨ a ∈ f.M)) (hs : ∀ x ∈ as, ¬ (f.f = some x ∨ x ∈ f.M)) : Rep K (hide H f) (.list (rows.map fun r => .list (r.map .int))) (.ref a) := by
  refine rep_list.mpr ⟨a, _, rfl, .of (hide_get ha t.top), ?_⟩
  have key : ∀ (as : List Addr) (rows : List (List Int)), as.length = rows.length → (∀ x ∈ as, ¬ (f.f = some x ∨ x ∈ f.M)) → (∀ (i : Nat) x r, as[i]? = some x → rows[i]? = some r → H x = some (.lst (r.map .int))) → Reps K (hide H f) (rows.map fun r => .list (r.map .int)) (as.map .ref) := by
    intro as
    induction as with
    | nil => intro rows hl _ _; cases rows with
      | nil => exact .nil'
      | cons r rs => cases hl
    | cons x as ih =>
      intro rows hl hs hr
      cases rows with
      | nil => cases hl
      | cons r rs =>
        exact .cons' (rep_list.mpr ⟨x, _, rfl, .of (hide_get (hs x List.mem_cons_self) (hr 0 x r rfl rfl)), Reps.ints' r⟩) (ih rs (by simpa using hl) (fun y hy => hs y (List.mem_cons_of_mem _ hy)) fun i y q h1 h2 => hr (i + 1) y q (by simpa using h1) (by simpa using h2))
  exact key as rows t.len hs t.row
end
end L2
end
section
namespace L2
open PySem PySem.Spec PyProof.Rows
section
variable {K : PySem.W.Frag} {f : Fx} {ρ : DEnv} {P : List PyData → Prop} {te tl : TE} {tt : TT} {g : TG} {own : Nat} {fr : List Nat}
theorem c_rangeL {t : TA} (h : PAd K f t ρ fun xs => ∃ j : Int, xs = [.dat (.int j)] ∧ j ≤ 1000 ∧ -1000 ≤ j ∧ ∃ R : Nat → DEnv → List PyData → Prop, R 0 (startD own fr ρ) [] ∧
      (∀ D (i : Nat) ρ' es, (i : Int) < j → R i ρ' es → PGd K (f.with D) g (.int i) ρ' fun ρ2 => PTd K (f.with D) tt ρ2 fun b => if b = true then PEd K (f.with D) te ρ2 fun e => R (i + 1) ρ2 (es ++ [e]) else R (i + 1) ρ2 es) ∧
      (∀ i ρ' es, R i ρ' es → es.length ≤ i) ∧ ∀ ρ' es, R j.toNat ρ' es → P es) :
    PEdL K f (tComp (iRng1 t) own fr g tt fun D => tEmit D te) ρ P := fun σ H Q e q => h σ H _ e fun xs vs H1 g1 r1 ⟨j, ex, b1, b2, R, r0, rs, rl, re⟩ => by
  subst ex
  cases r1 with
  | @cons _ v0 _ _ rx r' =>
    cases r'
    have rx' : Rep K (hide H1 f) (.int j) v0 := rx
    refine ⟨j, by rw [rep_int.mp rx'], by omega, by omega, fun D hn => ?_⟩
    have nD := fresh_ne g1.2 hn
    have hD : f.f ≠ some D := fun z => nD (.inl z)
    have hM : D ∉ f.M := fun z => nD (.inr z)
    have e1 := e.mono g1
    refine ⟨fun i m σ' H' => ∃ ρ' es, CSt K f D (upd H1 D (.lst [])) ρ' es σ' H' ∧ R i ρ' es ∧ i ≤ j.toNat ∧ m + i = j.toNat, ⟨j.toNat, _, [], comp_begin hn e1, r0, Nat.zero_le _, rfl⟩, fun i m σ' H' ⟨ρ', es, c, p, hi, hm⟩ => ?_⟩
    by_cases hlt : i < j.toNat
    · refine .inr ⟨hlt, fun x H3 hy => ?_⟩
      obtain ⟨rfl, rfl⟩ := hy
      have hz : (0 : Int) + (i : Int) = (i : Int) := Int.zero_add _
      rw [hz]
      refine comp_turn (R := R (i + 1)) hD hM c (by have := rl i ρ' es p; omega) ((rep_int (K := K)).mpr rfl) (rs D i ρ' es (by omega) p) fun ρ2 es2 σ2 H4 c2 p2 => ?_
      exact ⟨m - 1, by omega, ρ2, es2, c2, p2, by omega, by omega⟩
    · have ei : i = j.toNat := by omega
      subst ei
      obtain ⟨ge, _⟩ := comp_end (σ' := σ') hn g1.2 c
      obtain ⟨vs, h1, h2⟩ := c.lst
      exact .inl ⟨Nat.le_refl _, q es D vs H' (g1.trans ge) (g1.free e.fd hn) h1 (Reps.mono same_with es vs h2) (re ρ' es p)⟩
theorem c_rangeL1 {t : TA} (h : PAd K f t ρ fun xs => ∃ j : Int, xs = [.dat (.int j)] ∧ j ≤ 1000 ∧ -1000 ≤ j ∧ ∃ R : Nat → PyData → Prop,
      (∀ D (i : Nat), (i : Int) < j → PEd K (f.with D) te (some (.dat (.int i)) :: frD fr ρ) (R i)) ∧ ∀ es : List PyData, es.length = j.toNat → (∀ (i : Nat) e, es[i]? = some e → R i e) → P es) :
    PEdL K f (tComp (iRng1 t) 1 fr (gName 0) tYes fun D => tEmit D te) ρ P :=
  c_rangeL fun σ H Q e q => h σ H Q e fun xs vs H' g' r' ⟨j, ex, b1, b2, R, rs, re⟩ => by
    refine q xs vs H' g' r' ⟨j, ex, b1, b2, fun i ρ' es => (∃ x, ρ' = x :: frD fr ρ) ∧ es.length = i ∧ ∀ (k : Nat) e, es[k]? = some e → R k e, ⟨⟨none, rfl⟩, rfl, fun k e h => by simp at h⟩, fun D i ρ' es hi p => ?_, fun i ρ' es p => Nat.le_of_eq p.2.1, fun ρ' es p => re es p.2.1 p.2.2⟩
    obtain ⟨⟨x, rfl⟩, hl, hp⟩ := p
    refine g_name ?_
    intro σ H Q e q
    refine q true H (.refl e.fd) ?_
    dsimp only
    rw [if_pos rfl]
    refine (rs D i hi).imp fun d hd => ⟨⟨_, rfl⟩, by rw [List.length_append, hl]; rfl, fun k e hk => ?_⟩
    by_cases hkl : k < es.length
    · rw [List.getElem?_append_left hkl] at hk; exact hp k e hk
    · rw [List.getElem?_append_right (by omega)] at hk
      have hk0 : k - es.length = 0 := by
        have := (List.getElem?_eq_some_iff.mp hk).1
        simp at this; omega
      rw [hk0] at hk
      cases hk
      have : k = i := by omega
      subst this
      exact hd
end
end L2
end
section
namespace L2
open PySem PySem.Spec PyProof.Rows
section
variable {X : Cx} {K : PySem.W.Frag}
theorem ix_listK (hK : X.K = K) : IxR X (rIxL K) := hK ▸ ix_list
theorem call_lenK (hK : X.K = K) : CallR X (.builtin "len") (fun xs H Q => ∃ p ys, xs = [.ref p] ∧ (SqL K H p ys ∨ SqT K H p ys) ∧ Q (.int ys.length) H) := hK ▸ call_len_seq
theorem call_listK (hK : X.K = K) : CallR X (.type "list") (fun xs H Q => ∃ p ys, xs = [.ref p] ∧ (SqL K H p ys ∨ SqT K H p ys) ∧ ∀ l, H l = none → Q (.ref l) (upd H l (.lst ys))) := hK ▸ call_list_of
theorem call_minK (hK : X.K = K) (hc : X.calm = true) : CallR X (.builtin "min") (fun xs H Q => ∃ a ns, xs = [.ref a] ∧ SqL K H a (ns.map V.int) ∧ ns ≠ [] ∧ ∀ M, M ∈ ns → (∀ b ∈ ns, M ≤ b) → Q (.int M) H) := hK ▸ call_minL hc
theorem call_maxK (hK : X.K = K) (hc : X.calm = true) : CallR X (.builtin "max") (fun xs H Q => ∃ a ns, xs = [.ref a] ∧ SqL K H a (ns.map V.int) ∧ ns ≠ [] ∧ ∀ M, M ∈ ns → (∀ b ∈ ns, b ≤ M) → Q (.int M) H) := hK ▸ call_maxL hc
theorem op_eqK (hK : X.K = K) (hu : X.A.units + 64 < cLine) : OpR X (compareOp .Eq) (rEqD K false) := hK ▸ op_eqD hu
theorem op_neK (hK : X.K = K) (hu : X.A.units + 64 < cLine) : OpR X (compareOp .NotEq) (rEqD K true) := hK ▸ op_neD hu
variable {tg l e st : Expr} {tl te ts : TE} {ta : TA} {p pos p2 : Pos}
theorem pi_listK (hK : X.K = K) (hl : PE X l tl) : PI X tg l (iList K tl) := hK ▸ pi_list hl
theorem pi_enumK {es : List Expr} {k : Nat} {tpos : Pos} (hK : X.K = K) (hg : Gl X "enumerate") (hm : X.mg "enumerate" = none) (ha : PA X [l] ta) (hs : starEach [l] X.env = [(false, eval l X.env)] := by rfl) : PI X (.Tuple es k tpos) (.Call (.Name "enumerate" p) [l] [] pos) (iEnum K ta) := hK ▸ pi_enum hg hm ha hs
theorem pt_truK (hK : X.K = K) (ha : PE X e te) (he : ∀ whole, isTrue e X.env whole = (do let v ← whole; standAt e.pos; holding [v] (truthy v))) : PT X e (tTru K te) := hK ▸ pt_tru ha he
theorem pg_tupK {es : List Expr} {k : Nat} {t : TGs} {n : Nat} (hK : X.K = K) (hc : X.calm = true) (h : PGs X es t) (hn : (assignEach es X.env).length = n := by rfl) (hst : (assignEach es X.env).findIdx? (·.1) = none := by rfl) : PG X (.Tuple es k pos) (gTup K n t) := hK ▸ pg_tup hc h hn hst
end
end L2
end
section
namespace L2
open PySem PySem.Spec PyProof.Rows
structure ItD (K : PySem.W.Frag) (f : Fx) (ds : List PyData) (J : It) (H1 : Hp) : Prop where
  go : ∀ (f' : Fx) (H' : Hp) (i : Nat) d, FOk f' H' → Same (hide H1 f) (hide H' f') → ds[i]? = some d → J.go i H' ∧ ∀ x H3, J.yld i H' x H3 → Goes f' H' H3 ∧ Rep K (hide H3 f') d x
  st : ∀ (f' : Fx) (H' : Hp), FOk f' H' → Same (hide H1 f) (hide H' f') → J.stop ds.length H'
def PId (K : PySem.W.Frag) (f : Fx) (wi : TI) (ρ : DEnv) (R : List PyData → Prop) : Prop := ∀ (σ : St) (H : Hp) (C : It → Hp → Prop), EnvOk K f ρ σ H →
  (∀ ds J H1, Goes f H H1 → ItD K f ds J H1 → R ds → C J H1) → wi σ H C
def rangeD (n : Nat) : List PyData := (List.range n).map fun (i : Nat) => .int (i : Int)
def enumD (ds : List PyData) : List PyData := ds.mapIdx fun i d => .tuple [.int (i : Int), d]
section
variable {K : PySem.W.Frag} {f : Fx} {ρ : DEnv} {R : List PyData → Prop} {tl : TE} {t : TA}
theorem PId.imp {wi : TI} {R' : List PyData → Prop} (h : PId K f wi ρ R) (i : ∀ ds, R ds → R' ds) : PId K f wi ρ R' := fun σ H C e q => h σ H C e fun ds J H1 g it r => q ds J H1 g it (i ds r)
theorem i_range (h : PAd K f t ρ fun xs => ∃ j : Int, xs = [.dat (.int j)] ∧ -(2 ^ 62) ≤ j ∧ j < 2 ^ 62 ∧ R (rangeD j.toNat)) : PId K f (iRng1 t) ρ R := fun σ H C e q => h σ H _ e fun xs vs H1 g1 r1 ⟨j, ex, q1, q2, p⟩ => by
  subst ex
  cases r1 with
  | @cons _ v0 _ _ rx r' =>
    cases r'
    have rx' : Rep K (hide H1 f) (.int j) v0 := rx
    refine ⟨j, by rw [rep_int.mp rx'], q1, q2, q _ _ H1 g1 ⟨fun f' H' i d fo _ hd => ?_, fun f' H' _ _ => ?_⟩ p⟩
    · unfold rangeD at hd
      rw [List.getElem?_map] at hd
      by_cases hi : i < j.toNat
      · rw [List.getElem?_range hi] at hd
        cases hd
        refine ⟨hi, fun x H3 hy => ?_⟩
        obtain ⟨rfl, rfl⟩ := hy
        exact ⟨.refl fo, rep_int.mpr (by rw [Int.zero_add])⟩
      · rw [List.getElem?_eq_none (by rw [List.length_range]; omega)] at hd
        cases hd
    · show j.toNat ≤ (rangeD j.toNat).length
      unfold rangeD
      rw [List.length_map, List.length_range]
      exact Nat.le_refl _
theorem i_list (h : PEd K f tl ρ fun x => ∃ ds, x = .list ds ∧ R ds) : PId K f (iList K tl) ρ R := fun σ H C e q => h σ H _ e fun x v H1 g1 r1 ⟨ds, ex, p⟩ => by
  subst ex
  obtain ⟨a, xs, rfl, h1, h2⟩ := rep_list.mp r1
  have hl := h2.length
  refine ⟨a, rfl, ⟨xs, (hide_same _ _).seq h1⟩, q ds _ H1 g1 ⟨fun f' H' i d fo sm hd => ?_, fun f' H' _ sm => ⟨xs, (hide_same _ _).seq (sm.seq h1), Nat.le_of_eq hl⟩⟩ p⟩
  obtain ⟨z, hz, rz⟩ := h2.get hd
  have sq : SqL K H' a xs := (hide_same _ _).seq (sm.seq h1)
  refine ⟨⟨xs, z, sq, hz⟩, fun x H3 hy => ?_⟩
  obtain ⟨rfl, hy⟩ := hy
  have ez := hy xs sq
  rw [hz] at ez
  cases ez
  exact ⟨.refl fo, Rep.mono sm _ _ rz⟩
theorem i_enum (h : PAd K f t ρ fun xs => ∃ ds, xs = [.dat (.list ds)] ∧ R (enumD ds)) : PId K f (iEnum K t) ρ R := fun σ H C e q => h σ H _ e fun xs vs H1 g1 r1 ⟨ds, ex, p⟩ => by
  subst ex
  cases r1 with
  | cons rx r' =>
    cases r'
    obtain ⟨a, xs, rfl, h1, h2⟩ := rep_list.mp rx
    have hl := h2.length
    refine ⟨a, rfl, ⟨xs, (hide_same _ _).seq h1⟩, q (enumD ds) _ H1 g1 ⟨fun f' H' i d fo sm hd => ?_, fun f' H' _ sm => ⟨xs, (hide_same _ _).seq (sm.seq h1), by unfold enumD; rw [List.length_mapIdx]; exact Nat.le_of_eq hl⟩⟩ p⟩
    unfold enumD at hd
    rw [List.getElem?_mapIdx] at hd
    cases eq : ds[i]? with
    | none => rw [eq] at hd; cases hd
    | some d0 =>
      rw [eq] at hd
      cases hd
      obtain ⟨z, hz, rz⟩ := h2.get eq
      have sq : SqL K H' a xs := (hide_same _ _).seq (sm.seq h1)
      refine ⟨⟨xs, z, sq, hz⟩, fun x H3 hy => ?_⟩
      obtain ⟨tp, y, rfl, hn, rfl, hy⟩ := hy
      have ez := hy xs sq
      rw [hz] at ez
      cases ez
      have gn : Goes f' H' (upd H' tp (.tup [.int i, z])) := .of_same (same_new hn _) fo
      exact ⟨gn, rep_tuple.mpr ⟨tp, _, rfl, .of (hide_get (fresh_ne fo hn) upd_same), .cons' (rep_int.mpr rfl) (.cons' (Rep.mono gn.1 _ _ (Rep.mono sm _ _ rz)) .nil')⟩⟩
end
section
variable {K : PySem.W.Frag} {f : Fx} {ρ : DEnv} {D : DEnds} {wi : TI} {g : TG} {ts : TS}
theorem s_for (h : PId K f wi ρ fun ds => ∃ J : Nat → DEnv → Prop, J 0 ρ ∧
      (∀ (i : Nat) d ρ', ds[i]? = some d → J i ρ' → PGd K f g d ρ' fun ρ2 => PSd K f ts ρ2 { D with nx := J (i + 1), ct := J (i + 1), bk := D.nx }) ∧ ∀ ρ', J ds.length ρ' → D.nx ρ') :
    PSd K f (tFor wi g ts) ρ D := fun σ H E e n r b c => h σ H _ e fun ds J H1 g1 it ⟨Jv, j0, js, jd⟩ => by
  refine ⟨fun i m σ' H' => ∃ ρ', EnvOk K f ρ' σ' H' ∧ Goes f H1 H' ∧ Jv i ρ' ∧ m + i = ds.length, ⟨ds.length, ρ, e.mono g1, .refl g1.2, j0, rfl⟩, fun i m σ' H' ⟨ρ', e', g', p, hm⟩ => ?_⟩
  by_cases hi : i < ds.length
  · obtain ⟨hgo, hy⟩ := it.go f H' i _ e'.fd g'.sm (List.getElem?_eq_getElem hi)
    refine .inr ⟨hgo, fun σ2 H2 => ∃ ρ2, EnvOk K f ρ2 σ2 H2 ∧ Goes f H1 H2 ∧ Jv (i + 1) ρ2, fun σ2 H2 ⟨ρ2, e2, g2, p2⟩ => ⟨m - 1, by omega, ρ2, e2, g2, p2, by omega⟩, fun x H3 hx => ?_⟩
    obtain ⟨g3, r3⟩ := hy x H3 hx
    refine js i _ ρ' (List.getElem?_eq_getElem hi) p σ' H3 x _ (e'.mono g3) r3 fun ρ2 σ2 H4 g4 e4 p4 => ?_
    have gg := g'.trans (g3.trans g4)
    exact p4 σ2 H4 _ e4 (fun ρ5 σ5 H5 g5 e5 p5 => ⟨ρ5, e5, gg.trans g5, p5⟩) (fun d v H5 g5 r5 p5 => r d v H5 (g1.trans (gg.trans g5)) r5 p5) (fun ρ5 σ5 H5 g5 e5 p5 => n ρ5 σ5 H5 (g1.trans (gg.trans g5)) e5 p5) (fun ρ5 σ5 H5 g5 e5 p5 => ⟨ρ5, e5, gg.trans g5, p5⟩)
  · have ei : i = ds.length := by omega
    subst ei
    exact .inl ⟨it.st f H' e'.fd g'.sm, n ρ' σ' H' (g1.trans g') e' (jd ρ' p)⟩
end
section
variable {K : PySem.W.Frag} {f : Fx} {ρ : DEnv} {D : Addr} {wi : TI} {g : TG} {tt : TT} {te : TE}
theorem CSt.self {H2 H : Hp} {es : List PyData} {σ : St} (c : CSt K f D H2 ρ es σ H) : CSt K f D H ρ es σ H := ⟨c.env, Same.refl _, fun _ _ => rfl, c.lst⟩
theorem CSt.trans {H2 H H' : Hp} {es es' : List PyData} {ρ' : DEnv} {σ σ' : St} (c : CSt K f D H2 ρ es σ H) (d : CSt K f D H ρ' es' σ' H') : CSt K f D H2 ρ' es' σ' H' := ⟨d.env, c.sm.trans d.sm, fun b hb => (d.kp b hb).trans (c.kp b hb), d.lst⟩
def PBd (K : PySem.W.Frag) (f : Fx) (D : Addr) (tb : TB) (ρ : DEnv) (es : List PyData) (R : DEnv → List PyData → Prop) : Prop := f.f ≠ some D → D ∉ f.M → ∀ (σ : St) (H H2 : Hp) (W : St → Hp → Prop), CSt K f D H2 ρ es σ H →
  (∀ ρ2 es2 σ2 H', CSt K f D H2 ρ2 es2 σ2 H' → R ρ2 es2 → W σ2 H') → tb σ H W
theorem b_emit {es : List PyData} {R : DEnv → List PyData → Prop} (hl : es.length < 1000) (h : PEd K (f.with D) te ρ fun e => R ρ (es ++ [e])) : PBd K f D (tEmit D te) ρ es R := fun hD hM σ H H2 W c q =>
  h σ H _ c.env fun e u H5 g5 r5 p5 => by
    have c5 := c.go g5 (c.env.mono g5)
    obtain ⟨vs, h1, h2⟩ := c5.lst
    exact ⟨vs, h1, small1000 (by rw [h2.length]; omega), q _ _ _ _ (c5.put hD hM h1 h2 r5) p5⟩
theorem b_loop {fi : Fx} {Hi H2 H : Hp} {ds es : List PyData} {J : It} {tb : TB} {σ : St} {W : St → Hp → Prop} (it : ItD K fi ds J Hi) (hD : f.f ≠ some D) (hM : D ∉ f.M) (c : CSt K f D H2 ρ es σ H) (sm : Same (hide Hi fi) (hide H (f.with D)))
    (Jv : Nat → DEnv → List PyData → Prop) (j0 : Jv 0 ρ es)
    (js : ∀ (i : Nat) d ρ' es', ds[i]? = some d → Jv i ρ' es' → PGd K (f.with D) g d ρ' fun ρ2 => PTd K (f.with D) tt ρ2 fun b => if b = true then PBd K f D tb ρ2 es' (Jv (i + 1)) else Jv (i + 1) ρ2 es')
    (hW : ∀ ρ' es' σ' H', CSt K f D H2 ρ' es' σ' H' → Jv ds.length ρ' es' → W σ' H') : tLoop J g tt tb σ H W := by
  refine ⟨fun i m σ' H' => ∃ ρ' es', CSt K f D H2 ρ' es' σ' H' ∧ Same (hide Hi fi) (hide H' (f.with D)) ∧ Jv i ρ' es' ∧ m + i = ds.length, ⟨ds.length, ρ, es, c, sm, j0, rfl⟩, fun i m σ' H' ⟨ρ', es', c', sm', p, hm⟩ => ?_⟩
  by_cases hi : i < ds.length
  · obtain ⟨hgo, hy⟩ := it.go (f.with D) H' i _ c'.env.fd sm' (List.getElem?_eq_getElem hi)
    refine .inr ⟨hgo, fun x H3 hx => ?_⟩
    obtain ⟨g3, r3⟩ := hy x H3 hx
    have c3 := c'.go g3 (c'.env.mono g3)
    refine js i _ ρ' es' (List.getElem?_eq_getElem hi) p σ' H3 x _ c3.env r3 fun ρ2 σ2 H4 g4 e4 p4 => ?_
    have c4 := c3.go g4 e4
    refine p4 σ2 H4 _ e4 fun b H5 g5 p5 => ?_
    have c5 := c4.go g5 (e4.mono g5)
    have sm5 := ((sm'.trans g3.sm).trans g4.sm).trans g5.sm
    cases b with
    | false =>
      rw [if_neg Bool.false_ne_true] at p5 ⊢
      exact ⟨m - 1, by omega, ρ2, es', c5, sm5, p5, by omega⟩
    | true =>
      rw [if_pos rfl] at p5 ⊢
      exact p5 hD hM σ2 H5 H5 _ c5.self fun ρ6 es6 σ6 H6 c6 p6 => ⟨m - 1, by omega, ρ6, es6, c5.trans c6, sm5.trans c6.sm, p6, by omega⟩
  · have ei : i = ds.length := by omega
    subst ei
    exact .inl ⟨it.st (f.with D) H' c'.env.fd sm', hW ρ' es' σ' H' c' p⟩
def PEdO (K : PySem.W.Frag) (f : Fx) (te : TE) (ρ : DEnv) (P : List PyData → Prop) : Prop := ∀ (σ : St) (H : Hp) (Q : VK), EnvOk K f ρ σ H →
  (∀ es D vs H', Goes f H H' → H D = none → H' D = some (.lst vs) → Reps K (hide H' (f.with D)) es vs → P es → Q (.ref D) H') → te σ H Q
theorem PEdO.pedl {P : List PyData → Prop} (h : PEdO K f te ρ P) : PEdL K f te ρ P := fun σ H Q e q => h σ H Q e fun es D vs H' g n h1 r p => q es D vs H' g n h1 (Reps.mono same_with es vs r) p
theorem PEdO.ped {P : PyData → Prop} (h : PEdO K f te ρ fun es => P (.list es)) : PEd K f te ρ P := h.pedl.ped
theorem PEdO.imp {P P' : List PyData → Prop} (h : PEdO K f te ρ P) (i : ∀ es, P es → P' es) : PEdO K f te ρ P' := fun σ H Q e q => h σ H Q e fun es D vs H' g n h1 r p => q es D vs H' g n h1 r (i es p)
theorem c_comp {own : Nat} {fr : List Nat} {tb : Addr → TB} {P : List PyData → Prop} (h : PId K f wi ρ fun ds => ∃ Jv : Nat → DEnv → List PyData → Prop, Jv 0 (startD own fr ρ) [] ∧
      (∀ D (i : Nat) d ρ' es', ds[i]? = some d → Jv i ρ' es' → PGd K (f.with D) g d ρ' fun ρ2 => PTd K (f.with D) tt ρ2 fun b => if b = true then PBd K f D (tb D) ρ2 es' (Jv (i + 1)) else Jv (i + 1) ρ2 es') ∧
      ∀ ρ' es', Jv ds.length ρ' es' → P es') : PEdO K f (tComp wi own fr g tt tb) ρ P := fun σ H Q e q =>
  h σ H _ e fun ds J H1 g1 it ⟨Jv, j0, js, jd⟩ D hn => by
    have nD := fresh_ne g1.2 hn
    have hD : f.f ≠ some D := fun z => nD (.inl z)
    have hM : D ∉ f.M := fun z => nD (.inr z)
    refine b_loop it hD hM (comp_begin hn (e.mono g1)) (same_in hn) Jv j0 (js D) fun ρ' es' σ' H' c' p => ?_
    obtain ⟨ge, rep⟩ := comp_end (σ' := σ') hn g1.2 c'
    obtain ⟨vs, h1, h2⟩ := c'.lst
    exact q es' D vs H' (g1.trans ge) (g1.free e.fd hn) h1 h2 (jd ρ' es' p)
end
end L2
end
section
namespace L2
open PySem PySem.Spec PyProof.Rows
section
variable {K : PySem.W.Frag} {f : Fx} {ρ : DEnv} {D : Addr} {wi : TI} {g : TG} {tt : TT} {te : TE}
def OwnE (own : Nat) (ρ0 : DEnv) (ρ' : DEnv) : Prop := ∃ us : DEnv, us.length = own ∧ ρ' = us ++ ρ0
theorem OwnE.one {ρ0 ρ' : DEnv} (h : OwnE 1 ρ0 ρ') : ∃ u, ρ' = u :: ρ0 := by
  obtain ⟨us, h1, rfl⟩ := h
  match us, h1 with
  | [u], _ => exact ⟨u, rfl⟩
theorem OwnE.two {ρ0 ρ' : DEnv} (h : OwnE 2 ρ0 ρ') : ∃ u v, ρ' = u :: v :: ρ0 := by
  obtain ⟨us, h1, rfl⟩ := h
  match us, h1 with
  | [u, v], _ => exact ⟨u, v, rfl⟩
theorem OwnE.mk1 {ρ0 : DEnv} {u : Option DV} : OwnE 1 ρ0 (u :: ρ0) := ⟨[u], rfl, rfl⟩
theorem t_yes {B : Bool → Prop} (h : B true) : PTd K f tYes ρ B := fun σ H Q e q => q true H (.refl e.fd) h
end
structure OEnds where
  nx : DEnv → List PyData → Prop
  rt : PyData → Prop
  bk : DEnv → List PyData → Prop := fun _ _ => False
  ct : DEnv → List PyData → Prop := fun _ _ => False
section
variable {K : PySem.W.Frag} {f : Fx} {ρ : DEnv} {D : Addr} {wi : TI} {g : TG} {tt : TT} {te : TE} {ts tu : TS} {es : List PyData} {O : OEnds} {i : Nat}
def dropOwn (n : Nat) : Option DV → Option DV
  | some (.own k) => if k < n then some (.own k) else none
  | x => x
end
end L2
end
section
namespace L2
open PySem PySem.Spec PyProof.Rows
section
variable {K : PySem.W.Frag} {f : Fx} {ρ : DEnv} {P : PyData → Prop} {te ta tb : TE} {t : TA}
theorem Reps.drop {H : Hp} : ∀ {ds : List PyData} {xs : List V} (n : Nat), Reps K H ds xs → Reps K H (ds.drop n) (xs.drop n)
  | _, _, 0, r => r
  | [], xs, n + 1, r => by
    rw [reps_nil.mp r]
    exact .nil'
  | d :: ds, xs, n + 1, r => by
    obtain ⟨x, r', rfl, _, h⟩ := reps_cons.mp r
    exact Reps.drop n h
theorem Reps.take {H : Hp} : ∀ {ds : List PyData} {xs : List V} (n : Nat), Reps K H ds xs → Reps K H (ds.take n) (xs.take n)
  | _, _, 0, r => .nil'
  | [], xs, n + 1, r => by
    rw [reps_nil.mp r]
    exact .nil'
  | d :: ds, xs, n + 1, r => by
    obtain ⟨x, r', rfl, h0, h⟩ := reps_cons.mp r
    exact .cons' h0 (Reps.take n h)
def cutD (ds : List PyData) (lo hi : Option Int) : List PyData := (ds.drop (HT.sIx ds.length 0 lo)).take (HT.sIx ds.length ds.length hi - HT.sIx ds.length 0 lo)
theorem Reps.cut {H : Hp} {ds : List PyData} {xs : List V} {lo hi : Option Int} (r : Reps K H ds xs) : Reps K H (cutD ds lo hi) (cutV xs lo hi) := by
  unfold cutD cutV
  rw [r.length]
  exact (r.drop _).take _
def POd (K : PySem.W.Frag) (f : Fx) (t : TO) (ρ : DEnv) (R : Option Int → Prop) : Prop := ∀ (σ : St) (H : Hp) (Q : Option Int → Hp → Prop), EnvOk K f ρ σ H → (∀ o H', Goes f H H' → R o → Q o H') → t σ H Q
theorem po_no {R : Option Int → Prop} (h : R none) : POd K f tNoPart ρ R := fun σ H Q e q => q none H (.refl e.fd) h
theorem po_at {R : Option Int → Prop} (h : PEd K f te ρ fun d => ∃ i : Int, d = .int i ∧ R (some i)) : POd K f (tPart te) ρ R := fun σ H Q e q => h σ H _ e fun d v H1 g1 r1 ⟨i, ed, p⟩ => by
  subst ed
  exact ⟨i, rep_int.mp r1, q (some i) H1 g1 p⟩
theorem l_cut {tl th : TO} {P : List PyData → Prop} (h : PEd K f te ρ fun x => ∃ ds, x = .list ds ∧ POd K f tl ρ fun lo => POd K f th ρ fun hi => P (cutD ds lo hi)) : PEdL K f (tSl (rSlL K) te tl th) ρ P := fun σ H Q e q =>
  h σ H _ e fun x v H1 g1 r1 ⟨ds, ex, p1⟩ => p1 σ H1 _ (e.mono g1) fun lo H2 g2 p2 => p2 σ H2 _ ((e.mono g1).mono g2) fun hi H3 g3 p3 => by
    subst ex
    have gg := g1.trans (g2.trans g3)
    obtain ⟨a, xs, rfl, h1, h2⟩ := rep_list.mp (Rep.mono (g2.trans g3).sm _ _ r1)
    refine ⟨a, xs, rfl, (hide_same _ _).seq h1, fun p hn => ?_⟩
    have g4 : Goes f H3 (upd H3 p (.lst (cutV xs lo hi))) := .of_same (same_new hn _) g3.ok
    exact q _ p _ _ (gg.trans g4) (gg.free e.fd hn) upd_same (Reps.mono g4.sm _ _ h2.cut) p3
theorem d_cut {tl th : TO} (h : PEd K f te ρ fun x => ∃ ds, x = .list ds ∧ POd K f tl ρ fun lo => POd K f th ρ fun hi => P (.list (cutD ds lo hi))) : PEd K f (tSl (rSlL K) te tl th) ρ P := (l_cut h).ped
theorem d_catT (h : PEd K f ta ρ fun x => ∃ ds, x = .tuple ds ∧ ds ≠ [] ∧ PEd K f tb ρ fun y => ∃ es, y = .tuple es ∧ es ≠ [] ∧ ds.length + es.length ≤ 1000 ∧ P (.tuple (ds ++ es))) : PEd K f (tOp (rCatT K) ta tb) ρ P := fun σ H Q e q =>
  h σ H _ e fun x v H1 g1 r1 ⟨ds, ex, hd, p1⟩ => p1 σ H1 _ (e.mono g1) fun y w H2 g2 r2 ⟨es, ey, he, hl, p2⟩ => by
    subst ex ey
    obtain ⟨a, xs, rfl, h1, h2⟩ := rep_tuple.mp (Rep.mono g2.sm _ _ r1)
    obtain ⟨b, ys, rfl, h3, h4⟩ := rep_tuple.mp r2
    have l1 := h2.length
    have l2 := h4.length
    refine ⟨a, b, xs, ys, rfl, rfl, (hide_same _ _).seqT h1, (hide_same _ _).seqT h3, fun z => hd (List.eq_nil_of_length_eq_zero (by rw [← l1, z]; rfl)), by rw [l1, l2]; exact Nat.le_of_lt (small1000 hl), fun z => absurd (List.eq_nil_of_length_eq_zero (by rw [← l2, z]; rfl)) he, fun _ p hn => ?_⟩
    have g3 : Goes f H2 (upd H2 p (.tup (xs ++ ys))) := .of_same (same_new hn _) g2.ok
    exact q (.tuple (ds ++ es)) _ _ (g1.trans (g2.trans g3)) (rep_tuple.mpr ⟨p, _, rfl, .of (hide_get (fresh_ne g2.ok hn) upd_same), Reps.mono g3.sm _ _ (h2.append h4)⟩) p2
theorem d_int1 (h : PAd K f t ρ fun xs => (∃ i, xs = [.dat (.int i)] ∧ P (.int i)) ∨ (∃ k : Bool, xs = [.dat (.bool k)] ∧ P (.int (if k then 1 else 0)))) :
    PEd K f (tCB (fun xs H Q => (∃ i, xs = [.int i] ∧ Q (.int i) H) ∨ ∃ k : Bool, xs = [.bl k] ∧ Q (.int (if k then 1 else 0)) H) t) ρ P :=
  d_cb fun σ H Q e q => h σ H Q e fun xs vs H' g r p => by
    rcases p with ⟨i, rfl, p⟩ | ⟨i, rfl, p⟩
    · refine q _ vs H' g r ⟨_, rfl, fun vs H Q fo rs k => ?_⟩
      obtain ⟨x, r, rfl, h2, h3⟩ := reps_cons.mp rs
      rw [reps_nil.mp h3, rep_int.mp h2]
      exact .inl ⟨i, rfl, k _ _ H (.refl fo) (rep_int.mpr rfl) p⟩
    · refine q _ vs H' g r ⟨_, rfl, fun vs H Q fo rs k => ?_⟩
      obtain ⟨x, r, rfl, h2, h3⟩ := reps_cons.mp rs
      rw [reps_nil.mp h3, rep_bool.mp h2]
      exact .inr ⟨i, rfl, k _ _ H (.refl fo) (rep_int.mpr rfl) p⟩
theorem d_tupof (h : PAd K f t ρ fun xs => (∃ ds, xs = [.dat (.list ds)] ∧ P (.tuple ds)) ∨ (∃ ds, xs = [.dat (.tuple ds)] ∧ P (.tuple ds))) :
    PEd K f (tCB (fun xs H Q => ∃ p ys, xs = [.ref p] ∧ ((SqL K H p ys ∧ ∀ l, H l = none → Q (.ref l) (upd H l (.tup ys))) ∨ (SqT K H p ys ∧ Q (.ref p) H))) t) ρ P :=
  d_cb fun σ H Q e q => h σ H Q e fun xs vs H' g r p => by
    rcases p with ⟨ds, rfl, p⟩ | ⟨ds, rfl, p⟩
    · refine q _ vs H' g r ⟨_, rfl, fun vs H Q fo rs k => ?_⟩
      obtain ⟨x, r, rfl, h2, h3⟩ := reps_cons.mp rs
      rw [reps_nil.mp h3]
      obtain ⟨a, ys, rfl, s1, s2⟩ := rep_list.mp h2
      refine ⟨a, ys, rfl, .inl ⟨(hide_same _ _).seq s1, fun l hn => ?_⟩⟩
      have g2 : Goes f H (upd H l (.tup ys)) := .of_same (same_new hn _) fo
      exact k (.tuple ds) _ _ g2 (rep_tuple.mpr ⟨l, ys, rfl, .of (hide_get (fresh_ne fo hn) upd_same), Reps.mono g2.1 ds ys s2⟩) p
    · refine q _ vs H' g r ⟨_, rfl, fun vs H Q fo rs k => ?_⟩
      obtain ⟨x, r, rfl, h2, h3⟩ := reps_cons.mp rs
      rw [reps_nil.mp h3]
      obtain ⟨a, ys, rfl, s1, s2⟩ := rep_tuple.mp h2
      exact ⟨a, ys, rfl, .inr ⟨(hide_same _ _).seqT s1, k (.tuple ds) _ H (.refl fo) (rep_tuple.mpr ⟨a, ys, rfl, s1, s2⟩) p⟩⟩
end
abbrev f0 : Fx := ⟨none, []⟩
theorem fok0 (H : Hp) : FOk f0 H := ⟨(fun p e => by cases e), (fun b hb => by cases hb), (fun p e => by cases e)⟩
theorem goes0 {H H' : Hp} (s : Same H H') : Goes f0 H H' := .of_same s (fok0 H)
theorem same0 {H H' : Hp} (g : Goes f0 H H') : Same H H' := fun b o h => (hide_of (g.sm b o (by rw [hide_none]; exact h))).2
def unfeed : Option DV → Option DV
  | some (.dat d) => some (.dat d)
  | _ => none
section
variable {K : PySem.W.Frag} {ρ : DEnv} {te : TE} {tu : TS} {i : Nat}
theorem feed_out {p : Addr} {σ : St} {H : Hp} (e : EnvOk K ⟨some p, []⟩ ρ σ H) : EnvOk K f0 (ρ.map unfeed) σ H := by
  refine ⟨by rw [List.length_map]; exact e.len, fun i x h => ?_, fok0 H⟩
  rw [List.getElem?_map] at h
  cases eq : ρ[i]? with
  | none => rw [eq] at h; cases h
  | some y =>
    rw [eq] at h
    cases y with
    | none => cases h
    | some y =>
      obtain ⟨v, h1, h2⟩ := e.get i y eq
      cases y with
      | dat d =>
        cases h
        refine ⟨v, h1, ?_⟩
        show Rep K (hide H f0) d v
        rw [hide_none]
        exact Rep.mono (hide_same _ _) d v h2
      | feed => cases h
      | own k => cases h
      | exc C => cases h
      | mon φ => cases h
theorem s_feed {Dn : DEnds} (h : ∀ (σ : St) (H : Hp) (Q : VK), EnvOk K f0 ρ σ H → (∀ (p : Addr) (x y : Int) (H' : Hp), Same H H' → H p = none → H' p = some (.lst [.int x, .int y]) → 0 ≤ x → 0 ≤ y → y < 2147483647 → Q (.ref p) H') → te σ H Q)
    (hr : ∀ p, PSd K ⟨some p, []⟩ tu (ρ.set i (some .feed)) { nx := fun ρ' => Dn.nx (ρ'.map unfeed), rt := Dn.rt, bk := fun ρ' => Dn.bk (ρ'.map unfeed), ct := fun ρ' => Dn.ct (ρ'.map unfeed) }) :
    PSd K f0 (tSeq (tAsg te (gName i)) tu) ρ Dn := fun σ H E e n r b k => h σ H _ e fun p x y H1 sm hn hp x0 y0 y1 => by
  have fo : FOk ⟨some p, []⟩ H1 := ⟨fun p' e => by cases e; exact ⟨x, y, hp, x0, y0, y1⟩, (fun b hb => by cases hb), fun _ _ hb => by cases hb⟩
  have sm0 : Same H (hide H1 ⟨some p, []⟩) := fun b o hb => by
    have nb : b ≠ p := fun e => by rw [e, hn] at hb; cases hb
    refine hide_get (fun z => ?_) (sm b o hb)
    rcases z with z | z
    · cases z; exact nb rfl
    · cases z
  have e1 : EnvOk K ⟨some p, []⟩ ρ σ H1 := by
    refine ⟨e.len, fun j z hz => ?_, fo⟩
    obtain ⟨v, a1, a2⟩ := e.get j z hz
    refine ⟨v, a1, ?_⟩
    cases z with
    | dat d =>
      have a2' : Rep K (hide H f0) d v := a2
      rw [hide_none] at a2'
      exact Rep.mono sm0 d v a2'
    | feed => obtain ⟨q, hq, _⟩ := a2; cases hq
    | own k => obtain ⟨q, hq, _⟩ := a2; cases hq
    | exc C =>
      obtain ⟨q, h3, h4⟩ := a2
      refine ⟨q, h3, sm0 _ _ ?_⟩
      rw [hide_none] at h4
      exact h4
    | mon φ =>
      intro H' s
      refine a2 H' (Same.trans ?_ s)
      rw [hide_none]
      exact sm0
  have gg : ∀ {H' : Hp}, Goes ⟨some p, []⟩ H1 H' → Goes f0 H H' := fun g => goes0 fun b o hb => hide_same _ _ b o (g.sm b o (sm0 b o hb))
  refine hr p _ H1 E (e1.set i (x := .feed) ⟨p, rfl, rfl⟩) (fun ρ' σ' H' g' e' p' => n _ σ' H' (gg g') (feed_out e') p') (fun d v H' g' r' p' => r d v H' (gg g') ?_ p') (fun ρ' σ' H' g' e' p' => b _ σ' H' (gg g') (feed_out e') p') (fun ρ' σ' H' g' e' p' => k _ σ' H' (gg g') (feed_out e') p')
  rw [hide_none]
  exact Rep.mono (hide_same _ _) d v r'
end
end L2
end
section
namespace L2
open PySem PySem.Spec PyProof.Rows
section
variable {X : Cx} {K : PySem.W.Frag}
def CDivW (i j : Int) : Prop := 0 < j ∧ j < 1152921504606846976
theorem op_fdivW : OpR X (binaryOp .FloorDiv) (rI CDivW fun i j => .int (i / j)) := opI fun i j _ _ _ _ _ hc q => by
  obtain ⟨h1, h2⟩ := hc
  rw [← Int.fdiv_eq_ediv_of_nonneg i (Int.le_of_lt h1)] at q
  refine floordiv_int (by omega) q (.inl (PyProof.noPylong_of_log2 ?_))
  have h0 : j.natAbs ≠ 0 := by omega
  have : j.natAbs.log2 < 60 := (Nat.log2_lt h0).mpr (by omega)
  omega
theorem sl_listK (hK : X.K = K) : SlR X (rSlL K) := hK ▸ sl_list
end
end L2
end
section
namespace L2
open PySem PySem.Spec PyProof.Rows
section
variable {K : PySem.W.Frag} {f : Fx} {ρ : DEnv} {wi : TI} {g : TG} {tt : TT} {own : Nat} {fr : List Nat} {tb : Addr → TB} {P : List PyData → Prop}
theorem c_map {α : Type} {A B : α → PyData} (xs : List α) (h : PId K f wi ρ fun ds => ds = xs.map A ∧ xs.length ≤ 1000 ∧
      (∀ D x ρ' es, x ∈ xs → OwnE own (frD fr ρ) ρ' → es.length < 1000 → PGd K (f.with D) g (A x) ρ' fun ρ2 => PTd K (f.with D) tt ρ2 fun b => if b = true then PBd K f D (tb D) ρ2 es fun ρ3 es3 => OwnE own (frD fr ρ) ρ3 ∧ es3 = es ++ [B x] else False) ∧ P (xs.map B)) :
    PEdO K f (tComp wi own fr g tt tb) ρ P :=
  c_comp (h.imp fun ds ⟨ed, hl, hs, hp⟩ => by
    subst ed
    refine ⟨fun i ρ' es => OwnE own (frD fr ρ) ρ' ∧ es = (xs.take i).map B, ⟨⟨List.replicate own none, by simp, rfl⟩, by simp⟩, fun D i d ρ' es hd ⟨ho, he⟩ => ?_, fun ρ' es ⟨_, he⟩ => ?_⟩
    · rw [List.getElem?_map] at hd
      cases eq : xs[i]? with
      | none => rw [eq] at hd; cases hd
      | some x =>
        rw [eq] at hd
        cases hd
        have hi : i < xs.length := (List.getElem?_eq_some_iff.mp eq).1
        have hb : es.length < 1000 := by
          rw [he, List.length_map, List.length_take]
          omega
        intro σ H v Q e r q
        refine hs D x ρ' es (List.mem_of_getElem? eq) ho hb σ H v Q e r fun ρ2 σ2 H2 g2 e2 p2 => q ρ2 σ2 H2 g2 e2 (p2.imp fun b hb2 => ?_)
        cases b with
        | false =>
          rw [if_neg Bool.false_ne_true] at hb2
          exact hb2.elim
        | true =>
          rw [if_pos rfl] at hb2 ⊢
          intro h1 h2 σ3 H3 H4 W c k
          exact hb2 h1 h2 σ3 H3 H4 W c fun ρ5 es5 σ5 H5 c5 ⟨o5, p5⟩ => k ρ5 es5 σ5 H5 c5 ⟨o5, by rw [p5, he, List.take_add_one, eq, List.map_append]; rfl⟩
    · rw [he, List.length_map, List.take_length]
      exact hp)
end
end L2
end
section
namespace L2
open PySem PySem.Spec PyProof.Rows
structure XLie (P : Program) (w : World) (outer : List Env) (H : Hp) (s : Shared) (e : Addr) (C : Value) (H' : Hp) (s' : Shared) : Prop where
  os : s'.os = s.os
  bare : AllBare s'.gens
  un : Un (frs outer) [] H H' s.heap s'.heap
  hok : HOk P w H' s'.heap
  fly : ∃ B a0, Heap.FlyingW B outer e C a0 s'.heap ∧ (∀ b o, s.heap.get? b = some o → b ∉ frs outer → ∃ o', B.get? b = some o') ∧ ∀ b o, H' b = some o → ∃ o', B.get? b = some o'
  new : s.heap.get? e = none
  free : H' e = none
def CXe (P : Program) (w : World) : CXT := fun outer H s E e s' => ∃ a C H', e = .ref a ∧ XLie P w outer H s a C H' s' ∧ E C none H'
section
variable {P : Program} {w : World} {H H' : Hp} {h h' : Heap}
theorem ObjOk.is {a : Addr} {o : HO} (x : ObjOk P w H h a o) : ∃ u, h.get? a = some u := by
  induction o with
  | lst xs => obtain ⟨_, _, _, _, e⟩ := x; exact ⟨_, e⟩
  | tup xs => obtain ⟨_, _, _, ob, e, _⟩ := x; exact ⟨_, e⟩
  | dK kvs => obtain ⟨_, _, _, _, o, _, _, e, _⟩ := x; exact ⟨_, e⟩
  | dT kvs => obtain ⟨_, _, _, _, o, _, _, e, _⟩ := x; exact ⟨_, e⟩
  | set S n => obtain ⟨o, _, _, _, e, _⟩ := x; exact ⟨_, e⟩
  | ins C dx fs => obtain ⟨_, _, _, e, _⟩ := x; exact ⟨_, e⟩
  | own y => exact x
  | xd fs => obtain ⟨_, ⟨o, _, _, e, _⟩, _⟩ := x; exact ⟨_, e⟩
  | rng lo hi => obtain ⟨_, _, _, e⟩ := x; exact ⟨_, e⟩
  | frz ob u ih => exact ⟨_, x.1⟩
  | tbl ps => exact ⟨_, x⟩
  | met f y => exact ⟨_, x⟩
  | ext φ => exact x.2.1
theorem HOk.stays (x : HOk P w H h) (k : ∀ b o u, H b = some o → h.get? b = some u → h'.get? b = some u) : HOk P w H h' := fun a o e =>
  (x a o e).stay (fun b u hb q => by
    rcases hb with rfl | hb
    · exact k b o u e q
    · exact k b _ u hb q) (fun _ q => q) fun _ _ q => q
end
section
variable {X : Cx} {pins : List (Addr × Obj)} {σ : St} {H H' : Hp} {s s' : Shared} {a : Addr} {C : Value} {outer : List Env}
theorem Inv.old_ne (I : Inv X pins σ H s) (hst : X.stack = X.env :: X.outer) (hf : X.env.frame = some X.env.locals) {b : Addr} {o : Obj} (q : X.s₀.heap.get? b = some o) (hb : b ∉ frs X.outer) : b ∉ frs X.stack := fun z => by
  rw [hst] at z
  unfold frs at z
  rw [List.filterMap_cons, hf] at z
  rcases List.mem_cons.mp z with z | z
  · have h1 : b < X.s₀.heap.objs.size := Heap.lt_size q
    rw [z] at h1
    exact absurd h1 (Nat.not_lt.mpr I.ok.above)
  · exact hb z
theorem leave_on {E : Value → Shared → Prop} (I : Inv X pins σ H s) (hst : X.stack = X.env :: X.outer) (hf : X.env.frame = some X.env.locals) (hex : X.ex = []) (x : XLie X.prog X.w X.stack H s a C H' s') :
    wpAny (model X.prog X.w) X.A (leaving X.env (.ref a)) (fun _ s'' => XLie X.prog X.w X.outer X.H₀ X.s₀ a C H' s'') E s' := by
  obtain ⟨B, a0, fl, dom, trk⟩ := x.fly
  have J : Inv X pins σ H' s' := I.call' x.os x.un x.hok x.bare (fun b z => absurd z (by simp))
  have hfl := fl
  rw [hst] at hfl
  refine wpAny_leaves_onW (by rw [I.ok.frames, hst]) hf hfl fun h' fl' up => ?_
  have inB : ∀ b o, X.s₀.heap.get? b = some o → b ∉ frs X.outer → ∃ o', B.get? b = some o' := fun b o q hb => by
    obtain ⟨o1, q1⟩ := I.base.there b o q (by rw [hex]; simp)
    exact dom b o1 q1 (I.old_ne hst hf q hb)
  have eqB : ∀ b o o', B.get? b = some o' → s'.heap.get? b = some o → h'.get? b = some o := fun b o o' hb q => by
    have := fl.1 b o' hb
    rw [q] at this
    cases this
    exact fl'.1 b o hb
  have noF : ∀ b o, b ∈ frs X.outer → s'.heap.get? b = some o → ∀ vs, o.data ≠ .fields vs := fun b o hb q => by
    obtain ⟨_, o1, q1, hd⟩ := J.stack.mem (b := b) (by
      show b ∈ frs X.stack
      rw [hst]
      unfold frs
      rw [List.filterMap_cons, hf]
      exact List.mem_cons_of_mem _ hb)
    rw [q] at q1
    cases q1
    exact hd
  have ex0 : ∀ b : Addr, b ∉ X.ex := fun b => by rw [hex]; simp
  refine ⟨x.os.trans I.os, x.bare, ⟨fun b o q n hb _ => ?_, fun b o q n hb _ => ?_, fun b o q n _ => J.base.free b o q n (ex0 b), fun b o q _ => ?_, J.base.tups, J.base.frzs, J.base.tbls⟩, ?_, ⟨B, a0, fl', inB, trk⟩, ?_, x.free⟩
  · obtain ⟨o', hB⟩ := inB b o q hb
    exact eqB b o o' hB (J.base.keep b o q n hb (ex0 b))
  · obtain ⟨sl, q1⟩ := J.base.slot b o q n hb (ex0 b)
    obtain ⟨sl', q2⟩ := up b _ q1 (noF b _ hb q1)
    exact ⟨sl', q2⟩
  · obtain ⟨o1, q1⟩ := J.base.there b o q (ex0 b)
    by_cases hb : b ∈ frs X.outer
    · obtain ⟨sl', q2⟩ := up b _ q1 (noF b _ hb q1)
      exact ⟨_, q2⟩
    · obtain ⟨o', hB⟩ := inB b o q hb
      exact ⟨_, fl'.1 b o' hB⟩
  · refine HOk.stays x.hok fun b o u e q => ?_
    obtain ⟨o', hB⟩ := trk b o e
    exact eqB b u o' hB q
  · cases q : X.s₀.heap.get? a with
    | none => rfl
    | some o =>
      obtain ⟨o1, q1⟩ := I.base.there a o q (ex0 a)
      rw [x.new] at q1
      cases q1
end
end L2
end
section
namespace L2
open PySem PySem.Spec PyProof.Rows
theorem Fun.okX {P : Program} {w : World} {K : PySem.W.Frag} {mg : Str → Option Value} {base : Heap} {x qual : Str} {st : Stmt} {f : Addr} {fd : FuncData} {N ps : List Str} {k : Nat} {sp : Sp} (F : Fun K x qual st f fd) (S : FnScope N ps (defScope st)) (len : ∀ vs H Q E, sp vs H Q E → vs.length = ps.length)
    (hbody : ∀ (cdv : Value) (A : Around) (outer : List Env) (s : Shared) (H : Hp) (vs : List V) (Q : VK) (E : XK), Room k (A.deeper (envOfC qual (defScope st) s.heap.objs.size f cdv)) → sp vs H Q E →
      ∃ t, PSs (cxOf (CXe P w) P w K mg base N qual (defScope st) f cdv A outer s H E) (defBody st) t ∧ t { nx := fun _ H' => Q .non H', rt := Q } (start N vs) H) : FnOk P w K mg base (CXe P w) (k + 1) f fd ps sp := by
  obtain ⟨oc, od, kV, doc, pm, an, cdv, ct, osl, rfl, lk, hcd⟩ := F.ex
  exact fn_of lk hcd S len fun A outer s H vs Q E hr hsp => hbody cdv A outer s H vs Q E hr hsp
end L2
end
section
namespace L2
open PySem PySem.Spec PyProof.Rows
section
variable {X : Cx} {pins : List (Addr × Obj)} {σ : St} {H H' H1 H2 : Hp} {s s' s1 s2 : Shared} {a : Addr} {C : Value} {i j : Nat}
theorem del_ok {M : Model} {A : Around} {E : Value → Shared → Prop} {x : Str} {v : V} {Q : Unit → Shared → Prop} (I : Inv X pins σ H s) (hN : X.N.Nodup) (hi : X.N[i]? = some x) (hk : X.env.scope.names.lookup x = some .local) (hv : σ[i]? = some (some v))
    (h : ∀ s', Inv X pins (σ.set i none) H s' → Q () s') : wpAny M A (unbindName X.env x) Q E s := by
  obtain ⟨m, hn, hl⟩ := id I.loc
  obtain ⟨u, r, lk⟩ := hl i x v hi hv (.inl hk)
  have hm : m x = some u := by
    rcases lk with ⟨_, e⟩ | ⟨z, _⟩
    · exact e
    · rcases z with z | z
      · have z' : X.env.scope.names.lookup x = some .cell := z
        rw [hk] at z'; cases z'
      · have z' : X.env.scope.names.lookup x = some .free := z
        rw [hk] at z'; cases z'
  have plain : (X.env.scope.kind == .class
      || (X.env.scope.kind == .module
        && X.env.locals != X.env.globals)) = false := by
    rw [I.ok.kind]
    rfl
  have cne := I.cne
  refine wpAny_unbindName_local hk hn hm plain fun h' w hn' hs => ?_
  have old : ∀ {b : Addr} {o : Obj}, X.s₀.heap.get? b = some o → b ≠ X.env.locals := fun {b o} e => Nat.ne_of_lt (Nat.lt_of_lt_of_le (Heap.lt_size e) I.ok.above)
  refine h _ ⟨I.ok, I.os, I.bare, ⟨fun b o e n hb hx => (hs.2 b (old e)).trans (I.base.keep b o e n hb hx), fun b o e n hb hx => ?_, I.base.free, fun b o e hx => ?_, I.base.tups, I.base.frzs, I.base.tbls⟩, ⟨_, hn', fun q y v' e1 e2 e3 => ?_⟩, fun y c e => ?_, I.free, I.freeC, fun p hp => ?_, ?_, by rw [List.length_set]; exact I.len⟩
  · obtain ⟨sl, e1⟩ := I.base.slot b o e n hb hx
    exact ⟨sl, (hs.2 b (old e)).trans e1⟩
  · obtain ⟨o', e1⟩ := I.base.there b o e hx
    exact ⟨o', (hs.2 b (old e)).trans e1⟩
  · by_cases hj : q = i
    · subst hj
      rw [List.getElem?_set] at e2
      rw [if_pos rfl] at e2
      split at e2 <;> cases e2
    · rw [List.getElem?_set_ne (Ne.symm hj)] at e2
      obtain ⟨u', r', z⟩ := hl q y v' e1 e2 e3
      refine ⟨u', r', ?_⟩
      rcases z with ⟨k, e⟩ | ⟨k, c, e, z⟩
      · refine .inl ⟨k, ?_⟩
        have : y ≠ x := fun e => hj (nodup_ix hN e1 (e ▸ hi))
        show (if y = x then w else m y) = some u'
        rw [if_neg this]
        exact e
      · exact .inr ⟨k, c, e, z.sameBut hs (cne y c e)⟩
  · obtain ⟨w', z⟩ := I.cell y c e
    exact ⟨w', z.sameBut hs (cne y c e)⟩
  · obtain ⟨e, n, ne, nf, d⟩ := I.pin p hp
    exact ⟨(hs.2 p.1 ne).trans e, n, ne, nf, d⟩
  · refine HOk.stays I.hok fun b o u e q => (hs.2 b ?_).trans q
    rintro rfl
    rw [I.free] at e
    cases e
def Cx.marked (X : Cx) (e : Value) : Cx := { X with A := X.A.mark (some e), calm := false, xe := fun _ _ => False }
theorem Cx.Ok.marked (ok : X.Ok) (e : Value) : (X.marked e).Ok :=
  ⟨ok.mod, ok.kind, ok.glob, ok.blt, ok.above, ok.inj, ok.has, ok.cab, (fun z => by cases z), ok.frames, ok.stk, ok.exf, ok.bs, ok.bsz, ok.noex, ok.exfs, ok.funs, ok.frf⟩
theorem Inv.marked (I : Inv X pins σ H s) (e : Value) : Inv (X.marked e) pins σ H s := ⟨I.ok.marked e, I.os, I.bare, I.base, I.loc, I.cell, I.free, I.freeC, I.pin, I.hok, I.len⟩
theorem Inv.unmarked {e : Value} (ok : X.Ok) (I : Inv (X.marked e) pins σ H s) : Inv X pins σ H s := ⟨ok, I.os, I.bare, I.base, I.loc, I.cell, I.free, I.freeC, I.pin, I.hok, I.len⟩
theorem XLie.move {P : Program} {w : World} {outer : List Env} {B : Heap} {a0 : Value} {h'' : Heap} (x : XLie P w outer H s a C H' s') (fl : Heap.FlyingW B outer a C a0 s'.heap) (dom : ∀ b o, s.heap.get? b = some o → b ∉ frs outer → ∃ o', B.get? b = some o')
    (trk : ∀ b o, H' b = some o → ∃ o', B.get? b = some o') (st : B.StaysIn h'') (up : s'.heap.UpToSlots h'') : Un (frs outer) [] H H' s.heap h'' ∧ HOk P w H' h'' := by
  have eqB : ∀ b o o', B.get? b = some o' → s'.heap.get? b = some o → h''.get? b = some o := fun b o o' hb q => by
    have := fl.1 b o' hb
    rw [q] at this
    cases this
    exact st b o hb
  have noF : ∀ b o, b ∈ frs outer → s'.heap.get? b = some o → ∀ vs, o.data ≠ .fields vs := fun b o hb q => by
    obtain ⟨_, o1, q1, hd⟩ := fl.2.2.1.mem hb
    rw [q] at q1
    cases q1
    exact hd
  refine ⟨⟨fun b o q n hb z => ?_, fun b o q n hb z => ?_, x.un.free, fun b o q z => ?_, x.un.tups, x.un.frzs, x.un.tbls⟩, HOk.stays x.hok fun b o u e q => ?_⟩
  · obtain ⟨o', hB⟩ := dom b o q hb
    exact eqB b o o' hB (x.un.keep b o q n hb z)
  · obtain ⟨sl, q1⟩ := x.un.slot b o q n hb z
    obtain ⟨sl', q2⟩ := up b _ q1 (noF b _ hb q1)
    exact ⟨sl', q2⟩
  · by_cases hb : b ∈ frs outer
    · obtain ⟨o1, q1⟩ := x.un.there b o q z
      obtain ⟨sl', q2⟩ := up b _ q1 (noF b _ hb q1)
      exact ⟨_, q2⟩
    · obtain ⟨o', hB⟩ := dom b o q hb
      exact ⟨_, st b o' hB⟩
  · obtain ⟨o', hB⟩ := trk b o e
    exact eqB b u o' hB q
end
end L2
end
section
namespace L2
open PySem PySem.Spec PyProof.Rows
def endsTry (D : Ends) (j : Nat) : Ends where
  nx := fun σ H => D.nx (σ.set j none) H
  rt := D.rt
  bk := fun σ H => D.bk (σ.set j none) H
  ct := fun σ H => D.ct (σ.set j none) H
section
variable {X : Cx} {pins : List (Addr × Obj)} {σ : St} {H H1 H2 : Hp} {s s1 s2 : Shared} {a C0 : Addr} {C : Value} {i j : Nat} {n hx : Str} {b0 : Stmt} {suite : List Stmt} {hp hpos : Pos} {ts : TS} {D : Ends}
theorem end_as {M : Model} {A : Around} {E : Value → Shared → Prop} {Q : Unit → Shared → Prop} (I : Inv X pins σ H s) (hN : X.N.Nodup) (hj : X.N[j]? = some n) (hn : X.env.scope.names.lookup n = some .local) (h : ∀ s', Inv X pins (σ.set j none) H s' → Q () s') :
    wpAny M A (do bindName X.env n .none; unbindBehindTheSuite X.env n hpos) Q E s := by
  refine wpAny_bind (wpAny_bindName (store_ok (v := .non) I hN hj (.inl hn) rfl (fun s' I' => ?_) (.inr hn)))
  unfold unbindBehindTheSuite
  refine wpAny_onRaise (del_ok (v := .non) I' hN hj hn ?_ fun s'' I'' => ?_)
  · have : j < σ.length := by rw [I.len]; exact (List.getElem?_eq_some_iff.mp hj).1
    rw [List.getElem?_set_self this]
  · rw [List.set_set] at I''
    exact h s'' I''
end
end L2
end
section
namespace L2
open PySem PySem.Spec PySem.W PyProof.Rows PySem.Calls PySem.Builtin Builtin Builtin.ObjectAttr Builtin.Getset_descriptor
section
variable {prog : Program} {w : World} {A : Around} {E : Value → Shared → Prop} {s : Shared} {K : PySem.W.Frag} {a C : Addr}
structure ExcWays (K : PySem.W.Frag) (C : Addr) : Prop where
  ga : findIn K (.ref C) "__getattribute__" = some (some (.builtin "BaseException.__getattribute__"))
  gt : findIn K (.ref C) "__getattr__" = some none
  cl : findIn K (.ref C) "__class__" = some (some (.builtin "object.__class__"))
  gs : specialIn K (.builtin "object.__class__") "__get__" = some (some (.builtin "getset_descriptor.__get__"))
  tk : takesIn K (.builtin "object.__class__") = some true
  ob : mroIn K C (.type "object") = some true
  be : mroIn K C (.type "BaseException") = some true
  iz : (clsIn K C).isSome = true
def ExcIs (a C : Addr) (h : Heap) : Prop := ∃ o, h.get? a = some o ∧ o.cls = .ref C
theorem exc_type {M : Model} {h : Heap} (x : ExcIs a C h) : Looks M h (typeOf (.ref a)) (.ref C) := by
  obtain ⟨o, h1, h2⟩ := x
  exact h2 ▸ (Looks.ld h1).andThen .now
theorem look_data {M : Model} {h : Heap} {x : Value} {nm : Str} {d g : Value} (X : K.In h) (h1 : findIn K (.ref C) nm = some (some d)) (h2 : specialIn K d "__get__" = some (some g)) (h3 : takesIn K d = some true) : Looks M h (find x (.ref C) nm) (.bind g d) := by
  have L1 := looks_findIn (M := M) X h1
  have L2 : Looks M h (getOf (some d)) (some g) := looks_specialIn X h2
  have L3 : Looks M h (dataDescriptor? (some d) (some g)) (some (g, d)) := (looks_takesIn (M := M) X h3).andThen .now
  exact L1.andThen (L2.andThen (L3.andThen (Looks.tag .now)))
theorem class_getX {R : Result → Shared → Prop} {tp : Value} (X : K.In s.heap) (I : ExcIs a C s.heap) (hm : mroIn K C (.type "object") = some true) (h : R (.ok (.ret (.ref C))) s) :
    codeAny (model prog w) A (.call (.builtin "getset_descriptor.__get__") ⟨[.builtin "object.__class__", .ref a, tp], []⟩) R s := by
  obtain ⟨hh, g, dr, t, os⟩ := s
  have L0 := exc_type (M := model prog w) I
  have L1 := looks_mroIn (M := model prog w) X hm
  refine codeAny_call_builtin KF.slot_gs.plain KF.entry_gs (KF.slot_gs.check _ _ _ _ _ _ _ _ KF.type_class (KF.args_gs _ _ _) ?_)
  unfold Builtin.«getset_descriptor.__get__» descrGet
  rw [dga_obj]
  refine wpAny_bind (wpAny_pure ?_)
  unfold descrGetter descrCheckInstance descrNameAndClass isInstance
  simp only [KF.owner_class]
  repeat lk
  refine ⟨Code.quiet_builtin _ (by decide +kernel), codeAny_builtin KF.entry_class ?_⟩
  unfold Builtin.«object.__class__» shownTypeOf
  repeat lk
  exact h
theorem check_ga {M : Model} {nameV : Value} {Q : Unit → Shared → Prop} (X : K.In s.heap) (I : ExcIs a C s.heap) (Wy : ExcWays K C) (h : Q () s) : wpAny M A (checkBuiltinCall "BaseException.__getattribute__" ⟨[.ref a, nameV], []⟩) Q E s := by
  obtain ⟨hh, g, dr, t, os⟩ := s
  have hk : builtinKind "BaseException.__getattribute__" = some .slot := by decide +kernel
  have hsp : splitId "BaseException.__getattribute__" = some ("BaseException", "__getattribute__") := by decide +kernel
  have L0 := exc_type (M := M) I
  have L1 := looks_mroIn (M := M) X Wy.be
  have ha := F.args_bexc_ga (.ref a) nameV
  simp only [checkBuiltinCall, hk, hsp]
  unfold isInstance
  refine wpAny_bind (wpAny_bind (L0.at (L1.at ?_)))
  rw [Bool.not_true, if_neg Bool.false_ne_true]
  exact wpAny_of_eq ha h
theorem class_X {Q : Option Value → Shared → Prop} (X : K.In s.heap) (I : ExcIs a C s.heap) (Wy : ExcWays K C) (h : Q (some (.ref C)) { s with toks := s.toks + 1 }) : wpAny (model prog w) A (getAttr? (.ref a) "__class__") Q E s := by
  obtain ⟨hh, g, d, t, os⟩ := s
  have L0 := exc_type (M := model prog w) I
  have L1 := looks_findIn (M := model prog w) X Wy.ga
  have L2 := looks_findIn (M := model prog w) X Wy.gt
  unfold getAttr? getAttrBy? getAttrBy
  refine wpAny_bind (wpAny_mkText (wpAny_bind (wpAny_attempt (wpAny_holding (wpAny_bind (L0.at (wpAny_bind (L1.at ?_))))))))
  dsimp only
  rw [if_neg (by
    have z : (Value.builtin "BaseException.__getattribute__" == Value.builtin "object.__getattribute__") = false := by decide +kernel
    rw [z, Bool.and_false]
    exact Bool.false_ne_true)]
  unfold getAttrByItsOwn hookBefore
  rw [if_pos (show onTheHeap (Value.ref C) = true from rfl)]
  refine wpAny_bind (L2.at (wpAny_bind (wpAny_attempt (wpAny_holding ?_))))
  unfold callGetattribute
  rw [Bool.false_and, if_neg Bool.false_ne_true]
  unfold boundAndCalled
  have f3 := F.excAttr_ValueError.ga.bind (.ref a)
  rw [f3]
  refine wpAny_bind (wpAny_pure ?_)
  dsimp only
  refine wpAny_call (codeAny_call_builtin F.excAttr_ValueError.ga.plain F.entry_bexc_ga (check_ga (K := K) (C := C) X I Wy ?_))
  have LF := look_data (M := model prog w) (x := .ref a) X Wy.cl Wy.gs Wy.tk
  unfold Builtin.«object.__getattribute__»
  refine wpAny_bind (wpAny_of_eq (a := (Value.ref a, [Value.str (Str.ofString "__class__") t])) rfl ?_)
  dsimp only
  refine wpAny_bind (wpAny_of_eq (a := (Str.ofString "__class__")) rfl ?_)
  refine wpAny_bind (L0.at (wpAny_bind (LF.at ?_)))
  dsimp only
  unfold bindTo
  refine wpAny_bind (wpAny_call (class_getX (K := K) X I Wy.ob ?_))
  show wpAny _ _ (pure _) _ _ _
  refine wpAny_pure ?_
  dsimp only
  exact handed_on rfl (wpAny_pure h)
theorem kitx_exc (Wy : ExcWays K C) : KitX K (.ref a) (.ref C) (ExcIs a C) where
  ty := fun _ _ _ I => exc_type I
  it := fun _ _ X _ => by
    obtain ⟨cd, hc⟩ := Option.isSome_iff_exists.mp Wy.iz
    unfold clsIn at hc
    split at hc
    · rename_i lk
      intro A' Q' E' s' k q
      unfold isType loadHead
      exact wpAny_bind (wpAny_loadPart (k _ _ (X _ _ lk)) (wpAny_pure q))
    · cases hc
  ne := fun h tp dd its n sl X htp => by
    obtain ⟨cd, hc⟩ := Option.isSome_iff_exists.mp Wy.iz
    refine Bool.eq_false_iff.mpr fun q => ?_
    have e : C = tp := Value.ref.inj (beq_iff_eq.mp q)
    unfold clsIn at hc
    split at hc
    · rename_i lk
      have z := X _ _ lk
      rw [e] at z
      rw [htp] at z
      cases z
    · cases hc
  ca := fun X I k => class_X X I Wy k
end
end L2
end
section
namespace L2
open PySem PySem.Spec PyProof.Rows
def PSx (K : PySem.W.Frag) (f : Fx) (E : XK) (ts : TS) (ρ : DEnv) (D : DEnds) (Z : Value → Prop) : Prop := ∀ (σ : St) (H : Hp) (N : Ends), EnvOk K f ρ σ H → (∀ ρ' σ' H', Goes f H H' → EnvOk K f ρ' σ' H' → D.nx ρ' → N.nx σ' H') →
  (∀ d v H', Goes f H H' → Rep K (hide H' f) d v → D.rt d → N.rt v H') → (∀ ρ' σ' H', Goes f H H' → EnvOk K f ρ' σ' H' → D.bk ρ' → N.bk σ' H') → (∀ ρ' σ' H', Goes f H H' → EnvOk K f ρ' σ' H' → D.ct ρ' → N.ct σ' H') →
  (∀ C H', Goes f H H' → Z C → E C none H') → ts N σ H
def spX {γ : Type} (K : PySem.W.Frag) (n : Nat) (pre : γ → List DV → Prop) (post : γ → PyData → Prop) (exc : γ → Value → Prop) : Sp := fun vs H Q E => ∃ f xs c, RepVs K f H xs vs ∧ xs.length = n ∧ FOk f H ∧ pre c xs ∧
  (∀ r v H', Goes f H H' → Rep K (hide H' f) r v → post c r → Q v H') ∧ ∀ C H', Goes f H H' → exc c C → E C none H'
structure FnInX (P : Program) (w : World) (K : PySem.W.Frag) (mg : Str → Option Value) (base : Heap) (k : Nat) (x : Str) (ps : List Str) (sp : Sp) : Prop where
  ex : ∃ (f : Addr) (fd : FuncData), FnOk P w K mg base (CXe P w) k f fd ps sp ∧ mg x = some (.ref f) ∧ PySem.W.keepIn K (.ref f) = true ∧ Binds K fd ps []
section
variable {P : Program} {w : World} {K : PySem.W.Frag} {mg : Str → Option Value} {base : Heap} {j k n : Nat} {x : Str} {st : Stmt} {ps N : List Str} {γ : Type} {pre : γ → List DV → Prop} {post : γ → PyData → Prop} {exc : γ → Value → Prop} {sp : Sp}
theorem FnInX.mono (h : FnInX P w K mg base j x ps sp) (hk : j ≤ k) : FnInX P w K mg base k x ps sp := let ⟨f, fd, a, b, c, d⟩ := h.ex; ⟨f, fd, a.mono hk, b, c, d⟩
theorem Def.okX (F : Def K mg x st ps) (S : FnScope N ps (defScope st)) (hn : ps.length = n)
    (h : ∀ (fa : Addr) (cdv : Value) (A : Around) (outer : List Env) (s : Shared) (H : Hp) (E : XK), Room k (A.deeper (envOfC x (defScope st) s.heap.objs.size fa cdv)) →
      ∃ t, PSs (cxOf (CXe P w) P w K mg base N x (defScope st) fa cdv A outer s H E) (defBody st) t ∧ ∀ f xs c, xs.length = n → pre c xs → PSx K f E t (startV N xs) { nx := fun _ => post c .none, rt := post c } (exc c)) :
    FnInX P w K mg base (k + 1) x ps (spX K n pre post exc) := by
  obtain ⟨fa, fd, F1, F2, F3⟩ := F.ex
  refine ⟨fa, fd, F1.okX S (fun vs H Q E h => ?_) (fun cdv A outer s H vs Q E hr hs => ?_), F3, F1.kp, F2⟩
  · obtain ⟨f, xs, c, r, hl, _⟩ := h
    rw [r.length, hl, hn]
  · obtain ⟨f, xs, c, r, hl, fo, hp, q, z⟩ := hs
    obtain ⟨t, h1, h2⟩ := h fa cdv A outer s H E hr
    refine ⟨t, h1, h2 f xs c hl hp _ H _ (startV_ok r fo) (fun ρ' σ' H' g' e' p => q .none .non H' g' (rep_none.mpr rfl) p) (fun d v H' g' r' p => q d v H' g' r' p) (fun _ _ _ _ _ z => z.elim) (fun _ _ _ _ _ z => z.elim) z⟩
end
end L2
end
section
namespace L2
open PySem PySem.Spec PyProof.Rows
end L2
end
section
namespace L2
open PySem PySem.Spec PyProof.Rows
end L2
end
section
namespace L2
open PySem PySem.Spec PyProof.Rows
end L2
end
section
namespace L2
open PySem PySem.Spec PyProof.Rows
end L2
end
section
namespace L2
open PySem PySem.Spec PyProof.Rows
section
variable {K : PySem.W.Frag} {f : Fx} {ρ : DEnv} {E : XK} {te : TE} {ts tu : TS} {tt : TT} {t : TA} {P : PyData → Prop} {D : DEnds}
theorem d_neg (h : PEd K f te ρ fun x => ∃ i, x = .int i ∧ P (.int (-i))) : PEd K f (tUn (rU fun i => .int (-i)) te) ρ P :=
  d_un (h.imp fun x ⟨i, ex, p⟩ v H Q fo r q => by
    subst ex
    exact ⟨i, rep_int.mp r, q _ _ H (.refl fo) (rep_int.mpr rfl) p⟩)
end
end L2
end
section
namespace L2
open PySem PySem.Spec PyProof.Rows
end L2
end
section
namespace L2
open PySem PySem.Spec PyProof.Rows
def CMulB (i j : Int) : Prop := (-1267650600228229401496703205376 < i ∧ i < 1267650600228229401496703205376) ∧ (-1267650600228229401496703205376 < j ∧ j < 1267650600228229401496703205376)
theorem bits_le_100 {k : Int} (h1 : -1267650600228229401496703205376 < k) (h2 : k < 1267650600228229401496703205376) : Builtin.Int.intBits k ≤ 100 := by
  unfold Builtin.Int.intBits
  split
  · exact Nat.zero_le _
  · have hn : k.natAbs < 2 ^ 100 := by
      have : (2 : Nat) ^ 100 = 1267650600228229401496703205376 := by decide +kernel
      omega
    have : k.natAbs.log2 < 100 := by
      rcases Nat.eq_zero_or_pos k.natAbs with h0 | hp
      · rw [h0]; decide
      · exact (Nat.log2_lt (Nat.ne_of_gt hp)).mpr hn
    omega
theorem CMulB.ok {i j : Int} (h : CMulB i j) : IntMulOk i j := by
  obtain ⟨⟨a, b⟩, c, d⟩ := h
  have e1 := bits_le_100 a b
  have e2 := bits_le_100 c d
  have : Builtin.Int.intTooBig ((Builtin.Int.intBits i : Int) + (Builtin.Int.intBits j : Int)) = false := by
    unfold Builtin.Int.intTooBig
    refine decide_eq_false ?_
    have : (1000 : Int) ≤ (bitsLine : Int) := by decide +kernel
    omega
  unfold IntMulOk
  rw [this, Bool.and_false]
  exact Bool.false_ne_true
end L2
end
section
namespace L2
open PySem PySem.Spec PyProof.Rows
end L2
end
section
namespace L2
open PySem PySem.Spec PyProof.Rows
end L2
end
section
namespace L2
open PySem PySem.Spec PyProof.Rows
section
variable {prog : Program} {w : World} {A : Around} {E : Value → Shared → Prop} {s : Shared}
theorem cat_lst {t b : Addr} {vs ws : List Value} {Q : Value → Shared → Prop} (ht : PlainL s.heap t vs.toArray) (hb : PlainL s.heap b ws.toArray)
    (h2 : Q (.ref s.heap.objs.size) { s with heap := s.heap.push { cls := .type "list", data := .seq (vs ++ ws).toArray } })
    (hsz : vs.length + ws.length ≤ sizeLine) : wpAny (model prog w) A (binaryOp .Add (.ref t) (.ref b)) Q E s := by
  obtain ⟨⟨cls, dd, data, sl⟩, n, ho, hc, _, hd⟩ := ht
  obtain ⟨⟨cls2, dd2, data2, sl2⟩, n2, ho2, hc2, _, hd2⟩ := hb
  simp only at hc hd hc2 hd2
  subst hc hd hc2 hd2
  have e : vs.toArray ++ ws.toArray = (vs ++ ws).toArray := by simp
  refine concat_meets ⟨_, ho, rfl⟩ ⟨_, ho2, rfl⟩ noFill_list_add seq_list_add PySem.F.slot_list_add PySem.F.entry_list_add (PySem.F.args_list_add_2 _ _) (list_addW t b vs.toArray ws.toArray n n2 dd dd2 sl sl2 (by rw [List.size_toArray, List.size_toArray]; exact hsz)) ⟨ho, ho2, ?_⟩
  rw [e]
  exact h2
end
def rCatL (K : PySem.W.Frag) : R2 := fun x y H Q => ∃ l b xs zs, x = .ref l ∧ y = .ref b ∧ SqL K H l xs ∧ SqL K H b zs ∧ xs.length + zs.length ≤ sizeLine ∧ ∀ p, H p = none → Q (.ref p) (upd H p (.lst (xs ++ zs)))
section
variable {X : Cx}
theorem op_catL : OpR X (binaryOp .Add) (rCatL X.K) := by
  intro pins s σ H x y v u Q I rx ry h
  obtain ⟨l, b, xs, zs, rfl, rfl, ha, hb, hz, q⟩ := h
  cases rx
  cases ry
  obtain ⟨its, r1, p1, _⟩ := I.list ha
  obtain ⟨its2, r2, p2, _⟩ := I.list hb
  refine cat_lst p1 p2 ?_ (by rw [← r1.length, ← r2.length]; exact hz)
  exact ⟨.ref _, _, I.lnew (t' := s.toks) (r1.append r2) (by rw [List.length_append]; omega), rfl, q _ I.fresh⟩
theorem op_catLK {K : PySem.W.Frag} (hK : X.K = K) : OpR X (binaryOp .Add) (rCatL K) := hK ▸ op_catL
end
section
variable {K : PySem.W.Frag} {f : Fx} {ρ : DEnv} {P : PyData → Prop} {te ta tb : TE} {t : TA}
theorem d_catL (h : PEd K f ta ρ fun x => ∃ ds, x = .list ds ∧ PEd K f tb ρ fun y => ∃ es, y = .list es ∧ ds.length + es.length ≤ 1000 ∧ P (.list (ds ++ es))) : PEd K f (tOp (rCatL K) ta tb) ρ P := fun σ H Q e q =>
  h σ H _ e fun x v H1 g1 r1 ⟨ds, ex, p1⟩ => p1 σ H1 _ (e.mono g1) fun y w H2 g2 r2 ⟨es, ey, hl, p2⟩ => by
    subst ex ey
    obtain ⟨a, xs, rfl, h1, h2⟩ := rep_list.mp (Rep.mono g2.sm _ _ r1)
    obtain ⟨b, ys, rfl, h3, h4⟩ := rep_list.mp r2
    have l1 := h2.length
    have l2 := h4.length
    refine ⟨a, b, xs, ys, rfl, rfl, (hide_same _ _).seq h1, (hide_same _ _).seq h3, by rw [l1, l2]; exact Nat.le_of_lt (small1000 hl), fun p hn => ?_⟩
    have g3 : Goes f H2 (upd H2 p (.lst (xs ++ ys))) := .of_same (same_new hn _) g2.ok
    exact q (.list (ds ++ es)) _ _ (g1.trans (g2.trans g3)) (rep_list.mpr ⟨p, _, rfl, .of (hide_get (fresh_ne g2.ok hn) upd_same), Reps.mono g3.sm _ _ (h2.append h4)⟩) p2
end
end L2
end
section
namespace L2
open PySem PySem.Spec PyProof.Rows
end L2
end
section
namespace L2
open PySem PySem.Spec PyProof.Rows
end L2
end
section
namespace L2
open PySem PySem.W PyProof.Rows
structure Tot (n : Nat) (lt : Nat → Nat → Bool) : Prop where
  tri : ∀ i j, i < n → j < n → i ≠ j → lt i j = !lt j i
  tra : ∀ i j k, i < n → j < n → k < n → lt i j = true → lt j k = true → lt i k = true
def Ans (cmp : Nat → Nat → (Bool → Shared → Prop) → Shared → Prop) (n : Nat) (lt : Nat → Nat → Bool) (s : Shared) : Prop := ∀ i j C, i < n → j < n → C (lt i j) s → cmp i j C s
def Pm (n : Nat) (p : Array Nat) : Prop := p.toList.Perm (List.range n)
def Up (lt : Nat → Nat → Bool) (p : Array Nat) (m : Nat) : Prop := ∀ i j, i < j → j < m → lt (p.getD i 0) (p.getD j 0) = true
def Dn (lt : Nat → Nat → Bool) (p : Array Nat) (m : Nat) : Prop := ∀ i j, i < j → j < m → lt (p.getD j 0) (p.getD i 0) = true
theorem Pm.size {n : Nat} {p : Array Nat} (h : Pm n p) : p.size = n := by
  have := h.length_eq
  rwa [Array.length_toList, List.length_range] at this
theorem getD_toList (p : Array Nat) (i : Nat) : p.getD i 0 = p.toList.getD i 0 := by
  by_cases h : i < p.size <;> simp [Array.getD, h, List.getD]
theorem Pm.lt {n : Nat} {p : Array Nat} (h : Pm n p) {i : Nat} (hi : i < n) : p.getD i 0 < n := by
  have hs := h.size
  have hl : i < p.toList.length := by rw [Array.length_toList, hs]; exact hi
  rw [getD_toList, List.getD_eq_getElem?_getD, List.getElem?_eq_getElem hl]
  exact List.mem_range.mp (h.mem_iff.mp (List.getElem_mem hl))
theorem Pm.ne {n : Nat} {p : Array Nat} (h : Pm n p) {i j : Nat} (hi : i < n) (hj : j < n) (ne : i ≠ j) : p.getD i 0 ≠ p.getD j 0 := by
  have hs := h.size
  have nd : p.toList.Nodup := h.nodup_iff.mpr List.nodup_range
  have li : i < p.toList.length := by rw [Array.length_toList, hs]; exact hi
  have lj : j < p.toList.length := by rw [Array.length_toList, hs]; exact hj
  rw [getD_toList, getD_toList, List.getD_eq_getElem?_getD, List.getD_eq_getElem?_getD, List.getElem?_eq_getElem li, List.getElem?_eq_getElem lj]
  intro e
  exact ne ((List.getElem_inj nd).mp e)
theorem Pm.range (n : Nat) : Pm n (List.toArray (List.range n)) := List.Perm.refl _
theorem Pm.of {n : Nat} {p q : Array Nat} (h : Pm n p) (e : q.Perm p) : Pm n q := (Array.perm_iff_toList_perm.mp e).trans h
section
variable {cmp : Nat → Nat → (Bool → Shared → Prop) → Shared → Prop} {n : Nat} {lt : Nat → Nat → Bool} {s : Shared} {p : Array Nat}
theorem Up.more (T : Tot n lt) (hp : Pm n p) {m : Nat} (h1 : 1 ≤ m) (hm : m < n) (u : Up lt p m) (h : lt (p.getD (m - 1) 0) (p.getD m 0) = true) : Up lt p (m + 1) := fun i j hij hj => by
  by_cases e : j = m
  · subst e
    by_cases e2 : i = j - 1
    · subst e2; exact h
    · exact T.tra _ _ _ (hp.lt (by omega)) (hp.lt (by omega)) (hp.lt hm) (u i (j - 1) (by omega) (by omega)) h
  · exact u i j hij (by omega)
theorem Dn.more (T : Tot n lt) (hp : Pm n p) {m : Nat} (h1 : 1 ≤ m) (hm : m < n) (u : Dn lt p m) (h : lt (p.getD m 0) (p.getD (m - 1) 0) = true) : Dn lt p (m + 1) := fun i j hij hj => by
  by_cases e : j = m
  · subst e
    by_cases e2 : i = j - 1
    · subst e2; exact h
    · exact T.tra _ _ _ (hp.lt hm) (hp.lt (by omega)) (hp.lt (by omega)) h (u i (j - 1) (by omega) (by omega))
  · exact u i j hij (by omega)
end
end L2
end
section
namespace L2
open PySem PySem.W PySem.Calls PyProof.Rows
section
variable {P : Program} {w : World} {A : Around} {X : Value → Shared → Prop} {s : Shared} {κ : SortKind} {vs : List Value} {lt : Nat → Nat → Bool}
structure Asks (P : Program) (w : World) (A : Around) (s : Shared) (κ : SortKind) (vs : List Value) (lt : Nat → Nat → Bool) : Prop where
  kind : 2 ≤ vs.length → ∀ (h' : Heap), (∀ b o, s.heap.get? b = some o → h'.get? b = some o) → ∀ R : SortKind → Shared → Prop, R κ { s with heap := h' } → wpAny (model P w) A (keyKind' vs.toArray) R (fun _ _ => False) { s with heap := h' }
  less : ∀ (h' : Heap), (∀ b o, s.heap.get? b = some o → h'.get? b = some o) → Ans (kas_ask P w A κ vs) vs.length lt { s with heap := h' }
  ord : Tot vs.length lt
  few : vs.length < 64 ∨ ∀ i, i + 1 < vs.length → lt (i + 1) i = false
end
end L2
end
section
namespace L2
open PySem PySem.Spec PyProof.Rows
mutual
def plainD : PyData → Bool
  | .int _ => true
  | .str s => (PyData.str s).canLay0
  | .tuple xs => plainL xs
  | _ => false
def plainL : List PyData → Bool
  | [] => true
  | x :: xs => plainD x && plainL xs
end
mutual
def cmpD : PyData → PyData → Bool
  | .int _, .int _ => true
  | .str _, .str _ => true
  | .tuple xs, .tuple ys => cmpL xs ys
  | _, _ => false
def cmpL : List PyData → List PyData → Bool
  | [], _ => true
  | _ :: _, [] => true
  | x :: xs, y :: ys => if PyData.eqv x y = true then cmpL xs ys else cmpD x y
end
end L2
end
section
namespace L2
open PySem PySem.Spec PyProof.Rows PySem.SeqAt
open PySem.AutoSeq1 (wpAny_loadPart')
open PySem.MeetsSeq PySem.MeetsSeq2 PySem.MeetsSeq3
def LtAt (A : Around) (s : Shared) (y x : Value) (b : Bool) : Prop :=
  ∀ (prog : Program) (w : World) (E : Value → Shared → Prop) (Q : Value → Shared → Prop), Q (.bool b) s → wpAny (model prog w) A (richCompare .Lt y x) Q E s
inductive Lex (A : Around) (s : Shared) : List Value → List Value → Bool → Prop where
  | nn : Lex A s [] [] false
  | nc {w ws} : Lex A s [] (w :: ws) true
  | cn {v vs} : Lex A s (v :: vs) [] false
  | eq {v w vs ws b} : EqAt A s v w true → Lex A s vs ws b → Lex A s (v :: vs) (w :: ws) b
  | lt {v w vs ws b} : EqAt A s v w false → LtAt A s v w b → Lex A s (v :: vs) (w :: ws) b
end L2
end
section
namespace L2
open PySem PySem.Spec PyProof.Rows PySem.SeqAt PySem.W
def headKind : PyData → Option String
  | .tuple (.int _ :: _) => some "int"
  | .tuple (.str _ :: _) => some "str"
  | .tuple (.tuple _ :: _) => some "tuple"
  | _ => none
structure SortOk (T : String) (ds : List PyData) : Prop where
  plain : ∀ d ∈ ds, plainD d = true
  head : ∀ d ∈ ds, headKind d = some T
  cmp : ∀ d ∈ ds, ∀ e ∈ ds, cmpD d e = true
  depth : ∀ d ∈ ds, d.depth ≤ 50
  nd : ds.Nodup
section
variable {P : Program} {w : World} {A : Around} {s : Shared} {T : String}
theorem ReadsAll.at {h : Heap} : ∀ {vs : List Value} {ds : List PyData} {as : List Addr}, ReadsAll h vs ds as → ∀ i, i < ds.length → ∃ bs, Reads h (vs.getD i Value.none) (ds.getD i .none) bs
  | _, _, _, .nil, i, hi => absurd hi (Nat.not_lt_zero _)
  | _, _, _, .cons r rs, 0, _ => ⟨_, r⟩
  | _, _, _, .cons r rs, i + 1, hi => ReadsAll.at rs i (Nat.lt_of_succ_lt_succ hi)
theorem ReadsAll.keep {h h' : Heap} (k : ∀ b o, h.get? b = some o → h'.get? b = some o) : ∀ {vs : List Value} {ds : List PyData} {as : List Addr}, ReadsAll h vs ds as → ReadsAll h' vs ds as
  | _, _, _, .nil => .nil
  | _, _, _, .cons r rs => .cons (PyProof.Rows.Reads.keeps k r) (ReadsAll.keep k rs)
end
end L2
end
section
namespace L2
open PySem PySem.Spec PyProof.Rows
def pick {α : Type} (d : α) (p : Array Nat) (xs : List α) : List α := p.toList.map fun i => xs.getD i d
end L2
end
section
namespace L2.ST
open PySem PySem.SetTable
def Rise (xs : Array Nat) : Prop := ∀ i j, i < j → j < xs.size → xs.getD i 0 < xs.getD j 0
def Tk (t : SetTable) (j : Nat) : Prop := ∃ i, i < t.place.size ∧ t.place.getD i 0 = j
def road (mask : Nat) (h : Int) : Nat → Probe
  | 0 => { j := bits h % (mask + 1), more := runEnd mask (bits h % (mask + 1)) - bits h % (mask + 1), i := bits h % (mask + 1), perturb := bits h, dummy := none }
  | k + 1 => if (road mask h k).more > 0 then { road mask h k with j := (road mask h k).j + 1, more := (road mask h k).more - 1 } else
    { road mask h k with j := (leap mask (road mask h k).i (road mask h k).perturb).1, more := runEnd mask (leap mask (road mask h k).i (road mask h k).perturb).1 - (leap mask (road mask h k).i (road mask h k).perturb).1, i := (leap mask (road mask h k).i (road mask h k).perturb).1, perturb := (leap mask (road mask h k).i (road mask h k).perturb).2 }
abbrev pos (mask : Nat) (h : Int) (k : Nat) : Nat := (road mask h k).j
end L2.ST
end
section
namespace L2.ST
open PySem PySem.SetTable
structure TB (t : SetTable) (hs : List Int) : Prop where
  mask : t.mask = 7 ∨ t.mask = 31 ∨ t.mask = 127 ∨ t.mask = 511
  dum : t.dummies = #[]
  rise : Rise t.place
  le : ∀ i, i < t.place.size → t.place.getD i 0 ≤ t.mask
  size : t.place.size = hs.length
  most : hs.length ≤ t.mask
  reach : ∀ i, i < hs.length → ∃ k, pos t.mask (hs.getD i 0) k = t.place.getD i 0 ∧ ∀ k', k' < k → Tk t (pos t.mask (hs.getD i 0) k')
structure TOk (t : SetTable) (hs : List Int) : Prop extends TB t hs where
  room : hs.length * 5 < t.mask * 3
structure First (t : SetTable) (h : Int) (E : Nat) : Prop where
  lt : E < 10 * turns t.mask
  free : ¬ Tk t (pos t.mask h E)
  ahead : ∀ k, k < E → Tk t (pos t.mask h k)
theorem least {p : Nat → Prop} : ∀ n, p n → ∃ m, m ≤ n ∧ p m ∧ ∀ k, k < m → ¬ p k := fun n => by
  induction n using Nat.strongRecOn with
  | ind n ih =>
    intro h
    by_cases q : ∃ k, k < n ∧ p k
    · obtain ⟨k, hk, pk⟩ := q
      obtain ⟨m, a, b⟩ := ih k hk pk
      exact ⟨m, by omega, b⟩
    · exact ⟨n, Nat.le_refl _, h, fun k hk z => q ⟨k, hk, z⟩⟩
end L2.ST
end
section
namespace L2.ST
open PySem PySem.SetTable
end L2.ST
end
section
namespace L2.ST
open PySem PySem.SetTable
structure OwnT (mask : Nat) (ow : Array (Option Nat)) (hs : List Int) (sl : List Nat) : Prop where
  size : ow.size = mask + 1
  len : sl.length = hs.length
  nd : sl.Nodup
  le : ∀ j ∈ sl, j ≤ mask
  own : ∀ j, j ≤ mask → ∀ i, ow.getD j none = some i ↔ sl[i]? = some j
  reach : ∀ i, i < hs.length → ∃ q, pos mask (hs.getD i 0) q = sl.getD i 0 ∧ ∀ q', q' < q → pos mask (hs.getD i 0) q' ∈ sl
end L2.ST
end
section
namespace L2
open PySem PySem.Spec PyProof.Rows
mutual
def hashD (w : World) : PyData → Int
  | .int i => hashInt i
  | .str x => hashStr w x
  | .tuple xs => reduceHash (Builtin.Tuple.tupleHashOf (hashL w xs))
  | _ => 0
def hashL (w : World) : List PyData → List Int
  | [] => []
  | x :: xs => hashD w x :: hashL w xs
end
end L2
end
section
namespace L2
open PySem PySem.Spec PyProof.Rows
noncomputable instance decPy : DecidableEq PyData := fun a b => Classical.propDecidable _
structure KeyAt (h : Heap) (d : PyData) (a : Addr) : Prop where
  rd : ∃ as, Reads h (.ref a) d as
  pl : plainD d = true
  dp : d.depth ≤ 8
theorem KeyAt.keep {h h' : Heap} {d : PyData} {a : Addr} (x : KeyAt h d a) (k : ∀ b o, h.get? b = some o → (∀ es ep, o.data ≠ .dict es ep) → (∀ es ep t, o.data ≠ .set es ep t) → h'.get? b = some o) : KeyAt h' d a := by
  obtain ⟨⟨as, r⟩, p, q⟩ := x
  refine ⟨?_, p, q⟩
  have go : (∀ (d : PyData) (v : Value) (as : List Addr), Reads h v d as → plainD d = true → Reads h' v d as) := by
    intro d v as r
    refine Reads.rec (motive_1 := fun v d as _ => plainD d = true → Reads h' v d as) (motive_2 := fun vs ds as _ => plainL ds = true → ReadsAll h' vs ds as) ?_ ?_ ?_ ?_ ?_ ?_ ?_ ?_ ?_ r
    · intro p; cases p
    · intro b p; cases p
    · intro i t p; exact .int i t
    · intro x t p; exact .str x t
    · intro a o vs n xs as h1 h2 h3 h4 ih p; cases p
    · intro a o vs n xs as h1 h2 h3 h4 ih p
      rw [plainD] at p
      exact .tuple (k a o h1 (fun es ep z => by rw [h3] at z; cases z) (fun es ep t z => by rw [h3] at z; cases z)) h2 h3 (ih p)
    · intros; rename_i p; cases p
    · intro p; exact .nil
    · intro v vs d ds as bs r rs ih1 ih2 p
      rw [plainL, Bool.and_eq_true] at p
      exact .cons (ih1 p.1) (ih2 p.2)
  exact ⟨as, go d _ as r p⟩
end L2
end
section
namespace L2
open PySem PySem.Spec PyProof.Rows PySem.SetTable
section
variable {P : Program} {w : World} {A : Around} {E : Value → Shared → Prop} {s : Shared}
structure SetObj (w : World) (h : Heap) (a : Addr) (xs : List (PyData × Addr)) (o : Obj) (es : Array (Int × Value)) (ep : Nat) (t : SetTable) : Prop where
  ob : h.get? a = some o
  ex : o.ExactSet
  da : o.data = .set es ep t
  el : es.toList = xs.map fun x => (hashD w x.1, Value.ref x.2)
  ok : ST.TOk t (xs.map fun x => hashD w x.1)
theorem SetObj.size {h : Heap} {a : Addr} {xs : List (PyData × Addr)} {o : Obj} {es : Array (Int × Value)} {ep : Nat} {t : SetTable} (x : SetObj w h a xs o es ep t) : es.size = xs.length := by
  rw [← Array.length_toList, x.el, List.length_map]
theorem SetObj.fits {h : Heap} {a : Addr} {xs : List (PyData × Addr)} {o : Obj} {es : Array (Int × Value)} {ep : Nat} {t : SetTable} (x : SetObj w h a xs o es ep t) : t.fits es.size = true := by
  unfold SetTable.fits SetTable.fill
  have h1 := x.ok.size
  have h2 := x.ok.most
  rw [List.length_map] at h1 h2
  rw [x.size, h1, x.ok.dum]
  simp
  exact h2
theorem SetObj.at {h : Heap} {a : Addr} {xs : List (PyData × Addr)} {o : Obj} {es : Array (Int × Value)} {ep : Nat} {t : SetTable} (x : SetObj w h a xs o es ep t) {i : Nat} (hi : i < xs.length) : es[i]? = some (hashD w xs[i].1, Value.ref xs[i].2) := by
  rw [← Array.getElem?_toList, x.el, List.getElem?_map, List.getElem?_eq_getElem hi]
  rfl
end
end L2
end
section
namespace L2
open PySem PySem.Spec PyProof.Rows PySem.SetTable
section
variable {P : Program} {w : World} {A : Around} {E : Value → Shared → Prop} {s : Shared} {a b : Addr} {d : PyData} {xs : List (PyData × Addr)} {o : Obj} {es : Array (Int × Value)} {ep : Nat} {t : SetTable}
theorem SetObj.type (S : SetObj w s.heap a xs o es ep t) : s.TypeIs (.ref a) "set" := ⟨o, S.ob, S.ex.1⟩
theorem SetObj.tok {k : Nat} (S : SetObj w s.heap a xs o es ep t) : SetObj w ({ s with toks := k } : Shared).heap a xs o es ep t := S
theorem SetObj.put {h : Heap} {es' : Array (Int × Value)} {t' : SetTable} {xs' : List (PyData × Addr)} (S : SetObj w h a xs o es ep t) (e : es'.toList = xs'.map fun x => (hashD w x.1, Value.ref x.2)) (k : ST.TOk t' (xs'.map fun x => hashD w x.1)) :
    SetObj w (h.update a (Obj.putSet es' t')) a xs' { o with data := .set es' (ep + 1) t' } es' (ep + 1) t' := by
  refine ⟨?_, S.ex, rfl, e, k⟩
  have := Heap.get?_update_self (Obj.putSet es' t') S.ob (by rw [putSet_of es' t' S.da]; rfl)
  rw [putSet_of es' t' S.da] at this
  exact this
end
end L2
end
section
namespace L2
open PySem PySem.Spec PyProof.Rows
inductive OC where
  | lst (es : List PyData)
  | set (ks : List PyData)
  | dic (kvs : List (PyData × PyData))
def SetO (w : World) (a : Addr) (xs : List (PyData × Addr)) : HO := .ext fun h => ∃ o es ep t, SetObj w h a xs o es ep t
structure DicObj (w : World) (h : Heap) (a : Addr) (xs : List (PyData × Addr × Value)) (o : Obj) (es : Array DictEntry) (ep : Nat) : Prop where
  ob : h.get? a = some o
  ex : o.ExactDict
  da : o.data = .dict es ep
  el : es.toList = xs.map fun x => (⟨hashD w x.1, .ref x.2.1, x.2.2⟩ : DictEntry)
  nd : (xs.map (·.1)).Nodup
  ns : (a == sysModules) = false
def DicO (w : World) (a : Addr) (xs : List (PyData × Addr × Value)) : HO := .ext fun h => ∃ o es ep, DicObj w h a xs o es ep
def KeyD (d : PyData) : Prop := plainD d = true ∧ d.depth ≤ 8
def EntR (K : PySem.W.Frag) (Hh : Hp) (x : PyData × Addr × Value) (p : PyData × PyData) : Prop := x.1 = p.1 ∧ KeyD x.1 ∧ Rep K Hh x.1 (.ref x.2.1) ∧ ∃ v, Rep K Hh p.2 v ∧ RelV v x.2.2
theorem EntR.mono {K : PySem.W.Frag} {Hh Hh' : Hp} (s : Same Hh Hh') : ∀ {xs : List (PyData × Addr × Value)} {kvs : List (PyData × PyData)}, Paired (EntR K Hh) xs kvs → Paired (EntR K Hh') xs kvs
  | _, _, .nil => .nil
  | _, _, .cons ⟨h1, h2, h3, v, h4, h5⟩ t => .cons ⟨h1, h2, Rep.mono s _ _ h3, v, Rep.mono s _ _ h4, h5⟩ (EntR.mono s t)
def OwnAt (w : World) (K : PySem.W.Frag) (Hh H : Hp) (D : Addr) : OC → Prop
  | .lst es => ∃ vs, H D = some (.lst vs) ∧ Reps K Hh es vs
  | .set ks => ∃ xs : List (PyData × Addr), H D = some (SetO w D xs) ∧ (∀ x ∈ xs, KeyD x.1 ∧ Rep K Hh x.1 (.ref x.2)) ∧ (∀ d, d ∈ xs.map (·.1) ↔ d ∈ ks) ∧ xs.length ≤ ks.length
  | .dic kvs => ∃ xs : List (PyData × Addr × Value), H D = some (DicO w D xs) ∧ Paired (EntR K Hh) xs kvs
theorem OwnAt.mono {w : World} {K : PySem.W.Frag} {Hh Hh' H H' : Hp} {D : Addr} (e : H' D = H D) (s : Same Hh Hh') : ∀ {c : OC}, OwnAt w K Hh H D c → OwnAt w K Hh' H' D c
  | .lst es, ⟨vs, h1, h2⟩ => ⟨vs, e.trans h1, Reps.mono s es vs h2⟩
  | .set ks, ⟨xs, h1, h2, h3⟩ => ⟨xs, e.trans h1, fun x hx => ⟨(h2 x hx).1, Rep.mono s _ _ (h2 x hx).2⟩, h3⟩
  | .dic kvs, ⟨xs, h1, h2⟩ => ⟨xs, e.trans h1, EntR.mono s h2⟩
def Fx.withs (f : Fx) (Ds : List Addr) : Fx := { f with M := Ds.reverse ++ f.M }
theorem withs_snoc (f : Fx) (Ds : List Addr) (D : Addr) : f.withs (Ds ++ [D]) = (f.withs Ds).with D := by
  unfold Fx.withs Fx.with
  rw [List.reverse_append]
  rfl
structure CM (w : World) (K : PySem.W.Frag) (f : Fx) (Ds : List Addr) (H2 : Hp) (ρ : DEnv) (cs : List OC) (σ : St) (H : Hp) : Prop where
  env : EnvOk K (f.withs Ds) ρ σ H
  sm : Same (hide H2 (f.withs Ds)) (hide H (f.withs Ds))
  kp : ∀ b ∈ f.M, H b = H2 b
  len : cs.length = Ds.length
  own : ∀ (i : Nat) D c, Ds[i]? = some D → cs[i]? = some c → OwnAt w K (hide H (f.withs Ds)) H D c
structure Sep (f : Fx) (Ds : List Addr) : Prop where
  nd : Ds.Nodup
  nf : ∀ D ∈ Ds, f.f ≠ some D
  nm : ∀ D ∈ Ds, D ∉ f.M
section
variable {w : World} {K : PySem.W.Frag} {f : Fx} {Ds : List Addr} {H H' H2 : Hp} {ρ ρ2 : DEnv} {cs : List OC} {σ σ2 : St} {i : Nat} {D : Addr} {c : OC} {o : HO}
theorem mem_withs (hD : D ∈ Ds) : D ∈ (f.withs Ds).M := List.mem_append_left _ (List.mem_reverse.mpr hD)
theorem hide_withs_upd (hD : D ∈ Ds) : hide (upd H D o) (f.withs Ds) = hide H (f.withs Ds) := by
  funext b
  unfold hide
  by_cases h : (f.withs Ds).f = some b ∨ b ∈ (f.withs Ds).M
  · rw [if_pos h, if_pos h]
  · rw [if_neg h, if_neg h, upd_ne fun (z : b = D) => h (.inr (z ▸ mem_withs hD))]
theorem CM.go (x : CM w K f Ds H2 ρ cs σ H) (g : Goes (f.withs Ds) H H') (e2 : EnvOk K (f.withs Ds) ρ2 σ2 H') : CM w K f Ds H2 ρ2 cs σ2 H' :=
  ⟨e2, x.sm.trans g.sm, fun b hb => (g.kp b (List.mem_append_right _ hb)).trans (x.kp b hb), x.len, fun i D c h1 h2 => (x.own i D c h1 h2).mono (g.kp D (mem_withs (List.mem_of_getElem? h1))) g.sm⟩
theorem CM.self (x : CM w K f Ds H2 ρ cs σ H) : CM w K f Ds H ρ cs σ H := ⟨x.env, Same.refl _, fun _ _ => rfl, x.len, x.own⟩
theorem CM.trans {cs' : List OC} {ρ' : DEnv} {σ' : St} (x : CM w K f Ds H2 ρ cs σ H) (y : CM w K f Ds H ρ' cs' σ' H') : CM w K f Ds H2 ρ' cs' σ' H' := ⟨y.env, x.sm.trans y.sm, fun b hb => (y.kp b hb).trans (x.kp b hb), y.len, y.own⟩
theorem fok_upd (se : Sep f Ds) (hD : D ∈ Ds) (h : FOk (f.withs Ds) H) : FOk (f.withs Ds) (upd H D o) :=
  ⟨fun p e => let ⟨a, b, h1, h2⟩ := h.fd p e; ⟨a, b, by rw [upd_ne (fun (z : p = D) => se.nf D hD (z ▸ e))]; exact h1, h2⟩, fun b hb => by
    by_cases e : b = D
    · exact ⟨o, by rw [e]; exact upd_same⟩
    · obtain ⟨u, hu⟩ := h.mm b hb
      exact ⟨u, by rw [upd_ne e]; exact hu⟩, h.nm⟩
theorem env_upd (se : Sep f Ds) (hD : D ∈ Ds) (e : EnvOk K (f.withs Ds) ρ σ H) : EnvOk K (f.withs Ds) ρ σ (upd H D o) :=
  ⟨e.len, fun i x h => by
    obtain ⟨v, h1, h2⟩ := e.get i x h
    refine ⟨v, h1, ?_⟩
    cases x with
    | dat d =>
      show Rep K (hide (upd H D o) (f.withs Ds)) d v
      rw [hide_withs_upd hD]
      exact h2
    | feed => exact h2
    | own k => exact h2
    | exc C =>
      obtain ⟨a, e1, q⟩ := h2
      exact ⟨a, e1, by rw [hide_withs_upd hD]; exact q⟩
    | mon φ =>
      intro H' s
      rw [hide_withs_upd hD] at s
      exact h2 H' s, fok_upd se hD e.fd⟩
theorem CM.put {c' : OC} (se : Sep f Ds) (x : CM w K f Ds H2 ρ cs σ H) (hi : Ds[i]? = some D) (ho : OwnAt w K (hide H (f.withs Ds)) (upd H D o) D c') : CM w K f Ds H2 ρ (cs.set i c') σ (upd H D o) := by
  have hD := List.mem_of_getElem? hi
  refine ⟨env_upd se hD x.env, by rw [hide_withs_upd hD]; exact x.sm, fun b hb => (upd_ne (fun (z : b = D) => se.nm D hD (z ▸ hb))).trans (x.kp b hb), by rw [List.length_set]; exact x.len, fun j D' c h1 h2 => ?_⟩
  rw [hide_withs_upd hD]
  by_cases e : i = j
  · subst e
    rw [hi] at h1
    cases h1
    have hl : i < cs.length := by rw [x.len]; exact (List.getElem?_eq_some_iff.mp hi).1
    rw [List.getElem?_set_self hl] at h2
    cases h2
    exact ho
  · rw [List.getElem?_set_ne e] at h2
    have ne : D' ≠ D := fun z => by
      subst z
      obtain ⟨l1, e1⟩ := List.getElem?_eq_some_iff.mp hi
      obtain ⟨l2, e2⟩ := List.getElem?_eq_some_iff.mp h1
      exact e ((List.getElem_inj se.nd).mp (e1.trans e2.symm))
    exact (x.own j D' c h1 h2).mono (upd_ne ne) (Same.refl _)
end
structure MEnds where
  nx : DEnv → List OC → Prop
  rt : PyData → Prop
  bk : DEnv → List OC → Prop := fun _ _ => False
  ct : DEnv → List OC → Prop := fun _ _ => False
section
variable {w : World} {K : PySem.W.Frag} {f : Fx} {Ds : List Addr} {ρ : DEnv} {cs : List OC} {ts tu : TS} {tt : TT} {te : TE} {wi : TI} {g : TG} {O : MEnds} {i j : Nat}
theorem same_withs {H : Hp} : Same (hide H (f.withs Ds)) (hide H f) := fun b o h => by
  obtain ⟨h1, h2⟩ := hide_of h
  exact hide_get (fun z => h1 (z.elim .inl fun z => .inr (List.mem_append_right _ z))) h2
theorem CM.more {σ : St} {H H1 H2 : Hp} {D : Addr} {c : OC} (x : CM w K f Ds H2 ρ cs σ H) (g : Goes (f.withs Ds) H H1) (hn : H D = none) (ho : OwnAt w K (hide H1 ((f.withs Ds).with D)) H1 D c) (hi : i < ρ.length) :
    CM w K f (Ds ++ [D]) H1 (ρ.set i (some (.own (f.M.length + Ds.length)))) (cs ++ [c]) (σ.set i (some (.ref D))) H1 := by
  have nD : ¬ ((f.withs Ds).f = some D ∨ D ∈ (f.withs Ds).M) := fresh_ne x.env.fd hn
  have sm0 : Same (hide H (f.withs Ds)) (hide H1 (f.withs (Ds ++ [D]))) := fun b o hb => by
    have hb1 := g.sm b o hb
    rw [withs_snoc]
    refine hide_get (fun z => ?_) (hide_of hb1).2
    rcases z with z | z
    · exact (hide_of hb1).1 (.inl z)
    · rcases List.mem_cons.mp z with rfl | z
      · have := (hide_of hb).2
        rw [hn] at this
        cases this
      · exact (hide_of hb1).1 (.inr z)
  have hD1 : ∃ o, H1 D = some o := by
    cases c with
    | lst es => exact ⟨_, ho.choose_spec.1⟩
    | set ks => exact ⟨_, ho.choose_spec.1⟩
    | dic kvs => exact ⟨_, ho.choose_spec.1⟩
  have fo1 : FOk (f.withs (Ds ++ [D])) H1 := by
    rw [withs_snoc]
    refine ⟨g.ok.fd, fun b hb => ?_, fun q eq hq => ?_⟩
    · rcases List.mem_cons.mp hb with rfl | hb
      · exact hD1
      · exact g.ok.mm b hb
    · rcases List.mem_cons.mp hq with rfl | hq
      · exact nD (.inl eq)
      · exact g.ok.nm q eq hq
  have rev : (f.withs (Ds ++ [D])).M.reverse = (f.withs Ds).M.reverse ++ [D] := by
    rw [withs_snoc]
    show (D :: (f.withs Ds).M).reverse = _
    rw [List.reverse_cons]
  have lenr : (f.withs Ds).M.reverse.length = f.M.length + Ds.length := by
    show (Ds.reverse ++ f.M).reverse.length = _
    simp
  have e1 : EnvOk K (f.withs (Ds ++ [D])) ρ σ H1 := ⟨x.env.len, fun q y hy => by
    obtain ⟨v, a1, a2⟩ := x.env.get q y hy
    refine ⟨v, a1, ?_⟩
    cases y with
    | dat d => exact Rep.mono sm0 d v a2
    | feed => exact a2
    | exc C =>
      obtain ⟨b, h3, h4⟩ := a2
      exact ⟨b, h3, sm0 _ _ h4⟩
    | mon φ => exact fun H' s => a2 H' (sm0.trans s)
    | own k =>
      obtain ⟨b, h3, h4⟩ := a2
      refine ⟨b, ?_, h4⟩
      rw [rev, List.getElem?_append_left (List.getElem?_eq_some_iff.mp h3).1]
      exact h3, fo1⟩
  have rv : RepV K (f.withs (Ds ++ [D])) H1 (.own (f.M.length + Ds.length)) (.ref D) := ⟨D, by
    rw [rev, List.getElem?_append_right (by omega), lenr, Nat.sub_self]
    rfl, rfl⟩
  refine ⟨e1.set i rv, Same.refl _, fun _ _ => rfl, by simp [x.len], fun q D' c' h1 h2 => ?_⟩
  by_cases hq : q < Ds.length
  · rw [List.getElem?_append_left hq] at h1
    rw [List.getElem?_append_left (by rw [x.len]; exact hq)] at h2
    exact (x.own q D' c' h1 h2).mono (g.kp D' (mem_withs (List.mem_of_getElem? h1))) sm0
  · by_cases hq2 : q = Ds.length
    · subst hq2
      rw [List.getElem?_append_right (Nat.le_refl _), Nat.sub_self] at h1
      rw [List.getElem?_append_right (by rw [x.len]; exact Nat.le_refl _), x.len, Nat.sub_self] at h2
      cases h1
      cases h2
      rw [withs_snoc]
      exact ho
    · rw [List.getElem?_eq_none (by simp; omega)] at h1
      cases h1
theorem Sep.more {H : Hp} {D : Addr} (se : Sep f Ds) (fo : FOk (f.withs Ds) H) (hn : H D = none) : Sep f (Ds ++ [D]) := by
  have nD := fresh_ne fo hn
  refine ⟨List.nodup_append.mpr ⟨se.nd, by simp, fun a ha b hb => ?_⟩, fun D' h => ?_, fun D' h => ?_⟩
  · rw [List.mem_singleton.mp hb]
    intro z
    exact nD (.inr (mem_withs (z ▸ ha)))
  · rcases List.mem_append.mp h with h | h
    · exact se.nf D' h
    · rw [List.mem_singleton.mp h]; exact fun z => nD (.inl z)
  · rcases List.mem_append.mp h with h | h
    · exact se.nm D' h
    · rw [List.mem_singleton.mp h]; exact fun z => nD (.inr (List.mem_append_right _ z))
theorem CM.less {σ σ' : St} {H H1 H2 H' : Hp} {D : Addr} {ρ' : DEnv} {cs' : List OC} (x : CM w K f Ds H2 ρ cs σ H) (g : Goes (f.withs Ds) H H1) (hn : H D = none) (y : CM w K f (Ds ++ [D]) H1 ρ' cs' σ' H') :
    CM w K f Ds H2 (ρ'.map (dropOwn (f.M.length + Ds.length))) (cs'.take Ds.length) σ' H' := by
  have sub : Same (hide H' (f.withs (Ds ++ [D]))) (hide H' (f.withs Ds)) := by rw [withs_snoc]; exact same_with
  have sm1 : Same (hide H (f.withs Ds)) (hide H1 (f.withs (Ds ++ [D]))) := fun b o hb => by
    have hb1 := g.sm b o hb
    rw [withs_snoc]
    refine hide_get (fun z => ?_) (hide_of hb1).2
    rcases z with z | z
    · exact (hide_of hb1).1 (.inl z)
    · rcases List.mem_cons.mp z with rfl | z
      · have := (hide_of hb).2
        rw [hn] at this
        cases this
      · exact (hide_of hb1).1 (.inr z)
  have lenr : (f.withs Ds).M.reverse.length = f.M.length + Ds.length := by
    show (Ds.reverse ++ f.M).reverse.length = _
    simp
  have rev : (f.withs (Ds ++ [D])).M.reverse = (f.withs Ds).M.reverse ++ [D] := by
    rw [withs_snoc]
    show (D :: (f.withs Ds).M).reverse = _
    rw [List.reverse_cons]
  have fo : FOk (f.withs Ds) H' := by
    have h := y.env.fd
    rw [withs_snoc] at h
    exact ⟨h.fd, fun b hb => h.mm b (List.mem_cons_of_mem _ hb), fun p e hp => h.nm p e (List.mem_cons_of_mem _ hp)⟩
  refine ⟨⟨by rw [List.length_map]; exact y.env.len, fun q z hz => ?_, fo⟩, (x.sm.trans sm1).trans (y.sm.trans sub), fun b hb => (y.kp b hb).trans ((g.kp b (List.mem_append_right _ hb)).trans (x.kp b hb)), ?_, fun q D' c' h1 h2 => ?_⟩
  · rw [List.getElem?_map] at hz
    cases e : ρ'[q]? with
    | none => rw [e] at hz; cases hz
    | some z0 =>
      rw [e] at hz
      cases z0 with
      | none => cases hz
      | some z0 =>
        obtain ⟨v, a1, a2⟩ := y.env.get q z0 e
        cases z0 with
        | dat d =>
          cases hz
          exact ⟨v, a1, Rep.mono sub d v a2⟩
        | feed =>
          cases hz
          rw [withs_snoc] at a2
          exact ⟨v, a1, a2⟩
        | exc C =>
          cases hz
          obtain ⟨b, h3, h4⟩ := a2
          exact ⟨v, a1, b, h3, sub _ _ h4⟩
        | mon φ =>
          cases hz
          exact ⟨v, a1, fun H' s => a2 H' (sub.trans s)⟩
        | own k =>
          have hz' : (if k < f.M.length + Ds.length then some (DV.own k) else none) = some z := Option.some.inj hz
          by_cases hk : k < f.M.length + Ds.length
          · rw [if_pos hk] at hz'
            cases hz'
            obtain ⟨b, h3, h4⟩ := a2
            refine ⟨v, a1, b, ?_, h4⟩
            rw [rev, List.getElem?_append_left (by omega)] at h3
            exact h3
          · rw [if_neg hk] at hz'
            cases hz'
  · rw [List.length_take, y.len]
    simp
  · have hq : q < Ds.length := (List.getElem?_eq_some_iff.mp h1).1
    rw [List.getElem?_take_of_lt hq] at h2
    exact (y.own q D' c' (by rw [List.getElem?_append_left hq]; exact h1) h2).mono rfl sub
def freed (n : Nat) (cs : List OC) : Option DV → Option DV
  | some (.own k) => if k < n then some (.own k) else match cs[k - n]? with
    | some (.lst es) => some (.dat (.list es))
    | _ => none
  | x => x
theorem CM.free {σ : St} {H H2 : Hp} (se : Sep f Ds) (x : CM w K f Ds H2 ρ cs σ H) : EnvOk K f (ρ.map (freed f.M.length cs)) σ H := by
  have fo : FOk f H := ⟨x.env.fd.fd, fun b hb => x.env.fd.mm b (List.mem_append_right _ hb), fun p e hp => x.env.fd.nm p e (List.mem_append_right _ hp)⟩
  refine ⟨by rw [List.length_map]; exact x.env.len, fun q z hz => ?_, fo⟩
  rw [List.getElem?_map] at hz
  cases e : ρ[q]? with
  | none => rw [e] at hz; cases hz
  | some z0 =>
    rw [e] at hz
    cases z0 with
    | none => cases hz
    | some z0 =>
      obtain ⟨v, a1, a2⟩ := x.env.get q z0 e
      cases z0 with
      | dat d =>
        cases hz
        exact ⟨v, a1, Rep.mono same_withs d v a2⟩
      | feed =>
        cases hz
        exact ⟨v, a1, a2⟩
      | exc C =>
        cases hz
        obtain ⟨b, h3, h4⟩ := a2
        exact ⟨v, a1, b, h3, same_withs _ _ h4⟩
      | mon φ =>
        cases hz
        exact ⟨v, a1, fun H' s => a2 H' (same_withs.trans s)⟩
      | own k =>
        obtain ⟨b, h3, h4⟩ := a2
        have h3' : (Ds.reverse ++ f.M).reverse[k]? = some b := h3
        rw [List.reverse_append, List.reverse_reverse] at h3'
        have hz' : (if k < f.M.length then some (DV.own k) else match cs[k - f.M.length]? with | some (.lst es) => some (.dat (.list es)) | _ => none) = some z := Option.some.inj hz
        by_cases hk : k < f.M.length
        · rw [if_pos hk] at hz'
          cases hz'
          rw [List.getElem?_append_left (by simpa using hk)] at h3'
          exact ⟨v, a1, b, h3', h4⟩
        · rw [if_neg hk] at hz'
          rw [List.getElem?_append_right (by simpa using Nat.not_lt.mp hk), List.length_reverse] at h3'
          cases ec : cs[k - f.M.length]? with
          | none => rw [ec] at hz'; cases hz'
          | some c =>
            rw [ec] at hz'
            cases c with
            | lst es =>
              cases hz'
              obtain ⟨vs, h5, h6⟩ := x.own _ _ _ h3' ec
              have hb := List.mem_of_getElem? h3'
              exact ⟨v, a1, rep_list.mpr ⟨b, vs, h4, .of (hide_get (fun z => z.elim (se.nf b hb) (se.nm b hb)) h5), Reps.mono same_withs es vs h6⟩⟩
            | set ks => cases hz'
            | dic kvs => cases hz'
end
end L2
end
section
namespace L2
open PySem PySem.Spec PyProof.Rows
theorem SetO.ok {P : Program} {w : World} {H : Hp} {h : Heap} {a : Addr} {xs : List (PyData × Addr)} {o : Obj} {es : Array (Int × Value)} {ep : Nat} {t : SetTable} (S : SetObj w h a xs o es ep t) : ObjOk P w H h a (SetO w a xs) :=
  ⟨⟨o, es, ep, t, S⟩, ⟨o, S.ob⟩, fun h1 h2 ⟨o, es, ep, t, S⟩ k => ⟨o, es, ep, t, ⟨k o S.ob, S.ex, S.da, S.el, S.ok⟩⟩⟩
end L2
end
section
namespace L2
open PySem PySem.Spec PyProof.Rows
theorem DicO.ok {P : Program} {w : World} {H : Hp} {h : Heap} {a : Addr} {xs : List (PyData × Addr × Value)} {o : Obj} {es : Array DictEntry} {ep : Nat} (S : DicObj w h a xs o es ep) : ObjOk P w H h a (DicO w a xs) :=
  ⟨⟨o, es, ep, S⟩, ⟨o, S.ob⟩, fun h1 h2 ⟨o, es, ep, S⟩ k => ⟨o, es, ep, ⟨k o S.ob, S.ex, S.da, S.el, S.nd, S.ns⟩⟩⟩
end L2
end
section
namespace L2
open PySem PySem.Spec PyProof.Rows
end L2
end
section
namespace L2
open PySem PySem.Spec PyProof.Rows
structure MinAt (h0 : Heap) (its : List Value) (ds : List PyData) (as : List Addr) : Prop where
  ra : ReadsAll h0 its ds as
  pl : ∀ d ∈ ds, plainD d = true
  cp : ∀ d ∈ ds, ∀ e ∈ ds, cmpD d e = true
  dp : ∀ d ∈ ds, d.depth ≤ 50
end L2
end
section
namespace L2
open PySem PySem.Spec PyProof.Rows
section
variable {w : World} {K : PySem.W.Frag} {f : Fx} {Ds : List Addr} {ρ : DEnv} {cs : List OC} {O : MEnds} {tt : TT} {te : TE} {i j n : Nat}
abbrev rListOf (K : PySem.W.Frag) : List V → Hp → VK → Prop := fun xs H Q => ∃ p ys, xs = [V.ref p] ∧ (SqL K H p ys ∨ SqT K H p ys) ∧ ∀ l, H l = none → Q (V.ref l) (upd H l (HO.lst ys))
end
end L2
end
section
namespace L2
open PySem PySem.Spec PyProof.Rows
end L2
end
section
namespace L2
open PySem PySem.Spec PyProof.Rows
structure TM (K : PySem.W.Frag) (f : Fx) (a : Addr) (as : List Addr) (H2 : Hp) (ρ : DEnv) (rows : List (List Int)) (σ : St) (H : Hp) : Prop where
  env : EnvOk K (f.withs (a :: as)) ρ σ H
  sm : Same (hide H2 (f.withs (a :: as))) (hide H (f.withs (a :: as)))
  kp : ∀ b ∈ f.M, H b = H2 b
  tab : TabAt H a as rows
section
variable {K : PySem.W.Frag} {f : Fx} {a : Addr} {as : List Addr} {ρ ρ2 : DEnv} {rows : List (List Int)} {O : DEnv → List (List Int) → Prop} {ts tu : TS} {te ty tx : TE} {i : Nat} {σ σ2 : St} {H H' H2 : Hp}
theorem TabAt.keep (t : TabAt H a as rows) (h : ∀ b ∈ a :: as, H' b = H b) : TabAt H' a as rows :=
  ⟨(h a (List.mem_cons_self ..)).trans t.top, t.nd, t.len, fun i x r h1 h2 => (h x (List.mem_cons_of_mem _ (List.mem_of_getElem? h1))).trans (t.row i x r h1 h2)⟩
theorem TM.go (x : TM K f a as H2 ρ rows σ H) (g : Goes (f.withs (a :: as)) H H') (e2 : EnvOk K (f.withs (a :: as)) ρ2 σ2 H') : TM K f a as H2 ρ2 rows σ2 H' :=
  ⟨e2, x.sm.trans g.sm, fun b hb => (g.kp b (List.mem_append_right _ hb)).trans (x.kp b hb), x.tab.keep fun b hb => g.kp b (mem_withs hb)⟩
theorem same_into {Ds : List Addr} (g : Same (hide H f) (hide H' f)) (hn : ∀ D ∈ Ds, H D = none) : Same (hide H f) (hide H' (f.withs Ds)) := fun b o hb => by
  have hb1 := g b o hb
  refine hide_get (fun z => ?_) (hide_of hb1).2
  rcases z with z | z
  · exact (hide_of hb1).1 (.inl z)
  · rcases List.mem_append.mp z with z | z
    · have := (hide_of hb).2
      rw [hn b (List.mem_reverse.mp z)] at this
      cases this
    · exact (hide_of hb1).1 (.inr z)
theorem l_copy {P : List PyData → Prop} (h : PEd K f te ρ fun x => ∃ ds, x = .list ds ∧ P ds) : PEdL K f (tCB (rListOf K) (tCons te tNil)) ρ P := fun σ H Q e q => h σ H _ e fun x v H1 g1 r1 ⟨ds, ex, p⟩ => by
  subst ex
  obtain ⟨a, ys, rfl, s1, s2⟩ := rep_list.mp r1
  refine ⟨a, ys, rfl, .inl ((hide_same _ _).seq s1), fun l hn => ?_⟩
  have g2 : Goes f H1 (upd H1 l (.lst ys)) := .of_same (same_new hn _) g1.2
  exact q ds l ys _ (g1.trans g2) (g1.free e.fd hn) upd_same (Reps.mono g2.1 ds ys s2) p
end
end L2
end
section
namespace L2
open PySem PySem.Spec PyProof.Rows
end L2
end
section
namespace L2
open PySem PySem.Spec PyProof.Rows
section
variable {K : PySem.W.Frag} {f : Fx} {ρ : DEnv} {ts tu : TS} {O : DEnds} {te : TE} {i : Nat}
theorem s_mid (J : DEnv → Prop) (h1 : PSd K f ts ρ { O with nx := J }) (h2 : ∀ ρ', J ρ' → PSd K f tu ρ' O) : PSd K f (tSeq ts tu) ρ O :=
  s_seq fun σ H E e n r b k => h1 σ H E e (fun ρ' σ' H' g' e' p => n ρ' σ' H' g' e' (h2 ρ' p)) r b k
end
end L2
end
section
namespace L2
open PySem PySem.Spec PyProof.Rows
end L2
end
section
namespace L2
open PySem PySem.Spec PyProof.Rows
end L2
end
section
namespace L2
open PySem PySem.Spec PyProof.Rows
end L2
end
section
namespace L2
open PySem PySem.Spec PyProof.Rows
end L2
end
section
namespace L2
open PySem PySem.Spec PyProof.Rows
end L2
end
section
namespace L2
open PySem PySem.Spec PyProof.Rows
open PySem.SeqAt
open PySem.AutoSeq1 (wpAny_loadPart')
def GeAt (A : Around) (s : Shared) (y x : Value) (b : Bool) : Prop :=
  ∀ (prog : Program) (w : World) (E : Value → Shared → Prop) (Q : Value → Shared → Prop), Q (.bool b) s → wpAny (model prog w) A (richCompare .GtE y x) Q E s
inductive Gex (A : Around) (s : Shared) : List Value → List Value → Bool → Prop where
  | nn : Gex A s [] [] true
  | eq {v w vs ws b} : EqAt A s v w true → Gex A s vs ws b → Gex A s (v :: vs) (w :: ws) b
  | ge {v w vs ws b} : EqAt A s v w false → GeAt A s v w b → vs.length = ws.length → Gex A s (v :: vs) (w :: ws) b
theorem Gex.len {A : Around} {s : Shared} {vs ws : List Value} {b : Bool} (h : Gex A s vs ws b) : vs.length = ws.length := by
  induction h with
  | nn => rfl
  | eq _ _ ih => simp only [List.length_cons, ih]
  | ge _ _ e => simp only [List.length_cons, e]
end L2
end
section
namespace L2
open PySem PySem.Spec PyProof.Rows
def fld2 (o : Obj) : Option Value := match o.data with
  | .fields vs => vs[2]?
  | _ => none
def KD (h h' : Heap) : Prop := ∀ b o, h.get? b = some o → ∃ u, h'.get? b = some u ∧ u.dict = o.dict ∧ fld2 u = fld2 o
theorem KD.refl (h : Heap) : KD h h := fun _ o e => ⟨o, e, rfl, rfl⟩
theorem KD.trans {h i j : Heap} (a : KD h i) (b : KD i j) : KD h j := fun c o e =>
  let ⟨u, e1, d1, f1⟩ := a c o e
  let ⟨v, e2, d2, f2⟩ := b c u e1
  ⟨v, e2, d2.trans d1, f2.trans f1⟩
theorem KD.push (h : Heap) (o : Obj) : KD h (h.push o) := fun _ u e => ⟨u, Heap.get?_push_of_some _ e, rfl, rfl⟩
theorem KD.update (h : Heap) (a : Addr) (f : Obj → Obj) (k : ∀ o, (f o).dict = o.dict ∧ (f o).isFreed = o.isFreed ∧ fld2 (f o) = fld2 o) : KD h (h.update a f) := fun b o e => by
  by_cases q : a = b
  · subst q
    exact ⟨f o, Heap.get?_update_self f e (by rw [(k o).2.1]; exact (Heap.get?_some_iff.mp e).2), (k o).1, (k o).2.2⟩
  · exact ⟨o, (Heap.get?_update_other h f q).trans e, rfl, rfl⟩
def KeepD {α : Type} (t : Sem α) : Prop := ∀ (M : Model) (Γ : PySem.Ctx) (Q : α → Pos → Shared → Prop) (E : Value → Pos → Shared → Prop) (p : Pos) (s : Shared),
  Sem.wp M Γ t Q E p s → Sem.wp M Γ t (fun a p' s' => Q a p' s' ∧ KD s.heap s'.heap) E p s
section
variable {α β : Type}
theorem kd_pure (a : α) : KeepD (pure a : Sem α) := fun _ _ _ _ _ s h => ⟨h, .refl _⟩
theorem kd_uns (x : String) : KeepD (unsupported x : Sem α) := fun _ _ _ _ _ _ h => h
theorem kd_bind {m : Sem α} {f : α → Sem β} (a : KeepD m) (b : ∀ x, KeepD (f x)) : KeepD (m >>= f) := fun M Γ Q E p s h => by
  rw [Sem.wp_bind'] at h ⊢
  refine Sem.wp_mono M Γ m (fun x p' s' z => ?_) (fun _ _ _ z => z) p s (a M Γ _ E p s h)
  exact Sem.wp_mono M Γ (f x) (fun _ _ _ y => ⟨y.1, z.2.trans y.2⟩) (fun _ _ _ y => y) p' s' (b x M Γ Q E p' s' z.1)
theorem kd_ite {c : Prop} [Decidable c] {t u : Sem α} (a : KeepD t) (b : KeepD u) : KeepD (if c then t else u) := by split <;> assumption
theorem kd_load (a : Addr) : KeepD (load a) := fun _ _ _ _ _ _ h => let ⟨o, e, q⟩ := h; ⟨o, e, q, .refl _⟩
theorem kd_loadPart (a : Addr) (v : Option Value) : KeepD (loadPart a v) := fun _ _ _ _ _ _ h => let ⟨o, e, q⟩ := h; ⟨o, e, q, .refl _⟩
theorem kd_stack : KeepD stack := fun _ _ _ _ _ _ h => ⟨h, .refl _⟩
theorem kd_alloc (o : Obj) : KeepD (alloc o) := fun _ _ _ _ _ _ h => ⟨h, .push _ _⟩
theorem kd_reg (a : Addr) : KeepD (register a) := fun _ _ _ _ _ _ h => h
theorem kd_update (a : Addr) (f : Obj → Obj) (k : ∀ o, (f o).dict = o.dict ∧ (f o).isFreed = o.isFreed ∧ fld2 (f o) = fld2 o) : KeepD (update a f) := fun _ _ _ _ _ _ h => ⟨h.1, h.2, .update _ _ _ k⟩
end
local macro_rules | `(tactic| walk_at "kd") => `(tactic| with_reducible first
    | assumption
    | exact kd_pure _
    | exact kd_uns _
    | exact kd_load _
    | exact kd_loadPart _ _
    | exact kd_stack
    | exact kd_alloc _
    | exact kd_reg _
    | apply kd_ite
    | apply kd_bind
    | intro _
    | split)
theorem kd_field (v : Value) (i : Nat) : KeepD (field v i) := fun _ Γ Q E p s h => by
  obtain ⟨a, o, vs, x, h1, h2, h3, h4, h5⟩ := (wp_field_iff Γ v i Q E p s).mp h
  exact (wp_field_iff Γ v i _ E p s).mpr ⟨a, o, vs, x, h1, h2, h3, h4, h5, .refl _⟩
theorem kd_setField (v : Value) (i : Nat) (x : Value) (hi : i ≠ 2) : KeepD (setField v i x) := fun _ Γ Q E p s h => by
  obtain ⟨a, o, vs, h1, h2, h3, h4, h5⟩ := (wp_setField_iff Γ v i x Q E p s).mp h
  refine (wp_setField_iff Γ v i x _ E p s).mpr ⟨a, o, vs, h1, h2, h3, h4, h5, .update _ _ _ fun u => ?_⟩
  obtain ⟨c, d, dt, sl⟩ := u
  cases dt <;> first | exact ⟨rfl, rfl, rfl⟩ | exact ⟨rfl, rfl, Array.getElem?_setIfInBounds_ne hi⟩
theorem kd_import (env : Env) (l : List Env) : KeepD (behindIsImport env l) := by
  unfold behindIsImport
  have := kd_field env.code 12
  repeat' walk_at "kd"
theorem kd_claims : KeepD underTheClaimsCaller := by
  unfold underTheClaimsCaller
  repeat' walk_at "kd"
theorem kd_back (env : Env) (i : Bool) (l : List Env) : KeepD (keptBack env i l) := by
  have := kd_claims
  cases l <;> unfold keptBack <;> repeat' walk_at "kd"
theorem kd_ready : ∀ l : List Env, KeepD (readyFrames l)
  | [] => kd_pure _
  | env :: l => by
    have ih := kd_ready l
    have h1 := kd_import env l
    have h2 := fun i => kd_back env i l
    unfold readyFrames
    repeat' (first | walk_at "kd" | exact h2 _ | (refine kd_update _ _ fun ⟨c, d, dt, sl⟩ => ?_; cases dt <;> exact ⟨rfl, rfl, rfl⟩))
theorem kd_frame (env : Env) : KeepD (PySem.frameOf env) := by
  unfold PySem.frameOf frameEnvs
  have h2 : ∀ l, KeepD (frameObject l) := fun l => by
    cases l with
    | nil => exact kd_pure _
    | cons a l =>
      have := kd_ready (a :: l)
      unfold frameObject
      repeat' walk_at "kd"
  repeat' (first | walk_at "kd" | exact h2 _)
theorem kd_flight (e : Value) (f : Option Addr) : KeepD (setFlight e f) := by
  unfold setFlight
  repeat' (first | walk_at "kd" | exact kd_field _ _ | exact kd_setField _ _ _ (by decide))
theorem kd_place (f : Addr) (b : Bool) : KeepD (entryPlaceOf f b) := by
  unfold entryPlaceOf
  repeat' walk_at "kd"
theorem kd_entry (a b c d e : Value) (l : List Value) : KeepD (EntryCells.newEntry a b c d e l) := by
  unfold EntryCells.newEntry newFields newObj newObjAsIs classHasDel
  repeat' walk_at "kd"
theorem kd_note (e : Value) (env : Env) : KeepD (noteFrame e env) := by
  unfold noteFrame
  repeat' (first | walk_at "kd" | exact kd_field _ _ | exact kd_setField _ _ _ (by decide) | exact kd_frame _ | exact kd_place _ _ | exact kd_entry _ _ _ _ _ _)
theorem kd_leave (env : Env) (e : Value) : KeepD (leaving env e) := by
  unfold leaving
  exact kd_bind (kd_note _ _) fun _ => kd_flight _ _
theorem wp_kd {α : Type} {t : Sem α} {M : Model} {A : Around} {Q Q' : α → Shared → Prop} {E : Value → Shared → Prop} {s : Shared} (k : KeepD t) (h : wpAny M A t Q E s) (q : ∀ a s', Q a s' → KD s.heap s'.heap → Q' a s') : wpAny M A t Q' E s := fun Γ p hΓ =>
  Sem.wp_mono M Γ t (fun a _ s' z => q a s' z.1 z.2) (fun _ _ _ z => z) p s (k M Γ _ _ p s (h Γ p hΓ))
end L2
end
section
namespace L2
open PySem PySem.Spec PyProof.Rows
def Dct (a : Addr) (o : Option Addr) (h : Heap) : Prop := ∃ u, h.get? a = some u ∧ fld2 u = some .none ∧ ∀ dx, o = some dx → u.dict = some dx
theorem Dct.kd {a : Addr} {o : Option Addr} {h h' : Heap} (x : Dct a o h) (k : KD h h') : Dct a o h' :=
  let ⟨u, q, f, d⟩ := x
  let ⟨v, q2, d2, f2⟩ := k a u q
  ⟨v, q2, f2.trans f, fun dx e => d2.trans (d dx e)⟩
def CXf (P : Program) (w : World) : CXT := fun outer H s E e s' => ∃ a C o H', e = .ref a ∧ XLie P w outer H s a C H' s' ∧ Dct a o s'.heap ∧ E C o H'
def ExcOn (a : Addr) (C : Value) (o : Option Addr) (h : Heap) : Prop := ∃ t, h.get? a = some { cls := C, dict := o, data := .fields #[.ref t, .none, .none, .none, .bool false, .none] }
def drp (H : Hp) (a : Addr) : Hp := fun b => if b = a then none else H b
theorem drp_same {H : Hp} {a : Addr} : drp H a a = none := by unfold drp; rw [if_pos rfl]
theorem drp_ne {H : Hp} {a b : Addr} (h : b ≠ a) : drp H a b = H b := by unfold drp; rw [if_neg h]
theorem drp_of {H : Hp} {a b : Addr} {o : HO} (h : drp H a b = some o) : b ≠ a ∧ H b = some o := by
  by_cases e : b = a
  · rw [e, drp_same] at h; cases h
  · rw [drp_ne e] at h; exact ⟨e, h⟩
section
variable {X : Cx} {pins : List (Addr × Obj)} {σ : St} {H H' : Hp} {s s' : Shared} {a dx : Addr} {C : Value} {o : Option Addr}
theorem leave_onF {E : Value → Shared → Prop} (I : Inv X pins σ H s) (hst : X.stack = X.env :: X.outer) (hf : X.env.frame = some X.env.locals) (hex : X.ex = []) (x : XLie X.prog X.w X.stack H s a C H' s') (d : Dct a o s'.heap) :
    wpAny (model X.prog X.w) X.A (leaving X.env (.ref a)) (fun _ s'' => XLie X.prog X.w X.outer X.H₀ X.s₀ a C H' s'' ∧ Dct a o s''.heap) E s' :=
  wp_kd (kd_leave _ _) (leave_on I hst hf hex x) fun _ s'' y k => ⟨y, d.kd k⟩
theorem leave_newF {E : Value → Shared → Prop} (I : Inv X pins σ H s) (hst : X.stack = X.env :: X.outer) (hf : X.env.frame = some X.env.locals) (hex : X.ex = []) (ha : H a = some (.ext (ExcOn a C (some dx)))) (hnew : X.s₀.heap.get? a = none) :
    wpAny (model X.prog X.w) X.A (leaving X.env (.ref a)) (fun _ s'' => XLie X.prog X.w X.outer X.H₀ X.s₀ a C (drp H a) s'' ∧ Dct a (some dx) s''.heap) E s := by
  obtain ⟨⟨t, hu⟩, _, _⟩ := I.hok a _ ha
  have ex0 : ∀ b : Addr, b ∉ X.ex := fun b => by rw [hex]; simp
  have hsub : ∀ env ∈ X.env :: X.outer, ∀ b, env.frame = some b → b ∈ a :: frs X.stack := fun env he b hb => by
    rw [hst]
    exact List.mem_cons_of_mem _ (List.mem_filterMap.mpr ⟨env, he, hb⟩)
  have ff := I.stack
  rw [hst] at ff
  have inF : ∀ b, b ∈ frs X.outer → b ∈ frs X.stack := fun b hb => by
    rw [hst]
    unfold frs
    rw [List.filterMap_cons, hf]
    exact List.mem_cons_of_mem _ hb
  have hid : ∀ {b : Addr} {v : Obj}, s.heap.get? b = some v → b ≠ a → b ∉ frs X.stack → (PySem.W.hideAll s.heap (a :: frs X.stack)).get? b = some v := fun q n1 n2 => PySem.W.hideAll_get _ q fun z => (List.mem_cons.mp z).elim n1 n2
  have hen : (PySem.W.hideAll s.heap (a :: frs X.stack)).get? a = none := PySem.W.hideAll_none _ (List.mem_cons_self ..)
  refine wp_kd (kd_leave _ _) (wpAny_leaving_firstW (base := PySem.W.hideAll s.heap (a :: frs X.stack)) (oe := { cls := C, dict := some dx, data := .fields #[.ref t, .none, .none, .none, .bool false, .none] }) (a0 := .ref t) (by rw [I.ok.frames, hst]) (PySem.W.funFrames_hide ff hsub) hf hu (fun b v hb => PySem.W.of_hideAll _ hb) hen rfl rfl rfl
    (Q := fun _ s'' => XLie X.prog X.w X.outer X.H₀ X.s₀ a C (drp H a) s'') fun h' hL => ?_) fun _ s'' y k => ⟨y, Dct.kd ⟨_, hu, rfl, fun d e => e⟩ k⟩
  obtain ⟨k1, ⟨_, _, k2⟩, k3, up⟩ := hL
  have kp : ∀ b v, s.heap.get? b = some v → b ≠ a → b ∉ frs X.stack → h'.get? b = some v := fun b v q n1 n2 => k1 b v (hid q n1 n2)
  have ne : ∀ {b : Addr} {v : Obj}, X.s₀.heap.get? b = some v → b ≠ a := fun q e => by rw [e, hnew] at q; cases q
  have slots : ∀ b v, b ∈ frs X.outer → s.heap.get? b = some v → ∃ sl, h'.get? b = some { v with slots := sl } := fun b v hb q => by
    obtain ⟨_, o1, q1, hd⟩ := I.stack.mem (b := b) (inF b hb)
    rw [q] at q1
    cases q1
    exact up b v q hd
  have trk : ∀ b v, drp H a b = some v → ∃ w, s.heap.get? b = some w ∧ b ≠ a ∧ b ∉ frs X.stack := fun b v e => by
    obtain ⟨n1, e⟩ := drp_of e
    obtain ⟨w, q⟩ := (I.hok b v e).is
    exact ⟨w, q, n1, fun z => by rw [I.stkFree b z] at e; cases e⟩
  have inB : ∀ b v, X.s₀.heap.get? b = some v → b ∉ frs X.outer → ∃ o', (PySem.W.hideAll s.heap (a :: frs X.stack)).get? b = some o' := fun b v q hb => by
    obtain ⟨o1, q1⟩ := I.base.there b v q (ex0 b)
    exact ⟨o1, hid q1 (ne q) (I.old_ne hst hf q hb)⟩
  have na : ∀ {b : Addr} {v : HO}, H b = some v → (∀ φ, v ≠ .ext φ) → b ≠ a := fun {b v} q n e => by
    rw [e, ha] at q
    cases q
    exact n _ rfl
  refine ⟨I.os, I.bare, ⟨fun b v q n hb _ => kp b v (I.base.keep b v q n hb (ex0 b)) (ne q) (I.old_ne hst hf q hb), fun b v q n hb _ => ?_, fun b v q n _ => ?_, fun b v q _ => ?_, fun b xs q => ?_, fun b v w q => ?_, fun b ps q => ?_⟩, fun b v e => ?_, ⟨_, _, ⟨k1, hen, k2, k3⟩, inB, fun b v e => ?_⟩, hnew, drp_same⟩
  · obtain ⟨sl, q1⟩ := I.base.slot b v q n hb (ex0 b)
    obtain ⟨sl', q2⟩ := slots b _ hb q1
    exact ⟨sl', q2⟩
  · rw [drp_ne (ne q)]; exact I.base.free b v q n (ex0 b)
  · obtain ⟨o1, q1⟩ := I.base.there b v q (ex0 b)
    by_cases hb : b ∈ frs X.outer
    · obtain ⟨sl', q2⟩ := slots b _ hb q1
      exact ⟨_, q2⟩
    · exact ⟨_, kp b o1 q1 (ne q) (I.old_ne hst hf q hb)⟩
  · have q1 := I.base.tups b xs q
    rw [drp_ne (na q1 fun φ z => by cases z)]; exact q1
  · have q1 := I.base.frzs b v w q
    rw [drp_ne (na q1 fun φ z => by cases z)]; exact q1
  · obtain ⟨more, q1⟩ := I.base.tbls b ps q
    exact ⟨more, by rw [drp_ne (na q1 fun φ z => by cases z)]; exact q1⟩
  · obtain ⟨n1, e1⟩ := drp_of e
    refine (I.hok b v e1).stay (fun c w hc' q => ?_) (fun c q => by rw [drp_ne (na q fun φ z => by cases z)]; exact q) fun c xs q => by rw [drp_ne (na q fun φ z => by cases z)]; exact q
    rcases hc' with rfl | hc'
    · obtain ⟨_, _, n2, n3⟩ := trk c v e
      exact kp c w q n2 n3
    · have e2 : drp H a c = some (.own b) := by rw [drp_ne (na hc' fun φ z => by cases z)]; exact hc'
      obtain ⟨_, _, n2, n3⟩ := trk c _ e2
      exact kp c w q n2 n3
  · obtain ⟨w, q, n1, n2⟩ := trk b v e
    exact ⟨w, hid q n1 n2⟩
end
theorem passF {P : Program} {w : World} {K : PySem.W.Frag} {mg : Str → Option Value} {base : Heap} {N : List Str} {qual : Str} {scope : Scope} {f : Addr} {cd : Value} {A : Around} {outer : List Env} {s : Shared} {H : Hp} {E : XK} :
    Passes (CXf P w) (cxOf (CXf P w) P w K mg base N qual scope f cd A outer s H E) E := fun pins σ H1 s1 e s' I h => by
  obtain ⟨a, C, o, H', rfl, x, d, hE⟩ := h
  exact wpAny_mono (leave_onF (X := cxOf (CXf P w) P w K mg base N qual scope f cd A outer s H E) (E := fun _ _ => False) I rfl rfl rfl x d) (fun _ s'' y => ⟨a, C, o, H', rfl, y.1, y.2, hE⟩) fun _ _ z => z.elim
end L2
end
section
namespace L2
open PySem PySem.Spec PyProof.Rows PySem.Builtin Builtin Builtin.ObjectAttr
def withInit (K : PySem.W.Frag) (C f : Addr) (bmB : List Value) (newId : String) : Bool :=
  match K.lookup C with
  | some ⟨c0, _, .cls cd, sl⟩ => c0 == .type "type" && cd.mro.head? == some (.ref C) && cd.hasDel == false && cd.hasDict && PySem.W.tailIn K bmB cd.mro.tail && PySem.W.nsOkIn K cd.ns && PySem.W.nsIn K cd.ns "__init__" == some (some (.ref f))
      && sl.toList.length == 6 && sl.toList[4]? == some (some (.builtin newId))
  | _ => false
structure XCls (h : Heap) (C f : Addr) (bmB : List Value) (newId : String) : Prop where
  ex : ∃ nm q N bs bm sn sub ab col dd k0 k1 k2 k3 k5 mN, h.get? C = some (excClassObj nm q C N bs bm true sn sub ab col dd k0 k1 k2 k3 k5 newId) ∧ h.Ns N mN ∧ mN "__init__" = some (.ref f) ∧ OwnTail h bmB bm
theorem ns_some {K : PySem.W.Frag} {h : Heap} {N : Addr} {m : Str → Option Value} {n : Str} {v : Value} (X : K.In h) (G : h.Ns N m) (e : PySem.W.nsIn K N n = some (some v)) : m n = some v := by
  obtain ⟨o, es, ep, ho, hd, _, hf⟩ := G
  unfold PySem.W.nsIn at e
  split at e
  · rename_i lk
    have z := X _ _ lk
    rw [ho] at z
    cases z
    cases hd
    have z2 := hf n
    unfold nsFind findBy at z2
    rw [← Array.find?_toList] at z2
    cases q : List.find? (fun x => x.key.isStr n) es.toList with
    | none => rw [q] at e; dsimp only at e; split at e <;> cases e
    | some y =>
      rw [q] at e z2
      cases e
      exact z2.symm
  · cases e
theorem six_of {sl : Array (Option Value)} {v : Value} (h : sl.toList.length = 6) (h4 : sl.toList[4]? = some (some v)) : ∃ k0 k1 k2 k3 k5, sl = #[k0, k1, k2, k3, some v, k5] := by
  obtain ⟨l⟩ := sl
  match l, h with
  | [a, b, c, d, e, f], _ =>
    have : e = some v := by simpa using h4
    subst this
    exact ⟨a, b, c, d, f, rfl⟩
theorem xcls_of {K : PySem.W.Frag} {h : Heap} {C f : Addr} {bmB : List Value} {newId : String} (Y : K.In h) (e : withInit K C f bmB newId = true) : XCls h C f bmB newId := by
  unfold withInit at e
  split at e
  case h_2 => cases e
  case h_1 c0 dd cd sl lk =>
    simp only [Bool.and_eq_true, beq_iff_eq] at e
    obtain ⟨⟨⟨⟨⟨⟨⟨⟨e0, e1⟩, e2⟩, e3⟩, e4⟩, e5⟩, e6⟩, e7⟩, e8⟩ := e
    obtain ⟨k0, k1, k2, k3, k5, rfl⟩ := six_of e7 e8
    obtain ⟨nm, bs, mro, ns, qn, hd, sn, sub, ab, col, del⟩ := cd
    dsimp only at e1 e2 e3 e4 e5 e6
    cases mro with
    | nil => cases e1
    | cons z bm =>
      cases e1
      subst e0 e2 e3
      have G : h.Ns ns (h.nsMap ns) := .of_isNs (PySem.W.isNs_of_in Y e5)
      exact ⟨nm, qn, ns, bs, bm, sn, sub, ab, col, dd, k0, k1, k2, k3, k5, _, Y _ _ lk, G, ns_some Y G e6, PySem.W.tail_of_in Y e4⟩
section
variable {prog : Program} {w : World} {A : Around} {E : Value → Shared → Prop} {h : Heap} {g : Array GenState} {d : Drawn} {t : Nat} {os : OsState}
variable {C fI e : Addr} {bmB : List Value} {B newId initId : String}
theorem make_exc (F : ExcBaseFacts B newId initId bmB) {K : PySem.W.Frag} {rest : List Value} {Q : Value → Shared → Prop} (X : K.In h) (Y : XCls h C fI bmB newId) (hf : PySem.W.typeIn K (.ref fI) = some (.type "function")) (hrest : rest.length ≤ sizeLine)
    (go : ∀ h' e, Heap.MadeExcOf h h' e (.ref C) rest → wpAny (model prog w) (A.under (.builtin "type.__call__" ⟨.ref C :: rest, []⟩)) (call (.ref fI) (.ref e :: rest)) (fun r s' => r = .none ∧ Q (.ref e) s') E ⟨h', g, d, t, os⟩) :
    wpAny (model prog w) A (call (.ref C) rest) Q E ⟨h, g, d, t, os⟩ := by
  obtain ⟨nm, q, N, bs, bm, sn, sub, ab, col, dd, k0, k1, k2, k3, k5, mN, hC, hn, hi, T⟩ := Y.ex
  have l1 := tc_lookup
  have l2 := tc_bind (.ref C)
  have hT : (⟨h, g, d, t, os⟩ : Shared).TypeIs (.ref C) "type" := ⟨_, hC, rfl⟩
  refine wpAny_call (codeAny_of_tree ?_)
  show wpAny _ _ (callAny (.ref C) _) _ _ _
  repeat (any_goals (first | with_reducible refine wpAny_loadPart_at hC ?_ | wp_step | assumption))
  refine ⟨rfl, ?_⟩
  refine codeAny_call_builtin_at (Code.quiet_builtin _ (by decide +kernel)) entry_typeCall (wpAny_check_type_call_sub hC ?_)
  show wpAny _ _ (Builtin.«type.__call__» ⟨.ref C :: rest, []⟩) _ _ _
  repeat (first | with_reducible refine wpAny_madeBy_exc hC ?_ | with_reducible refine wpAny_loadPart_at hC ?_ | wp_step)
  refine codeAny_call_builtin_code (Code.quiet_builtin _ F.quiet) (wpAny_check_new_subT F T hC (codeAny_exc_new_subT F T hC ?_ hrest))
  show wpAny _ _ _ _ _ _
  have up : ∀ b o, h.get? b = some o → ((h.push { cls := .type "tuple", data := .seq rest.toArray }).push { cls := .ref C, data := .fields #[.ref h.objs.size, .none, .none, .none, .bool false, .none] }).get? b = some o :=
    fun b o z => Heap.get?_push_of_some _ (Heap.get?_push_of_some _ z)
  have gE : ((h.push { cls := .type "tuple", data := .seq rest.toArray }).push { cls := .ref C, data := .fields #[.ref h.objs.size, .none, .none, .none, .bool false, .none] }).get? (h.objs.size + 1) =
      some { cls := .ref C, data := .fields #[.ref h.objs.size, .none, .none, .none, .bool false, .none] } := Heap.get?_push_at (by simp only [Heap.size_push]) rfl
  have gT : ((h.push { cls := .type "tuple", data := .seq rest.toArray }).push { cls := .ref C, data := .fields #[.ref h.objs.size, .none, .none, .none, .bool false, .none] }).get? h.objs.size =
      some { cls := .type "tuple", data := .seq rest.toArray } := Heap.get?_push_of_some _ (Heap.get?_push_at rfl rfl)
  have self : (Value.ref C :: bm).contains (.ref C) = true := by simp
  have hC1 := up _ _ hC
  unfold isInstance
  repeat (first | with_reducible refine wpAny_loadPart_at gE ?_ | (dsimp only; with_reducible refine wpAny_isSubtype_exc hC1 ?_; rw [self]) | wp_step)
  show wpAny _ _ (typeLookup (.ref C) _) _ _ _
  refine wpAny_typeLookup_tail (up _ _ hC) (hn.keeps up) (T.keeps up) F.mroIs F.init.lookup ?_
  rw [hi]
  refine wpAny_holding (wpAny_bind ?_)
  refine (PySem.W.bind_fn (X.keeps up) (.ref (h.objs.size + 1)) hf).at ?_
  refine (wpAny_bind (wpAny_mono (go _ (h.objs.size + 1) ⟨up, Heap.get?_none_of_le (Nat.le_succ _), h.objs.size, gE, Heap.get?_none_of_le (Nat.le_refl _), gT⟩) (fun r s' z => ?_) fun _ _ z => z))
  obtain ⟨rfl, z⟩ := z
  wp_walk
  exact z
theorem base_init (F : ExcBaseFacts B newId initId bmB) {rest : List Value} {t0 : Addr} {ot : Obj} {R : Result → Shared → Prop} {T0 : List Value} (Y : XCls h C fI bmB newId)
    (he : h.get? e = some { cls := .ref C, data := .fields #[.ref t0, .none, .none, .none, .bool false, .none] }) (hrest : rest.length ≤ sizeLine)
    (go : ∀ h', (∀ b o, b ≠ e → h.get? b = some o → h'.get? b = some o) → (∃ t1, h'.get? e = some { cls := .ref C, data := .fields #[.ref t1, .none, .none, .none, .bool false, .none] }) → R (.ok (.ret .none)) ⟨h', g, d, t, os⟩) :
    codeAny (model prog w) A (.call (.builtin initId) ⟨.ref e :: rest, []⟩) R ⟨h, g, d, t, os⟩ := by
  obtain ⟨nm, q, N, bs, bm, sn, sub, ab, col, dd, k0, k1, k2, k3, k5, mN, hC, hn, hi, T⟩ := Y.ex
  refine codeAny_call_builtin F.init.plain F.initEntry (wpAny_check_init_subT F T hC he rfl ?_)
  wp_walk
  refine go _ (fun b o n z => ?_) ⟨h.objs.size, ?_⟩
  · rw [Heap.get?_update_other _ _ (Ne.symm n)]
    exact Heap.get?_push_of_some _ z
  · rw [Heap.get?_update_self _ (Heap.get?_push_of_some _ he) rfl]
    rfl
end
end L2
end
section
namespace L2
open PySem PySem.Spec PySem.W PyProof.Rows PySem.Calls PySem.Builtin Builtin Builtin.ObjectAttr
theorem refuse_tail {h : Heap} {bmB bm : List Value} {self : Value} {what : Str} (T : OwnTail h bmB bm) (p : refuseLoop self what bmB = pure ()) : refuseLoop self what bm = pure () := by
  induction T with
  | base => exact p
  | own _ _ _ _ ih => rw [refuseLoop_ref]; exact ih
abbrev bare (C : Addr) (o : Option Addr) (t : Addr) : Obj := { cls := .ref C, dict := o, data := .fields #[.ref t, .none, .none, .none, .bool false, .none] }
abbrev bmV : List Value := [.type "ValueError", .type "Exception", .type "BaseException", .type "object"]
section
variable {prog : Program} {w : World} {A : Around} {E : Value → Shared → Prop} {h : Heap} {g : Array GenState} {d : Drawn} {t : Nat} {os : OsState} {K : PySem.W.Frag}
variable {C fI e t0 : Addr} {name : Str} {v : Value}
theorem own_dict {M : Model} {Q : Option Addr → Shared → Prop} {nm q : Str} {N : Addr} {bs bm : List Value} {sn : List Str} {sub : List Value} {ab : Bool} {col : Option Bool} {dd : Option Addr} {k0 k1 k2 k3 k5 : Option Value} {newId : String}
    (he : h.get? e = some (bare C none t0)) (hC : h.get? C = some (excClassObj nm q C N bs bm true sn sub ab col dd k0 k1 k2 k3 k5 newId))
    (go : ∀ h' dx, h.objs.size ≤ dx → h'.get? dx = some { cls := .type "dict", data := .dict #[] } → h'.get? e = some (bare C (some dx) t0) → (∀ b o, b ≠ e → h.get? b = some o → h'.get? b = some o) → Q (some dx) ⟨h', g, d, t, os⟩) :
    wpAny M A (ownDictForStores (.ref e)) Q E ⟨h, g, d, t, os⟩ := by
  have hne : e ≠ h.objs.size := Nat.ne_of_lt (Heap.lt_size he)
  unfold ownDictForStores instanceDict
  repeat (first | with_reducible refine wpAny_loadPart_at he ?_ | with_reducible refine wpAny_loadPart_at hC ?_ | wp_step)
  refine go _ h.objs.size (Nat.le_refl _) ((Heap.get?_update_other _ _ hne).trans (Heap.get?_push_at rfl rfl)) (Heap.get?_update_self _ (Heap.get?_push_of_some _ he) rfl) fun b o nb z => ?_
  exact (Heap.get?_update_other _ _ (Ne.symm nb)).trans (Heap.get?_push_of_some _ z)
theorem set_field {Q : Unit → Shared → Prop} (X : K.In h) (Y : XCls h C fI bmV "ValueError.__new__") (he : h.get? e = some (bare C none t0)) (ob : mroIn K C (.type "object") = some true)
    (hsa : findIn K (.ref C) "__setattr__" = some (some (.builtin "object.__setattr__"))) (hna : findIn K (.ref C) name = some none)
    (go : ∀ h' tk dx, h.objs.size ≤ dx → h'.get? e = some (bare C (some dx) t0) → h'.Ns1 dx (fun y => if y = name then some v else none) → (∀ b o, b ≠ e → h.get? b = some o → h'.get? b = some o) → Q () ⟨h', g, d, tk, os⟩) :
    wpAny (model prog w) A (setAttr (.ref e) name v) Q E ⟨h, g, d, t, os⟩ := by
  obtain ⟨nm, q, N, bs, bm, sn, sub, ab, col, dd, k0, k1, k2, k3, k5, mN, hC, hn, hi, T⟩ := Y.ex
  have SF := PySem.F.store_ValueError
  have LT : Looks (model prog w) h (typeOf (.ref e)) (.ref C) := (Looks.ld he).andThen .now
  have LS := looks_findIn (M := model prog w) X hsa
  have LN := looks_findIn (M := model prog w) X hna
  have LI : Looks (model prog w) h (isInstance (.ref e) (.type "object")) true := LT.andThen (looks_mroIn X ob)
  refine wpAny_bind (wpAny_mkText (wpAny_bind ?_))
  unfold callSpecial? specialOf
  refine wpAny_bind (wpAny_bind (LT.at (LS.at (wpAny_holding ?_))))
  rw [SF.slot.bind (.ref e)]
  refine wpAny_bind (wpAny_pure (wpAny_bind (wpAny_call (codeAny_call_builtin SF.slot.plain SF.entry (@check_slot (model prog w) _ _ ⟨h, g, d, t + 1, os⟩ _ _ _ (.ref e) [.str name t, v] [] _ SF.kind SF.split LI (SF.args _ _ _) ?_)))))
  show wpAny _ _ (Builtin.«object.__setattr__» ⟨[.ref e, .str name t, v], []⟩) _ _ _
  rw [osa_eq, refuse_eq]
  refine wpAny_bind (wpAny_bind (LT.at (wpAny_bind (wpAny_mroOf_exc hC ?_))))
  rw [refuseLoop_ref, refuse_tail T (SF.passes _)]
  refine wpAny_pure (wpAny_bind (LT.at (wpAny_bind (LN.at (wpAny_bind (wpAny_pure ?_))))))
  dsimp only
  unfold storeInOwnDict
  refine wpAny_bind (wpAny_pure (wpAny_bind ?_))
  refine own_dict he hC fun h2 dx l2 g2 e2 k2 => ?_
  have n2 : h.get? dx = none := Heap.get?_none_of_le l2
  show wpAny _ _ (storeInDict dx (.str name t) name v) _ _ _
  unfold storeInDict newKeyGuard
  refine wpAny_bind (wpAny_pure (wpAny_bind (wpAny_nsSet1 (Heap.Ns1.of_empty ⟨_, #[], _, g2, rfl, fun z hz => absurd hz (by simp), fun _ => rfl⟩) fun h3 n3 s3 => ?_)))
  obtain ⟨o4, es4, ep4, ho4, hd4, hc4⟩ := n3.count (Within.cons name v Within.nil)
  refine wpAny_bind (wpAny_lookBehind ho4 (by rw [hd4]; exact pastItsLine_dict (Nat.le_trans hc4 (by rw [List.length_cons, List.length_nil, sizeLine_eq]; omega))) ?_)
  refine wpAny_pure (wpAny_pure (wpAny_pure ?_))
  have ne : e ≠ dx := fun z => by rw [z, n2] at he; cases he
  exact go h3 _ dx l2 ((s3.2 e ne).trans e2) n3 fun b o nb z => (s3.2 b fun y => by rw [y, n2] at z; cases z).trans (k2 b o nb z)
end
end L2
end
section
namespace L2
open PySem PySem.Spec PyProof.Rows
def fieldCls (K : PySem.W.Frag) (C f D : Addr) (name : Str) : Bool :=
  withInit K C f bmV "ValueError.__new__" && PySem.W.isFn K (.ref f) && PySem.W.mroIn K C (.type "object") == some true && PySem.W.findIn K (.ref C) "__setattr__" == some (some (.builtin "object.__setattr__"))
    && PySem.W.findIn K (.ref C) name == some none && PySem.W.readsIn K D (.type "type") && PySem.W.specialIn K (.ref D) "__getattribute__" == some (some (.builtin "type.__getattribute__")) && PySem.W.keepIn K (.ref C)
    && (match PySem.W.findCls K (.ref D) (.type "type") "__init__" with | some (.val v) => v == .builtin "ValueError.__init__" | _ => false)
structure FldC (K : PySem.W.Frag) (C f D : Addr) (name : Str) : Prop where
  wi : withInit K C f bmV "ValueError.__new__" = true
  fn : PySem.W.typeIn K (.ref f) = some (.type "function")
  ob : PySem.W.mroIn K C (.type "object") = some true
  sa : PySem.W.findIn K (.ref C) "__setattr__" = some (some (.builtin "object.__setattr__"))
  na : PySem.W.findIn K (.ref C) name = some none
  rd : PySem.W.readsIn K D (.type "type") = true
  sp : PySem.W.specialIn K (.ref D) "__getattribute__" = some (some (.builtin "type.__getattribute__"))
  kp : PySem.W.keepIn K (.ref C) = true
  fi : PySem.W.findCls K (.ref D) (.type "type") "__init__" = some (.val (.builtin "ValueError.__init__"))
theorem FldC.of {K : PySem.W.Frag} {C f D : Addr} {name : Str} (h : fieldCls K C f D name = true) : FldC K C f D name := by
  unfold fieldCls PySem.W.isFn at h
  simp only [Bool.and_eq_true, beq_iff_eq] at h
  obtain ⟨⟨⟨⟨⟨⟨⟨⟨h1, h2⟩, h3⟩, h4⟩, h5⟩, h6⟩, h7⟩, h8⟩, h9⟩ := h
  refine ⟨h1, h2, h3, h4, h5, h6, h7, h8, ?_⟩
  split at h9
  · rename_i v e
    rw [e, beq_iff_eq.mp h9]
  · cases h9
theorem ext_on {P : Program} {w : World} {H : Hp} {h : Heap} {a : Addr} {C : Value} {o : Option Addr} (x : ExcOn a C o h) : ObjOk P w H h a (.ext (ExcOn a C o)) := by
  obtain ⟨t, e⟩ := x
  exact ⟨⟨t, e⟩, ⟨_, e⟩, fun h1 h2 p k => let ⟨t, e⟩ := p; ⟨t, k _ e⟩⟩
theorem upd_at {H : Hp} {a : Addr} {o : HO} (h : H a = some o) : upd H a o = H := by
  funext b
  by_cases e : b = a
  · rw [e, upd_same, h]
  · rw [upd_ne e]
section
variable {X : Cx} {pins : List (Addr × Obj)} {σ : St} {H H' : Hp} {s s' : Shared} {h' : Heap} {a b dx C D f : Addr} {o : HO} {t' : Nat} {name : Str}
theorem Inv.born (I : Inv X pins σ H s) (k : ∀ b u, s.heap.get? b = some u → h'.get? b = some u) (n : s.heap.get? a = none) (new : ObjOk X.prog X.w (upd H a o) h' a o) : Inv X pins σ (upd H a o) { s with heap := h', toks := t' } := by
  have hn : H a = none := by
    cases q : H a with
    | none => rfl
    | some u =>
      obtain ⟨v, z⟩ := (I.hok a u q).is
      rw [n] at z; cases z
  have ne : ∀ {c : Addr} {u : Obj}, s.heap.get? c = some u → c ≠ a := fun q e => by rw [e, n] at q; cases q
  have nh : ∀ {c : Addr} {u : HO}, H c = some u → upd H a o c = some u := fun q => by rw [upd_ne (ne_of_none q hn)]; exact q
  refine I.un ⟨fun c u q _ _ _ => k c u q, fun c u q _ _ _ => ⟨u.slots, k c u q⟩, fun c u q m _ => by rw [upd_ne (ne q)]; exact m, fun c u q _ => ⟨u, k c u q⟩, fun c xs q => nh q, fun c u xs q => nh q, fun c ps q => ⟨#[], by rw [nh q]; simp⟩⟩ fun c u q => ?_
  by_cases e : c = a
  · subst e; rw [upd_same] at q; cases q; exact new
  · rw [upd_ne e] at q
    exact (I.hok c u q).stay (fun x v _ z => k x v z) (fun x z => nh z) fun x xs z => nh z
theorem Inv.field {y : V} {u : Value} (I : Inv X pins σ H s) (ha : H a = some (.ext (ExcOn a (.ref C) none))) (hd : s.heap.objs.size ≤ dx) (ry : RelV y u) (he : ExcOn a (.ref C) (some dx) h') (hn : h'.Ns1 dx fun x => if x = name then some u else none)
    (k : ∀ b o, b ≠ a → s.heap.get? b = some o → h'.get? b = some o) : Inv X pins σ (upd (upd H dx (.xd [(name, y)])) a (.ext (ExcOn a (.ref C) (some dx)))) { s with heap := h', toks := t' } := by
  have hdn := I.hok.fresh hd
  have nd : ∀ {c : Addr} {v : Obj}, s.heap.get? c = some v → c ≠ dx := fun q => Nat.ne_of_lt (Nat.lt_of_lt_of_le (Heap.lt_size q) hd)
  have na : ∀ {c : Addr} {v : HO}, H c = some v → (∀ φ, v ≠ .ext φ) → c ≠ a := fun {c v} q n e => by
    rw [e, ha] at q
    cases q
    exact n _ rfl
  have nh : ∀ {c : Addr} {v : HO}, H c = some v → (∀ φ, v ≠ .ext φ) → upd (upd H dx (.xd [(name, y)])) a (.ext (ExcOn a (.ref C) (some dx))) c = some v := fun q n => by
    rw [upd_ne (na q n), upd_ne (ne_of_none q hdn)]; exact q
  have nn : ∀ {c : Addr}, H c = none → c ≠ a := fun m e => by rw [e, ha] at m; cases m
  refine I.un ⟨fun c v q m _ _ => k c v (nn m) q, fun c v q m _ _ => ⟨v.slots, k c v (nn m) q⟩, fun c v q m _ => by rw [upd_ne (nn m), upd_ne (nd q)]; exact m, fun c v q _ => ?_, fun c xs q => nh q fun φ z => (by cases z), fun c v xs q => nh q fun φ z => (by cases z),
    fun c ps q => ⟨#[], by rw [nh q fun φ z => (by cases z)]; simp⟩⟩ fun c v q => ?_
  · by_cases e : c = a
    · subst e; obtain ⟨t, z⟩ := he; exact ⟨_, z⟩
    · exact ⟨v, k c v e q⟩
  · by_cases e : c = a
    · subst e; rw [upd_same] at q; cases q; exact ext_on he
    · rw [upd_ne e] at q
      by_cases e2 : c = dx
      · subst e2
        rw [upd_same] at q
        cases q
        refine ⟨_, hn, fun g => ?_⟩
        by_cases eg : g = name
        · subst eg
          rw [if_pos rfl, List.lookup_cons, beq_self_eq_true]
          exact ry
        · rw [if_neg eg, List.lookup_cons, beq_eq_false_iff_ne.mpr eg]
          exact trivial
      · rw [upd_ne e2] at q
        refine (I.hok c v q).stay (fun x w hx z => k x w ?_ z) (fun x z => nh z fun φ z => (by cases z)) fun x xs z => nh z fun φ z => (by cases z)
        rcases hx with rfl | hx
        · exact e
        · exact na hx fun φ z => (by cases z)
def tBaseInit (C : Addr) (t : TA) : TE := fun σ H Q => t σ H fun vs H1 => ∃ a r, vs = .ref a :: r ∧ r.length ≤ 1000 ∧ H1 a = some (.ext (ExcOn a (.ref C) none)) ∧ Q .non H1
theorem pe_baseInit {x : Str} {p apos pos : Pos} {e : Expr} {es : List Expr} {t : TA} {pl : Sem Bool} (T : FldC X.K C f D name) (hg : Gl X x) (hm : X.mg x = some (.ref D)) (ha : PA X (e :: es) t) (hdb : (x == ("__debug__" : Str)) = false := by decide)
    (hst : starEach (e :: es) X.env = (false, eval e X.env) :: starEach es X.env := by rfl) (hpl : (backTo pos (starEach es X.env)).any (·.1) = false := by rfl)
    (ht : eval (.Call (.Attribute (.Name x p) "__init__" apos) (e :: es) [] pos) X.env = (do
      let ov ← eval (.Name x p) X.env
      standAt apos.atName
      let (f, first) ← holding [ov] (getMethod ov "__init__" pl)
      callWith pos f first (backTo pos (starEach (e :: es) X.env)) (backToKw pos (keywordEach [] X.env))) := by rfl) :
    PE X (.Call (.Attribute (.Name x p) "__init__" apos) (e :: es) [] pos) (tBaseInit C t) := by
  intro pins s σ H Q I h
  refine PySem.W.methodCall_KW (pl := pl) (ld_glob I hg hm ?_ hdb) ht
  refine PySem.W.method_cls I.kIn T.sp (PySem.W.cls_value I.kIn T.rd T.fi rfl ?_)
  refine PyProof.Rows.callWith_builtin1 (thn (ha pos pins _ σ H _ (I.tok _) h) fun us s1 ⟨vs, H1, I1, r1, a, r, ev, hl, hH, q⟩ => ?_) hst hpl
  subst ev
  cases r1 with
  | cons ra rr =>
    obtain rfl := (show _ = Value.ref a from ra)
    obtain ⟨⟨t0, he⟩, _, _⟩ := I1.hok a _ hH
    obtain ⟨hh, g, d, tk, os'⟩ := s1
    refine wpAny_call (base_init (ot := default) (T0 := []) PySem.F.excBase_ValueError (xcls_of I1.kIn T.wi) he (by rw [← Vals.length rr]; exact Nat.le_of_lt (small1000 hl)) fun h' k ⟨t1, e1⟩ => ?_)
    have I2 := I1.write (x := a) (e := a) (o := .ext (ExcOn a (.ref C) none)) (h' := h') (t' := tk) (by rw [hH]; exact trivial) (.inl rfl) (fun b u nb z => k b u nb z) ⟨_, e1⟩ (ext_on ⟨t1, e1⟩)
    rw [upd_at hH] at I2
    exact ⟨.non, H1, I2, rfl, q⟩
def sFldX (C : Addr) (name : Str) (ta tv : TE) : TS := fun D σ H => tv σ H fun y H1 => ta σ H1 fun x H2 => ∃ a, x = .ref a ∧ H2 a = some (.ext (ExcOn a (.ref C) none)) ∧ ∀ dx, H2 dx = none → dx ≠ a → D.nx σ (upd (upd H2 dx (.xd [(name, y)])) a (.ext (ExcOn a (.ref C) (some dx))))
theorem ps_fldX {o value : Expr} {ta tv : TE} {pos' pos : Pos} (T : FldC X.K C f D name) (ha : PE X o ta) (hv : PE X value tv) (hs : swapsWith value (some (.Attribute o name pos')) pos.line X.env = pure false := by rfl) :
    PS X (.Assign [.Attribute o name pos'] value pos) (sFldX C name ta tv) := by
  intro pins s σ H D' I h
  refine plainObj_wpAny_Assign_Attribute (thn (hv pins s σ H _ I h) fun u s1 ⟨y, H1, I1, ry, q⟩ => thn (ha pins s1 σ H1 _ I1 q) fun ov s2 ⟨x, H2, I2, rx, a, ex, hH, q2⟩ => ?_) hs
  subst ex
  obtain rfl : ov = Value.ref a := rx
  obtain ⟨⟨t0, he⟩, _, _⟩ := I2.hok a _ hH
  obtain ⟨hh, g, d, tk, os'⟩ := s2
  refine set_field (K := X.K) (t0 := t0) I2.kIn (xcls_of I2.kIn T.wi) he T.ob T.sa T.na fun h' tk' dx hd e1 hn k => ?_
  refine ⟨σ, _, I2.field hH hd ry ⟨t0, e1⟩ hn k, q2 dx (I2.hok.fresh hd) ?_⟩
  rintro rfl
  exact absurd (Heap.lt_size he) (Nat.not_lt.mpr hd)
def spInit (C : Addr) (name : Str) : Sp := fun vs H Q _ => ∃ a y, vs = [.ref a, y] ∧ H a = some (.ext (ExcOn a (.ref C) none)) ∧ ∀ dx, H dx = none → dx ≠ a → Q .non (upd (upd H dx (.xd [(name, y)])) a (.ext (ExcOn a (.ref C) (some dx))))
end
end L2
end
section
namespace L2
open PySem PySem.Spec PyProof.Rows
section
variable {M : Model} {A : Around} {E : Value → Shared → Prop} {s : Shared} {C e : Addr}
theorem raise_obj {env : Env} {x : Sem Value} {Q : Flow → Shared → Prop} {bmB : List Value} {newId B initId : String} {f : Addr} (F : ExcBaseFacts B newId initId bmB) (hh : A.handled = none)
    (h : wpAny M A x (fun v s1 => ∃ a o t, v = .ref a ∧ XCls s1.heap C f bmB newId ∧ s1.heap.get? a = some (bare C o t) ∧ E (.ref a) s1) E s) : wpAny M A (raiseStmt env (some x) none) Q E s := by
  unfold raiseStmt
  refine wpAny_bind (wpAny_mono h (fun v s1 z => ?_) fun _ _ z => z)
  obtain ⟨a, o, t, rfl, Y, he, hE⟩ := z
  obtain ⟨nm, q, N, bs, bm, sn, sub, ab, col, dd, k0, k1, k2, k3, k5, mN, hC, hn, hi, T⟩ := Y.ex
  have base : (Value.ref C :: bm).contains (.type "BaseException") = true := by rw [List.contains_cons, T.hasType F.hasBase, Bool.or_true]
  obtain ⟨hp, g, d, tk, os⟩ := s1
  repeat (first | with_reducible refine wpAny_loadPart_at he ?_ | with_reducible refine wpAny_loadPart_at hC ?_ | (with_reducible refine wpAny_isSubtype_exc hC ?_; rw [base]) | wp_step)
  exact wpAny_raiseNew_none hh hE
end
section
variable {X : Cx} {pins : List (Addr × Obj)} {σ : St} {H H' : Hp} {s s' : Shared} {C D f : Addr} {name : Str} {k : Nat} {fd : FuncData} {ps : List Str}
theorem run_makeF {Q : Value → Shared → Prop} {y : V} {u : Value} (T : FldC X.K C f D name) (F : FnOk X.prog X.w X.K X.mg X.base CX0 k f fd ps (spInit C name)) (hr : Room (k + 1) X.A) (hb : Binds X.K fd ps []) (I : Inv X pins σ H s) (r : RelV y u)
    (h : ∀ a dx s', s.heap.get? a = none → H a = none → H dx = none → dx ≠ a → Inv X pins σ (upd (upd H dx (.xd [(name, y)])) a (.ext (ExcOn a (.ref C) (some dx)))) s' → Q (.ref a) s') : wpAny (model X.prog X.w) X.A (call (.ref C) [u]) Q X.xe s := by
  obtain ⟨hh, g, d, tk, os⟩ := s
  refine make_exc PySem.F.excBase_ValueError I.kIn (xcls_of I.kIn T.wi) T.fn (show 1 ≤ sizeLine by decide) fun h' e hm => ?_
  obtain ⟨t0, he, _, _⟩ := hm.there
  have hn : H e = none := by
    cases q : H e with
    | none => rfl
    | some u =>
      obtain ⟨v, z⟩ := (I.hok e u q).is
      rw [hm.new] at z; cases z
  have I2 := I.born (a := e) (o := .ext (ExcOn e (.ref C) none)) (h' := h') (t' := tk) hm.keeps hm.new (ext_on ⟨t0, he⟩)
  have r2 : Vals [V.ref e, y] [Value.ref e, u] := .cons rfl (.cons r .nil)
  have sp : spInit C name [V.ref e, y] (upd H e (.ext (ExcOn e (.ref C) none))) (fun v H2 => v = .non ∧ ∃ dx, upd H e (.ext (ExcOn e (.ref C) none)) dx = none ∧ dx ≠ e ∧ H2 = upd (upd (upd H e (.ext (ExcOn e (.ref C) none))) dx (.xd [(name, y)])) e (.ext (ExcOn e (.ref C) (some dx)))) E0 :=
    ⟨e, y, rfl, upd_same, fun dx h1 h2 => ⟨rfl, dx, h1, h2, rfl⟩⟩
  have hl : [Value.ref e, u].length = ps.length := by
    rw [← Vals.length r2]
    exact F.len _ _ _ _ sp
  have b2 := hb { heap := h', gens := g, drawn := d, toks := tk, os := os } [.ref e, u] I2.kIn (by rw [List.append_nil]; exact hl)
  rw [List.append_nil] at b2
  refine wpAny_call (codeAny_mono (F.run _ X.stack _ _ ⟨[Value.ref e, u], []⟩ [Value.ref e, u] _ _ E0 (hr.make C [u] []) (I2.env0.make C [u] []) b2 r2 sp) fun res s' z => ?_)
  cases res with
  | error e => exact False.elim z
  | ok fl =>
    cases fl with
    | ret v =>
      obtain ⟨v', H3, I3, rv, ev, dx, n1, n2, eH⟩ := I2.after z
      subst ev
      refine ⟨rv, h e dx s' hm.new hn ?_ n2 ?_⟩
      · rw [upd_ne n2] at n1; exact n1
      · rw [eH] at I3
        have eu : upd (upd (upd H e (.ext (ExcOn e (.ref C) none))) dx (.xd [(name, y)])) e (.ext (ExcOn e (.ref C) (some dx))) = upd (upd H dx (.xd [(name, y)])) e (.ext (ExcOn e (.ref C) (some dx))) := by
          funext b
          by_cases e1 : b = e
          · rw [e1, upd_same, upd_same]
          · rw [upd_ne e1, upd_ne e1]
            by_cases e2 : b = dx
            · rw [e2, upd_same, upd_same]
            · rw [upd_ne e2, upd_ne e2, upd_ne e1]
        rw [eu] at I3
        exact I3
    | next => exact False.elim z
    | brk => exact False.elim z
    | cont => exact False.elim z
def tRaiseF (C : Addr) (name : Str) (E : XK) (t : TA) : TS := fun _ σ H => t σ H fun vs H1 => ∃ y, vs = [y] ∧ ∀ dx, H1 dx = none → E (.ref C) (some dx) (upd H1 dx (.xd [(name, y)]))
theorem ps_raiseF {x : Str} {e0 : Expr} {t : TA} {np cpos pos : Pos} {E : XK} (T : FldC X.K C f D name) (F : FnOk X.prog X.w X.K X.mg X.base CX0 k f fd ps (spInit C name)) (hr : Room (k + 1) X.A) (hb : Binds X.K fd ps [])
    (hxe : ∀ e s', wpAny (model X.prog X.w) X.A (leaving X.env e) (fun _ s'' => CXf X.prog X.w X.outer X.H₀ X.s₀ E e s'') (fun _ _ => False) s' → X.xe e s')
    (hst : X.stack = X.env :: X.outer) (hf : X.env.frame = some X.env.locals) (hex : X.ex = []) (hc : X.calm = true) (hg : Gl X x) (hm : X.mg x = some (.ref C)) (ha : PA X [e0] t)
    (hse : starEach [e0] X.env = (false, eval e0 X.env) :: starEach [] X.env := by rfl) (hpl : (backTo cpos (starEach [] X.env)).any (·.1) = false := by rfl) (hd : (x == ("__debug__" : Str)) = false := by decide) :
    PS X (.Raise (some (.Call (.Name x np) [e0] [] cpos)) none pos) (tRaiseF C name E t) := by
  intro pins s σ H D' I h
  rw [arm_exec_Raise]
  refine wpAny_bind (wpAny_standAt ?_)
  show wpAny _ _ (raiseStmt X.env (some (do let v ← eval (.Call (.Name x np) [e0] [] cpos) X.env; standAt pos; pure v)) none) _ _ _
  refine raise_obj (C := C) (f := f) PySem.F.excBase_ValueError (I.ok.hd hc) (wpAny_bind ?_)
  refine wpAny_Call_Name_kw (ld_glob I hg hm ?_ hd)
  refine PySem.W.callWith_K (h₀ := X.base) I.ok.mod.kin T.kp (thn (ha cpos pins s σ H _ I h) fun us s1 ⟨vs, H1, I1, r, y, ev, q⟩ => ⟨I1.kIn, ?_⟩) hse hpl
  subst ev
  cases r with
  | cons ry rn =>
    cases rn
    refine run_makeF T F hr hb I1 ry fun a dx s2 n1 n2 n3 n4 I2 => wpAny_bind (wpAny_standAt (wpAny_pure ?_))
    have hH : upd (upd H1 dx (.xd [(name, y)])) a (.ext (ExcOn a (.ref C) (some dx))) a = some (.ext (ExcOn a (.ref C) (some dx))) := upd_same
    obtain ⟨⟨t0, he⟩, _, _⟩ := I2.hok a _ hH
    refine ⟨a, some dx, t0, rfl, xcls_of I2.kIn T.wi, he, hxe _ _ ?_⟩
    have hnew : X.s₀.heap.get? a = none := by
      cases z : X.s₀.heap.get? a with
      | none => rfl
      | some o =>
        obtain ⟨o1, z1⟩ := I1.base.there a o z (by rw [hex]; simp)
        rw [n1] at z1; cases z1
    have ed : drp (upd (upd H1 dx (.xd [(name, y)])) a (.ext (ExcOn a (.ref C) (some dx)))) a = upd H1 dx (.xd [(name, y)]) := by
      funext b
      by_cases e1 : b = a
      · rw [e1, drp_same, upd_ne (Ne.symm n4), n2]
      · rw [drp_ne e1, upd_ne e1]
    have L := leave_newF (E := fun _ _ => False) I2 hst hf hex hH hnew
    rw [ed] at L
    exact wpAny_mono L (fun _ s'' z => ⟨a, .ref C, some dx, _, rfl, z.1, z.2, q dx n3⟩) fun _ _ z => z
theorem raise_xf {P : Program} {w : World} {K : PySem.W.Frag} {mg : Str → Option Value} {base : Heap} {N : List Str} {qual : Str} {scope : Scope} {f : Addr} {cd : Value} {A : Around} {outer : List Env} {s : Shared} {H : Hp} {E : XK} :
    ∀ e s', wpAny (model P w) (cxOf (CXf P w) P w K mg base N qual scope f cd A outer s H E).A (leaving (cxOf (CXf P w) P w K mg base N qual scope f cd A outer s H E).env e) (fun _ s'' => CXf P w outer H s E e s'') (fun _ _ => False) s' →
      (cxOf (CXf P w) P w K mg base N qual scope f cd A outer s H E).xe e s' := fun e s' h => wpAny_mono h (fun _ _ y => y) fun _ _ z => z.elim
theorem Fun.okF {P : Program} {w : World} {K : PySem.W.Frag} {mg : Str → Option Value} {base : Heap} {x qual : Str} {st : Stmt} {f : Addr} {fd : FuncData} {N ps : List Str} {k : Nat} {sp : Sp} (F : Fun K x qual st f fd) (S : FnScope N ps (defScope st)) (len : ∀ vs H Q E, sp vs H Q E → vs.length = ps.length)
    (hbody : ∀ (cdv : Value) (A : Around) (outer : List Env) (s : Shared) (H : Hp) (vs : List V) (Q : VK) (E : XK), Room k (A.deeper (envOfC qual (defScope st) s.heap.objs.size f cdv)) → sp vs H Q E →
      ∃ t, PSs (cxOf (CXf P w) P w K mg base N qual (defScope st) f cdv A outer s H E) (defBody st) t ∧ t { nx := fun _ H' => Q .non H', rt := Q } (start N vs) H) : FnOk P w K mg base (CXf P w) (k + 1) f fd ps sp := by
  obtain ⟨oc, od, kV, doc, pm, an, cdv, ct, osl, rfl, lk, hcd⟩ := F.ex
  exact fn_of lk hcd S len fun A outer s H vs Q E hr hsp => hbody cdv A outer s H vs Q E hr hsp
end
end L2
end
section
namespace L2
open PySem PySem.Spec PyProof.Rows
def ExcAt (a : Addr) (C : Value) (o : Option Addr) (h : Heap) : Prop := ∃ u, h.get? a = some u ∧ u.cls = C ∧ fld2 u = some .none ∧ ∀ dx, o = some dx → u.dict = some dx
section
variable {X : Cx} {pins : List (Addr × Obj)} {σ : St} {H H1 H2 : Hp} {s s1 s2 : Shared} {a C0 : Addr} {C : Value} {o : Option Addr} {i j : Nat} {n hx : Str} {b0 : Stmt} {suite : List Stmt} {hp hpos : Pos} {ts : TS} {D : Ends}
theorem landF (I : Inv X pins σ H1 s1) (x : XLie X.prog X.w X.stack H1 s1 a C H2 s2) (dc : Dct a o s2.heap) (hst : X.stack = X.env :: X.outer) (hf : X.env.frame = some X.env.locals) (hN : X.N.Nodup) (hj : X.N[j]? = some n) (hn : X.env.scope.names.lookup n = some .local)
    (hg : Gl X hx) (hm : X.mg hx = some (.ref C0)) (hit : PySem.W.exmOne X.K C (.ref C0) = some true) (hs : PSs (X.marked (.ref a)) (b0 :: suite) ts) (h : ts (endsTry D j) (σ.set j (some (.ref a))) (upd H2 a (.ext (ExcAt a C o))))
    (hd : (hx == ("__debug__" : Str)) = false := by decide) :
    wpAny (model X.prog X.w) X.A (noteFrame (.ref a) X.env) (fun _ t2 => wpAny (model X.prog X.w) X.A (setFlight (.ref a) none) (fun _ t3 =>
      wpAny (model X.prog X.w) X.A (handleBy (.ref a) X.env [.ExceptHandler (some (.Name hx hp)) (some n) (b0 :: suite) hpos]) (SP X pins D) X.xe t3) X.xe t2) X.xe s2 := by
  obtain ⟨B, a0, fl, dom, trk⟩ := x.fly
  have fl0 := fl
  rw [hst] at fl0
  refine wp_kd (kd_note _ _) (wpAny_looks_onW (by rw [I.ok.frames, hst]) hf fl0 (Q := fun _ s' => ∃ h4, s' = { s2 with heap := h4 } ∧ Heap.HeldW B (X.env :: X.outer) a C a0 X.env.locals h4 ∧ s2.heap.UpToSlots h4) fun h4 held up4 => ⟨h4, rfl, held, up4⟩) ?_
  rintro _ _ ⟨h4, rfl, held, up4⟩ kd4
  refine wp_kd (kd_flight _ _) (wpAny_landsW held (Q := fun _ s' => ∃ h5, s' = { s2 with heap := h5 } ∧ Heap.FlyingW B (X.env :: X.outer) a C a0 h5 ∧ h4.UpToSlots h5) fun h5 fl5 up5 => ⟨h5, rfl, fl5, up5⟩) ?_
  rintro _ _ ⟨h5, rfl, fl5, up5⟩ kd5
  have mv : ∀ {hh : Heap}, B.StaysIn hh → s2.heap.UpToSlots hh → Un (frs X.stack) [] H1 H2 s1.heap hh ∧ HOk X.prog X.w H2 hh := fun st up => x.move fl dom trk st up
  have I5 : Inv X pins σ H2 { s2 with heap := h5 } := I.call' (s' := { s2 with heap := h5 }) x.os (mv fl5.1 (up4.trans up5)).1 (mv fl5.1 (up4.trans up5)).2 x.bare (fun b z => absurd z (by simp))
  refine wpAny_handleBy_cons (codeAny_handlers_test (ld_glob (X := X.marked (.ref a)) (I5.marked (.ref a)) hg hm ?_ hd)) (by intro q; cases q)
  obtain ⟨ob, hob, hoc⟩ := fl5.there
  have LT : PySem.W.Looks (model X.prog X.w) h5 (typeOf (.ref a)) C := by
    subst hoc
    exact (PySem.W.Looks.ld hob).andThen .now
  refine (PySem.W.exm_one I5.kIn LT hit).at (codeAny_handlers_suite_as ?_)
  refine wp_kd (kd_flight _ _) (lands_againW fl5 (Q := fun _ s' => ∃ h6, s' = { s2 with heap := h6 } ∧ Heap.FlyingW B (X.env :: X.outer) a C a0 h6 ∧ h5.UpToSlots h6) fun h6 fl6 up6 => ⟨h6, rfl, fl6, up6⟩) ?_
  rintro _ _ ⟨h6, rfl, fl6, up6⟩ kd6
  obtain ⟨un, ok⟩ := mv fl6.1 ((up4.trans up5).trans up6)
  have fr6 : H2 a = none := x.free
  have ne : ∀ {b : Addr} {u : HO}, H2 b = some u → upd H2 a (.ext (ExcAt a C o)) b = some u := fun {b u} e => by
    rw [upd_ne fun z => by rw [z, fr6] at e; cases e]
    exact e
  have here : ExcAt a C o h6 := by
    obtain ⟨u, h1, h2⟩ := fl6.there
    obtain ⟨v, z1, z2, z3⟩ := ((dc.kd kd4).kd kd5).kd kd6
    rw [h1] at z1
    cases z1
    exact ⟨u, h1, h2, z2, z3⟩
  have I7 : Inv X pins σ (upd H2 a (.ext (ExcAt a C o))) { s2 with heap := h6 } := by
    refine I.call' (s' := { s2 with heap := h6 }) x.os ⟨un.keep, un.slot, fun b u q m z => ?_, un.there, fun b xs q => ne (un.tups b xs q), fun b u v q => ne (un.frzs b u v q), fun b ps q => ?_⟩ (fun b u e => ?_) x.bare (fun b z => absurd z (by simp))
    · rw [upd_ne fun e => by rw [e, x.new] at q; cases q]
      exact un.free b u q m z
    · obtain ⟨more, q2⟩ := un.tbls b ps q
      exact ⟨more, ne q2⟩
    · by_cases hb : b = a
      · subst hb
        rw [upd_same] at e
        cases e
        obtain ⟨u, z⟩ := here
        exact ⟨⟨u, z⟩, ⟨u, z.1⟩, fun g1 g2 p k => let ⟨v, q1, q2⟩ := p; ⟨v, k v q1, q2⟩⟩
      · rw [upd_ne hb] at e
        exact (ok b u e).stay (fun c v _ q => q) (fun c q => ne q) fun c xs q => ne q
  refine store_ok (X := X.marked (.ref a)) (v := .ref a) (I7.marked _) hN hj (.inl hn) rfl (fun s8 I8 => ?_) (.inr hn)
  refine wpAny_mono (hs pins s8 _ _ (endsTry D j) I8 h) (fun f s9 q => ?_) fun _ _ z => z.elim
  show wpAny (model X.prog X.w) X.A (do bindName X.env n .none; unbindBehindTheSuite X.env n hpos) (fun _ t => SP X pins D f t) X.xe s9
  cases f with
  | next =>
    obtain ⟨σ', H', I9, q9⟩ := q
    exact end_as (I9.unmarked I.ok) hN hj hn fun s' I' => ⟨_, H', I', q9⟩
  | brk =>
    obtain ⟨σ', H', I9, q9⟩ := q
    exact end_as (I9.unmarked I.ok) hN hj hn fun s' I' => ⟨_, H', I', q9⟩
  | cont =>
    obtain ⟨σ', H', I9, q9⟩ := q
    exact end_as (I9.unmarked I.ok) hN hj hn fun s' I' => ⟨_, H', I', q9⟩
  | ret u =>
    obtain ⟨v, σ', H', I9, r9, q9⟩ := q
    exact end_as (I9.unmarked I.ok) hN hj hn fun s' I' => ⟨v, _, H', I', r9, q9⟩
end
end L2
end
section
namespace L2
open PySem PySem.Spec PySem.W PyProof.Rows PySem.Calls PySem.Builtin Builtin Builtin.ObjectAttr Builtin.Getset_descriptor
section
variable {prog : Program} {w : World} {A : Around} {E : Value → Shared → Prop} {s : Shared} {K : PySem.W.Frag} {a C f dx : Addr} {name : Str} {v : Value}
theorem exc_attr {Q : Value → Shared → Prop} {o : Option Addr} {m : Str → Option Value} (X : K.In s.heap) (Y : XCls s.heap C f bmV "ValueError.__new__") (I : ExcAt a (.ref C) (some dx) s.heap) (Wy : ExcWays K C) (na : findIn K (.ref C) name = some none) (hn : s.heap.Ns1 dx m) (hm : m name = some v) (hh : handedIn v = true)
    (h : Q v { s with toks := s.toks + 1 }) : wpAny (model prog w) A (getAttr (.ref a) name true) Q E s := by
  obtain ⟨u, hu, hc, hnc, hd⟩ := I
  have II : ExcIs a C s.heap := ⟨u, hu, hc⟩
  obtain ⟨nm, q, N, bs, bm, sn, sub, ab, col, dd, k0, k1, k2, k3, k5, mN, hC, hN, hi, T⟩ := Y.ex
  obtain ⟨hh', g, d, t, os⟩ := s
  have L0 := exc_type (M := model prog w) II
  have L1 := looks_findIn (M := model prog w) X Wy.ga
  have L2 := looks_findIn (M := model prog w) X Wy.gt
  have L3 := looks_findIn (M := model prog w) X na
  unfold getAttr getAttrBy
  refine wpAny_bind (wpAny_mkText (wpAny_holding (wpAny_bind (L0.at (wpAny_bind (L1.at ?_))))))
  dsimp only
  rw [if_neg (by
    have z : (Value.builtin "BaseException.__getattribute__" == Value.builtin "object.__getattribute__") = false := by decide +kernel
    rw [z, Bool.and_false]
    exact Bool.false_ne_true)]
  unfold getAttrByItsOwn hookBefore
  rw [if_pos (show onTheHeap (Value.ref C) = true from rfl)]
  refine wpAny_bind (L2.at (wpAny_bind (wpAny_attempt (wpAny_holding ?_))))
  unfold callGetattribute
  rw [if_neg (show ¬ (true && onTheHeap (Value.builtin "BaseException.__getattribute__")) = true by decide)]
  unfold boundAndCalled
  rw [PySem.F.excAttr_ValueError.ga.bind (.ref a)]
  refine wpAny_bind (wpAny_pure ?_)
  dsimp only
  refine wpAny_call (codeAny_call_builtin PySem.F.excAttr_ValueError.ga.plain PySem.F.entry_bexc_ga (check_ga (K := K) (C := C) X II Wy ?_))
  unfold Builtin.«object.__getattribute__»
  refine wpAny_bind (wpAny_of_eq (a := (Value.ref a, [Value.str name t])) rfl ?_)
  dsimp only
  refine wpAny_bind (wpAny_of_eq (a := name) rfl ?_)
  refine wpAny_bind (L0.at (wpAny_bind ?_))
  unfold find
  refine wpAny_bind (L3.at (wpAny_bind (wpAny_pure (wpAny_bind (wpAny_pure ?_)))))
  dsimp only
  unfold ownThenClass
  refine wpAny_bind ?_
  have own : wpAny (model prog w) A.in1 (inOwnDict name (.ref a)) (fun r s' => r = some v ∧ s' = ⟨hh', g, d, t + 1, os⟩) (fun _ _ => False) ⟨hh', g, d, t + 1, os⟩ := by
    unfold inOwnDict ObjectAttr.ownDict loadHead
    refine wpAny_bind (wpAny_bind (wpAny_loadPart_at hu ?_))
    have go : wpAny (model prog w) A.in1 (instanceDict a false) (fun r s' => wpAny (model prog w) A.in1 (inDict name r) (fun r s' => r = some v ∧ s' = ⟨hh', g, d, t + 1, os⟩) (fun _ _ => False) s') (fun _ _ => False) ⟨hh', g, d, t + 1, os⟩ := by
      unfold instanceDict
      refine wpAny_bind (wpAny_loadPart_at hu ?_)
      rw [hc, hd dx rfl]
      refine wpAny_bind (wpAny_bind (wpAny_loadPart_at hC (wpAny_pure ?_)))
      dsimp only
      refine wpAny_pure (wpAny_nsGet hn.ns ?_)
      exact ⟨hm, rfl⟩
    cases q : u.data with
    | cls c => rw [fld2, q] at hnc; cases hnc
    | _ => exact go
  refine wpAny_mono own (fun r s' z => ?_) fun _ _ z => z.elim
  obtain ⟨rfl, rfl⟩ := z
  dsimp only
  refine wpAny_bind (wpAny_rule (wpAny_pure ?_))
  dsimp only
  refine wpAny_pure ?_
  show wpAny _ _ (handedOut v) _ _ _
  rw [handedOut_of hh]
  exact wpAny_pure h
end
theorem exc_is {h : Heap} {a C : Addr} {o : Option Addr} (x : ExcAt a (.ref C) o h) : ExcIs a C h := let ⟨u, h1, h2, _⟩ := x; ⟨u, h1, h2⟩
def rIsF (K : PySem.W.Frag) : List V → Hp → VK → Prop := fun xs H Q => ∃ a C o c b, xs = [.ref a, c] ∧ H a = some (.ext (ExcAt a (.ref C) o)) ∧ ExcWays K C ∧ ((∃ n, c = .ty n ∧ PySem.W.kitOne K (.ref C) (.type n) = some b) ∨ ∃ D, c = .ref D ∧ PySem.W.kitOne K (.ref C) (.ref D) = some b) ∧ Q (.bl b) H
theorem call_isF {X : Cx} {K : PySem.W.Frag} (hK : X.K = K) : CallR X (.builtin "isinstance") (rIsF K) := by
  subst hK
  intro pins s σ H xs us Q I r h
  obtain ⟨a, C, o, c, b, rfl, hH, Wy, hc, q⟩ := h
  obtain ⟨u, w', rfl, rx, rn⟩ := vals2 r
  cases rx
  have hI : ExcIs a C s.heap := exc_is (I.hok a _ hH).1
  rcases hc with ⟨n, rfl, hk⟩ | ⟨D, rfl, hk⟩ <;> cases rn <;> exact PySem.W.kia_one (kitx_exc Wy) I.kIn hI hk (fun z => nomatch z) fun tk => ⟨.bl b, H, I.tok tk, rfl, q⟩
def tXFld (K : PySem.W.Frag) (name : Str) (ta : TE) : TE := fun σ H Q => ta σ H fun x H1 => ∃ a C f D dx y, x = .ref a ∧ FldC K C f D name ∧ ExcWays K C ∧ H1 a = some (.ext (ExcAt a (.ref C) (some dx))) ∧ H1 dx = some (.xd [(name, y)]) ∧ Q y H1
theorem relv_handed {y : V} {u : Value} (r : RelV y u) : handedIn u = true := by
  cases y <;> first | (cases r; rfl) | (obtain ⟨t, rfl⟩ := r; rfl)
theorem pe_excFld {X : Cx} {K : PySem.W.Frag} {e : Expr} {ta : TE} {name : Str} {pos : Pos} (hK : X.K = K) (he : PE X e ta) (hb : attributeBase e name X.env (eval e X.env) = eval e X.env := by rfl) : PE X (.Attribute e name pos) (tXFld K name ta) := by
  subst hK
  intro pins s σ H Q I h
  refine attr_of hb (thn (he pins s σ H _ I h) fun u s1 ⟨x, H1, I1, rx, a, C, f, D, dx, y, ex, T, Wy, hH, hD, q⟩ => ?_)
  subst ex
  obtain rfl : u = Value.ref a := rx
  obtain ⟨m, hn, hm⟩ := I1.hok dx _ hD
  have hy := hm name
  rw [List.lookup_cons, beq_self_eq_true] at hy
  cases z : m name with
  | none => rw [z] at hy; exact hy.elim
  | some u =>
    rw [z] at hy
    have ry : RelV y u := hy
    exact exc_attr (o := none) I1.kIn (xcls_of I1.kIn T.wi) (I1.hok a _ hH).1 Wy T.na hn z (relv_handed ry) ⟨y, H1, I1.tok _, ry, q⟩
def PBy (X : Cx) (body : List Stmt) (tb : XK → TS) : Prop := ∀ (pins : List (Addr × Obj)) (s : Shared) (σ : St) (H : Hp) (D : Ends) (E : XK), Inv X pins σ H s → tb E D σ H →
  wpAny (model X.prog X.w) X.A (execs body X.env) (SP X pins D) (fun e s' => ∃ H1 s1, Inv X pins σ H1 s1 ∧ CXf X.prog X.w X.stack H1 s1 E e s') s
section
variable {X : Cx} {k : Nat} {f : Addr} {fd : FuncData} {ps : List Str} {sp : Sp} {t : TA} {fx y : Str} {e0 : Expr} {es : List Expr} {p py cpos spos pos : Pos} {rest : List Stmt} {tr : TS} {i : Nat}
def tTryF (K : PySem.W.Frag) (C0 : Addr) (tb : XK → TS) (j : Nat) (ts : Addr → TS) : TS := fun D σ H => tb (fun C o H2 => PySem.W.exmOne K C (.ref C0) = some true ∧ ∀ a, H2 a = none → ts a (endsTry D j) (σ.set j (some (.ref a))) (upd H2 a (.ext (ExcAt a C o)))) D σ H
theorem ps_tryF {body suite : List Stmt} {tb : XK → TS} {b0 : Stmt} {hx n : Str} {hp hpos : Pos} {C0 : Addr} {j : Nat} {tss : Addr → TS} (hB : PBy X body tb) (hN : X.N.Nodup) (hst : X.stack = X.env :: X.outer) (hf : X.env.frame = some X.env.locals) (hj : X.N[j]? = some n) (hn : X.env.scope.names.lookup n = some .local)
    (hg : Gl X hx) (hm : X.mg hx = some (.ref C0)) (hs : ∀ a, PSs (X.marked (.ref a)) (b0 :: suite) (tss a)) (hd : (hx == ("__debug__" : Str)) = false := by decide) :
    PS X (.Try body [.ExceptHandler (some (.Name hx hp)) (some n) (b0 :: suite) hpos] [] [] pos) (tTryF X.K C0 tb j tss) := by
  intro pins s σ H D I h
  refine wpAny_Try_except (wpAny_mono (hB pins s σ H D _ I h) (fun fl s1 z => ?_) fun e s' z => ?_)
  · cases fl with
    | next => exact wpAny_execs_nil z
    | brk => exact z
    | cont => exact z
    | ret u => exact z
  · obtain ⟨H1, s1, I1, a, C, o, H2, rfl, x, dc, hit, hts⟩ := z
    exact landF (ts := tss a) I1 x dc hst hf hN hj hn hg hm hit (hs a) (hts a x.free) hd
end
end L2
end
section
namespace L2
open PySem PySem.Spec PyProof.Rows
abbrev XD := Option (Str × PyData)
def FieldIs (K : PySem.W.Frag) (Hh : Hp) : Option Addr → XD → Prop
  | none, none => True
  | some dx, some (n, d) => ∃ v, Hh dx = some (.xd [(n, v)]) ∧ Rep K Hh d v
  | _, _ => False
theorem FieldIs.mono {K : PySem.W.Frag} {H H' : Hp} (s : Same H H') : ∀ {o : Option Addr} {x : XD}, FieldIs K H o x → FieldIs K H' o x
  | none, none, _ => trivial
  | some dx, some (n, d), h => let ⟨v, h1, h2⟩ := h; ⟨v, s _ _ h1, Rep.mono s d v h2⟩
  | none, some _, h => h.elim
  | some _, none, h => h.elim
def Caught (K : PySem.W.Frag) (a : Addr) (C : Value) (x : XD) : Hp → V → Prop := fun Hh v => ∃ o, v = .ref a ∧ Hh a = some (.ext (ExcAt a C o)) ∧ FieldIs K Hh o x
def Wish (K : PySem.W.Frag) (f : Fx) (E : XK) (H : Hp) (Z : Value → XD → Prop) : Prop := ∀ C o x H', Goes f H H' → FieldIs K (hide H' f) o x → Z C x → E C o H'
theorem Wish.go {K : PySem.W.Frag} {f : Fx} {E : XK} {H H1 : Hp} {Z : Value → XD → Prop} (z : Wish K f E H Z) (g : Goes f H H1) : Wish K f E H1 Z := fun C o x H' g' => z C o x H' (g.trans g')
def PEf (K : PySem.W.Frag) (f : Fx) (E : XK) (te : TE) (ρ : DEnv) (P : PyData → Prop) (Z : Value → XD → Prop) : Prop := ∀ (σ : St) (H : Hp) (Q : VK), EnvOk K f ρ σ H → (∀ d v H', Goes f H H' → Rep K (hide H' f) d v → P d → Q v H') → Wish K f E H Z → te σ H Q
def PSf (K : PySem.W.Frag) (f : Fx) (E : XK) (ts : TS) (ρ : DEnv) (D : DEnds) (Z : Value → XD → Prop) : Prop := ∀ (σ : St) (H : Hp) (N : Ends), EnvOk K f ρ σ H → (∀ ρ' σ' H', Goes f H H' → EnvOk K f ρ' σ' H' → D.nx ρ' → N.nx σ' H') →
  (∀ d v H', Goes f H H' → Rep K (hide H' f) d v → D.rt d → N.rt v H') → (∀ ρ' σ' H', Goes f H H' → EnvOk K f ρ' σ' H' → D.bk ρ' → N.bk σ' H') → (∀ ρ' σ' H', Goes f H H' → EnvOk K f ρ' σ' H' → D.ct ρ' → N.ct σ' H') → Wish K f E H Z → ts N σ H
def spF {γ : Type} (K : PySem.W.Frag) (n : Nat) (pre : γ → List DV → Prop) (post : γ → PyData → Prop) (exc : γ → Value → XD → Prop) : Sp := fun vs H Q E => ∃ f xs c, RepVs K f H xs vs ∧ xs.length = n ∧ FOk f H ∧ pre c xs ∧
  (∀ r v H', Goes f H H' → Rep K (hide H' f) r v → post c r → Q v H') ∧ Wish K f E H (exc c)
section
variable {K : PySem.W.Frag} {f : Fx} {ρ : DEnv} {E : XK} {te : TE} {ts tu : TS} {tt : TT} {t : TA} {P : PyData → Prop} {D : DEnds} {Z : Value → XD → Prop} {g : TG} {wi : TI}
theorem f_stmt (h : PSd K f ts ρ D) : PSf K f E ts ρ D Z := fun σ H N e n r b c _ => h σ H N e n r b c
theorem f_call {γ : Type} {n : Nat} {pre : γ → List DV → Prop} {post : γ → PyData → Prop} {exc : γ → Value → XD → Prop} (c : γ) (h : PAd K f t ρ fun xs => xs.length = n ∧ pre c xs ∧ (∀ r, post c r → P r) ∧ ∀ C x, exc c C x → Z C x) : PEf K f E (tCall (spF K n pre post exc) [] E t) ρ P Z := fun σ H Q e q z =>
  h σ H _ e fun xs vs H1 g1 r1 ⟨hl, hp, k, kz⟩ => ⟨f, xs, c, by rw [List.append_nil]; exact r1, hl, g1.2, hp, fun r v H' g' r' p' => q r v H' (g1.trans g') r' (k r p'), fun C o x H' g' fi p' => z C o x H' (g1.trans g') fi (kz C x p')⟩
theorem f_raise {C : Addr} {name : Str} (h : PAd K f t ρ fun xs => ∃ d, xs = [.dat d] ∧ Z (.ref C) (some (name, d))) : PSf K f E (tRaiseF C name E t) ρ D Z := fun σ H N e n r b c z =>
  h σ H _ e fun xs vs H1 g1 r1 ⟨d, ex, hz⟩ => by
    subst ex
    cases r1 with
    | @cons _ v _ _ rd rn =>
      cases rn
      refine ⟨v, rfl, fun dx hn => ?_⟩
      have g2 : Goes f H1 (upd H1 dx (.xd [(name, v)])) := .of_same (same_new hn _) g1.2
      exact z (.ref C) (some dx) (some (name, d)) _ (g1.trans g2) ⟨v, hide_get (fresh_ne g1.2 hn) upd_same, Rep.mono g2.1 d v rd⟩ hz
theorem f_seq (h : PSf K f E ts ρ { D with nx := fun ρ' => PSf K f E tu ρ' D Z } Z) : PSf K f E (tSeq ts tu) ρ D Z := fun σ H N e n r b c z =>
  h σ H _ e (fun ρ' σ' H' g' e' p => p σ' H' N e' (fun ρ2 σ2 H2 g2 => n ρ2 σ2 H2 (g'.trans g2)) (fun d v H2 g2 => r d v H2 (g'.trans g2)) (fun ρ2 σ2 H2 g2 => b ρ2 σ2 H2 (g'.trans g2)) (fun ρ2 σ2 H2 g2 => c ρ2 σ2 H2 (g'.trans g2)) (z.go g')) r b c z
theorem f_if (h : PTd K f tt ρ fun q => if q = true then PSf K f E ts ρ D Z else PSf K f E tu ρ D Z) : PSf K f E (tIfS tt ts tu) ρ D Z := fun σ H N e n r b c z =>
  h σ H _ e fun q H1 g1 p => by
    have go : ∀ tx, PSf K f E tx ρ D Z → tx N σ H1 := fun tx p => p σ H1 N (e.mono g1) (fun ρ2 σ2 H2 g2 => n ρ2 σ2 H2 (g1.trans g2)) (fun d v H2 g2 => r d v H2 (g1.trans g2)) (fun ρ2 σ2 H2 g2 => b ρ2 σ2 H2 (g1.trans g2)) (fun ρ2 σ2 H2 g2 => c ρ2 σ2 H2 (g1.trans g2)) (z.go g1)
    cases q with
    | false => rw [if_neg Bool.false_ne_true] at p ⊢; exact go _ p
    | true => rw [if_pos rfl] at p ⊢; exact go _ p
theorem f_drop (h : PEf K f E te ρ (fun _ => D.nx ρ) Z) : PSf K f E (tDrop te) ρ D Z := fun σ H N e n r b c z => h σ H _ e (fun d v H' g' _ p => n ρ σ H' g' (e.mono g') p) z
theorem f_ret (h : PEf K f E te ρ D.rt Z) : PSf K f E (tRet te) ρ D Z := fun σ H N e n r b c z => h σ H _ e r z
theorem f_for (h : PId K f wi ρ fun ds => ∃ J : Nat → DEnv → Prop, J 0 ρ ∧
      (∀ (i : Nat) d ρ', ds[i]? = some d → J i ρ' → PGd K f g d ρ' fun ρ2 => PSf K f E ts ρ2 { D with nx := J (i + 1), ct := J (i + 1), bk := D.nx } Z) ∧ ∀ ρ', J ds.length ρ' → D.nx ρ') :
    PSf K f E (tFor wi g ts) ρ D Z := fun σ H N e n r b c z => h σ H _ e fun ds J H1 g1 it ⟨Jv, j0, js, jd⟩ => by
  refine ⟨fun i m σ' H' => ∃ ρ', EnvOk K f ρ' σ' H' ∧ Goes f H1 H' ∧ Jv i ρ' ∧ m + i = ds.length, ⟨ds.length, ρ, e.mono g1, .refl g1.2, j0, rfl⟩, fun i m σ' H' ⟨ρ', e', g', p, hm⟩ => ?_⟩
  by_cases hi : i < ds.length
  · obtain ⟨hgo, hy⟩ := it.go f H' i _ e'.fd g'.sm (List.getElem?_eq_getElem hi)
    refine .inr ⟨hgo, fun σ2 H2 => ∃ ρ2, EnvOk K f ρ2 σ2 H2 ∧ Goes f H1 H2 ∧ Jv (i + 1) ρ2, fun σ2 H2 ⟨ρ2, e2, g2, p2⟩ => ⟨m - 1, by omega, ρ2, e2, g2, p2, by omega⟩, fun x H3 hx => ?_⟩
    obtain ⟨g3, r3⟩ := hy x H3 hx
    refine js i _ ρ' (List.getElem?_eq_getElem hi) p σ' H3 x _ (e'.mono g3) r3 fun ρ2 σ2 H4 g4 e4 p4 => ?_
    have gg := g'.trans (g3.trans g4)
    exact p4 σ2 H4 _ e4 (fun ρ5 σ5 H5 g5 e5 p5 => ⟨ρ5, e5, gg.trans g5, p5⟩) (fun d v H5 g5 r5 p5 => r d v H5 (g1.trans (gg.trans g5)) r5 p5) (fun ρ5 σ5 H5 g5 e5 p5 => n ρ5 σ5 H5 (g1.trans (gg.trans g5)) e5 p5) (fun ρ5 σ5 H5 g5 e5 p5 => ⟨ρ5, e5, gg.trans g5, p5⟩) (z.go (g1.trans gg))
  · have ei : i = ds.length := by omega
    subst ei
    exact .inl ⟨it.st f H' e'.fd g'.sm, n ρ' σ' H' (g1.trans g') e' (jd ρ' p)⟩
def PYd (K : PySem.W.Frag) (f : Fx) (tb : XK → TS) (ρ : DEnv) (D : DEnds) (Z : Value → XD → Prop) : Prop := ∀ (E : XK), PSf K f E (tb E) ρ D Z
theorem s_tryF {tb : XK → TS} {C0 : Addr} {j : Nat} {tss : Addr → TS}
    (h : PYd K f tb ρ D fun C x => PySem.W.exmOne K C (.ref C0) = some true ∧ ∀ a, PSd K f (tss a) (ρ.set j (some (.mon (Caught K a C x)))) { nx := fun ρ' => D.nx (ρ'.set j none), rt := D.rt, bk := fun ρ' => D.bk (ρ'.set j none), ct := fun ρ' => D.ct (ρ'.set j none) }) :
    PSd K f (tTryF K C0 tb j tss) ρ D := fun σ H N e nx rt bk ct => by
  refine h _ σ H N e nx rt bk ct fun C o x H' g' fi ⟨hit, hs⟩ => ⟨hit, fun a hn => ?_⟩
  have gn : Goes f H' (upd H' a (.ext (ExcAt a C o))) := .of_same (same_new hn _) g'.ok
  have gg := g'.trans gn
  have e2 := (e.mono gg).set j (x := .mon (Caught K a C x)) (v := .ref a) fun H'' s'' => ⟨o, rfl, s'' _ _ (hide_get (fresh_ne g'.ok hn) upd_same), FieldIs.mono (gn.1.trans s'') fi⟩
  have none_ok : ∀ {ρ' : DEnv} {σ' : St} {H'' : Hp}, EnvOk K f ρ' σ' H'' → EnvOk K f (ρ'.set j none) (σ'.set j none) H'' := fun {ρ' σ' H''} e' => by
    refine ⟨by rw [List.length_set, List.length_set]; exact e'.len, fun q y hy => ?_, e'.fd⟩
    by_cases hq : j = q
    · subst hq
      rw [List.getElem?_set] at hy
      rw [if_pos rfl] at hy
      split at hy <;> cases hy
    · rw [List.getElem?_set_ne hq] at hy ⊢
      exact e'.get q y hy
  exact hs a _ _ _ e2 (fun ρ' σ' H'' g'' e'' p'' => nx _ _ H'' (gg.trans g'') (none_ok e'') p'') (fun d v H'' g'' r'' p'' => rt d v H'' (gg.trans g'') r'' p'') (fun ρ' σ' H'' g'' e'' p'' => bk _ _ H'' (gg.trans g'') (none_ok e'') p'') (fun ρ' σ' H'' g'' e'' p'' => ct _ _ H'' (gg.trans g'') (none_ok e'') p'')
theorem d_isF {j : Nat} {C a : Addr} {x : XD} {c : V} {b : Bool} (hj : ρ[j]? = some (some (.mon (Caught K a (.ref C) x)))) (Wy : ExcWays K C) (hk : (∃ n, c = .ty n ∧ PySem.W.kitOne K (.ref C) (.type n) = some b) ∨ ∃ D, c = .ref D ∧ PySem.W.kitOne K (.ref C) (.ref D) = some b) (p : P (.bool b)) :
    PEd K f (tCB (rIsF K) (tCons (tVar j) (tCons (tC c) tNil))) ρ P := fun σ H Q e q => by
  obtain ⟨v, hv, r⟩ := e.get j _ hj
  obtain ⟨o, rfl, hH, _⟩ := r H (hide_same H f)
  exact ⟨_, hv, a, C, o, c, b, rfl, hH, Wy, hk, q _ _ H (.refl e.fd) (rep_bool.mpr rfl) p⟩
theorem d_excFld {j : Nat} {C a fa Dc : Addr} {name : Str} {d : PyData} (hj : ρ[j]? = some (some (.mon (Caught K a (.ref C) (some (name, d)))))) (T : FldC K C fa Dc name) (Wy : ExcWays K C) (p : P d) : PEd K f (tXFld K name (tVar j)) ρ P := fun σ H Q e q => by
  obtain ⟨v, hv, r⟩ := e.get j _ hj
  obtain ⟨o, rfl, hH, fi⟩ := r (hide H f) (Same.refl _)
  cases o with
  | none => exact fi.elim
  | some dx =>
    obtain ⟨y, h1, h2⟩ := fi
    exact ⟨_, hv, a, C, fa, Dc, dx, y, rfl, T, Wy, (hide_of hH).2, (hide_of h1).2, q d y H (.refl e.fd) h2 p⟩
end
structure FnInF (P : Program) (w : World) (K : PySem.W.Frag) (mg : Str → Option Value) (base : Heap) (k : Nat) (x : Str) (ps : List Str) (sp : Sp) : Prop where
  ex : ∃ (f : Addr) (fd : FuncData), FnOk P w K mg base (CXf P w) k f fd ps sp ∧ mg x = some (.ref f) ∧ PySem.W.keepIn K (.ref f) = true ∧ Binds K fd ps []
section
variable {P : Program} {w : World} {K : PySem.W.Frag} {mg : Str → Option Value} {base : Heap} {j k n : Nat} {x : Str} {st : Stmt} {ps N : List Str} {γ : Type} {pre : γ → List DV → Prop} {post : γ → PyData → Prop} {exc : γ → Value → XD → Prop} {sp : Sp}
theorem FnInF.mono (h : FnInF P w K mg base j x ps sp) (hk : j ≤ k) : FnInF P w K mg base k x ps sp := let ⟨f, fd, a, b, c, d⟩ := h.ex; ⟨f, fd, a.mono hk, b, c, d⟩
theorem Def.okF (F : Def K mg x st ps) (S : FnScope N ps (defScope st)) (hn : ps.length = n)
    (h : ∀ (fa : Addr) (cdv : Value) (A : Around) (outer : List Env) (s : Shared) (H : Hp) (E : XK), Room k (A.deeper (envOfC x (defScope st) s.heap.objs.size fa cdv)) →
      ∃ t, PSs (cxOf (CXf P w) P w K mg base N x (defScope st) fa cdv A outer s H E) (defBody st) t ∧ ∀ f xs c, xs.length = n → pre c xs → PSf K f E t (startV N xs) { nx := fun _ => post c .none, rt := post c } (exc c)) :
    FnInF P w K mg base (k + 1) x ps (spF K n pre post exc) := by
  obtain ⟨fa, fd, F1, F2, F3⟩ := F.ex
  refine ⟨fa, fd, F1.okF S (fun vs H Q E h => ?_) (fun cdv A outer s H vs Q E hr hs => ?_), F3, F1.kp, F2⟩
  · obtain ⟨f, xs, c, r, hl, _⟩ := h
    rw [r.length, hl, hn]
  · obtain ⟨f, xs, c, r, hl, fo, hp, q, z⟩ := hs
    obtain ⟨t, h1, h2⟩ := h fa cdv A outer s H E hr
    refine ⟨t, h1, h2 f xs c hl hp _ H _ (startV_ok r fo) (fun ρ' σ' H' g' e' p => q .none .non H' g' (rep_none.mpr rfl) p) (fun d v H' g' r' p => q d v H' g' r' p) (fun _ _ _ _ _ z => z.elim) (fun _ _ _ _ _ z => z.elim) z⟩
theorem pe_callF {qual : Str} {scope : Scope} {f : Addr} {cd : Value} {A : Around} {outer : List Env} {s : Shared} {H : Hp} {E : XK} {y : Str} {qs : List Str} {sq : Sp} {e : Expr} {es : List Expr} {t : TA} {p pos : Pos} (G : FnInF P w K mg base k y qs sq) (hr : Room k (cxOf (CXf P w) P w K mg base N qual scope f cd A outer s H E).A) (hg : Gl (cxOf (CXf P w) P w K mg base N qual scope f cd A outer s H E) y) (ha : PA (cxOf (CXf P w) P w K mg base N qual scope f cd A outer s H E) (e :: es) t) (hdb : (y == ("__debug__" : Str)) = false := by decide)
    (he : starEach (e :: es) (cxOf (CXf P w) P w K mg base N qual scope f cd A outer s H E).env = (false, eval e (cxOf (CXf P w) P w K mg base N qual scope f cd A outer s H E).env) :: starEach es (cxOf (CXf P w) P w K mg base N qual scope f cd A outer s H E).env := by rfl)
    (hpl : (backTo pos (starEach es (cxOf (CXf P w) P w K mg base N qual scope f cd A outer s H E).env)).any (·.1) = false := by rfl) :
    PE (cxOf (CXf P w) P w K mg base N qual scope f cd A outer s H E) (.Call (.Name y p) (e :: es) [] pos) (tCall sq [] E t) := by
  obtain ⟨g, gd, G1, G2, G3, G4⟩ := G.ex
  exact pe_call (dvs := []) G1 hr hg G2 G3 G4 .nil passF ha hdb he hpl
end
def clsBody (s : Stmt) : List Stmt := match s with
  | .ClassDef _ _ _ b _ _ _ _ _ _ _ => b
  | _ => []
structure FCls (K : PySem.W.Frag) (mg : Str → Option Value) (x base : Str) (C : Addr) (name : Str) (st : Stmt) (ps : List Str) : Prop where
  ex : ∃ (f D : Addr) (fd : FuncData), FldC K C f D name ∧ mg x = some (.ref C) ∧ mg base = some (.ref D) ∧ Fun K "__init__" (x ++ ".__init__") st f fd ∧ Binds K fd ps []
structure InitOk (P : Program) (w : World) (K : PySem.W.Frag) (mg : Str → Option Value) (base : Heap) (k : Nat) (C : Addr) (name : Str) : Prop where
  ex : ∃ (f D : Addr) (fd : FuncData) (ps : List Str), FldC K C f D name ∧ FnOk P w K mg base CX0 k f fd ps (spInit C name) ∧ Binds K fd ps []
theorem ps_raiseC {P : Program} {w : World} {K : PySem.W.Frag} {mg : Str → Option Value} {base : Heap} {N : List Str} {qual : Str} {scope : Scope} {f : Addr} {cd : Value} {A : Around} {outer : List Env} {s : Shared} {H : Hp} {E : XK} {k : Nat} {C : Addr} {name x : Str} {e0 : Expr} {t : TA} {np cpos pos : Pos}
    (G : InitOk P w K mg base k C name) (hr : Room (k + 1) (cxOf (CXf P w) P w K mg base N qual scope f cd A outer s H E).A) (hg : Gl (cxOf (CXf P w) P w K mg base N qual scope f cd A outer s H E) x) (hm : mg x = some (.ref C)) (ha : PA (cxOf (CXf P w) P w K mg base N qual scope f cd A outer s H E) [e0] t)
    (hse : starEach [e0] (cxOf (CXf P w) P w K mg base N qual scope f cd A outer s H E).env = (false, eval e0 (cxOf (CXf P w) P w K mg base N qual scope f cd A outer s H E).env) :: starEach [] (cxOf (CXf P w) P w K mg base N qual scope f cd A outer s H E).env := by rfl) (hpl : (backTo cpos (starEach [] (cxOf (CXf P w) P w K mg base N qual scope f cd A outer s H E).env)).any (·.1) = false := by rfl) (hd : (x == ("__debug__" : Str)) = false := by decide) :
    PS (cxOf (CXf P w) P w K mg base N qual scope f cd A outer s H E) (.Raise (some (.Call (.Name x np) [e0] [] cpos)) none pos) (tRaiseF C name E t) := by
  obtain ⟨fI, D, fd, ps, T, F, hb⟩ := G.ex
  exact ps_raiseF T F hr hb raise_xf rfl rfl rfl rfl hg hm ha hse hpl hd
theorem InitOk.mono {P : Program} {w : World} {K : PySem.W.Frag} {mg : Str → Option Value} {base : Heap} {j k : Nat} {C : Addr} {name : Str} (h : InitOk P w K mg base j C name) (hk : j ≤ k) : InitOk P w K mg base k C name :=
  let ⟨f, D, fd, ps, T, F, hb⟩ := h.ex; ⟨f, D, fd, ps, T, F.mono hk, hb⟩
theorem InitOk.fld {P : Program} {w : World} {K : PySem.W.Frag} {mg : Str → Option Value} {base : Heap} {k : Nat} {C : Addr} {name : Str} (h : InitOk P w K mg base k C name) : ∃ f D, FldC K C f D name := let ⟨f, D, _, _, T, _⟩ := h.ex; ⟨f, D, T⟩
end L2
end
section
namespace L2
open PySem PySem.Spec PyProof.Rows
theorem Reps.set {K : PySem.W.Frag} {H : Hp} : ∀ {ds : List PyData} {xs : List V}, Reps K H ds xs → ∀ (n : Nat) {d : PyData} {x : V}, Rep K H d x → Reps K H (ds.set n d) (xs.set n x)
  | [], xs, t, n, d, x, h => by rw [reps_nil.mp t]; exact .nil'
  | e :: ds, xs, t, n, d, x, h => by
    obtain ⟨y, r, rfl, h2, h3⟩ := reps_cons.mp t
    cases n with
    | zero => exact .cons' h h3
    | succ n => exact .cons' h2 (Reps.set h3 n h)
theorem pad_to {K : PySem.W.Frag} {f : Fx} {t : TA} {ρ : DEnv} {R : List DV → Prop} (ys : List DV) (h : PAd K f t ρ fun xs => xs = ys) (i : R ys) : PAd K f t ρ R := fun σ H Q e q => h σ H Q e fun xs vs H' g r p => q xs vs H' g r (p ▸ i)
theorem s_ifB {K : PySem.W.Frag} {f : Fx} {ρ : DEnv} {D : DEnds} {tt : TT} {ts tu : TS} (p : Prop) [Decidable p] (h : PTd K f tt ρ fun b => b = decide p) (h1 : p → PSd K f ts ρ D) (h2 : ¬ p → PSd K f tu ρ D) : PSd K f (tIfS tt ts tu) ρ D := s_if fun σ H Q e q => h σ H Q e fun b H' g z => q b H' g (by
  subst z
  by_cases hp : p
  · rw [decide_eq_true hp, if_pos rfl]; exact h1 hp
  · rw [decide_eq_false hp, if_neg Bool.false_ne_true]; exact h2 hp)
def excWays (K : PySem.W.Frag) (C : Addr) : Bool :=
  PySem.W.findIn K (.ref C) "__getattribute__" == some (some (.builtin "BaseException.__getattribute__")) && PySem.W.findIn K (.ref C) "__getattr__" == some none && PySem.W.findIn K (.ref C) "__class__" == some (some (.builtin "object.__class__"))
    && PySem.W.specialIn K (.builtin "object.__class__") "__get__" == some (some (.builtin "getset_descriptor.__get__")) && PySem.W.takesIn K (.builtin "object.__class__") == some true && PySem.W.mroIn K C (.type "object") == some true && PySem.W.mroIn K C (.type "BaseException") == some true && (PySem.W.clsIn K C).isSome
theorem ways_of {K : PySem.W.Frag} {C : Addr} (h : excWays K C = true) : ExcWays K C := by
  unfold excWays at h
  simp only [Bool.and_eq_true, beq_iff_eq] at h
  obtain ⟨⟨⟨⟨⟨⟨⟨h1, h2⟩, h3⟩, h4⟩, h5⟩, h6⟩, h7⟩, h8⟩ := h
  exact ⟨h1, h2, h3, h4, h5, h6, h7, h8⟩
end L2
end
section
namespace L2
open PySem PySem.Spec PyProof.Rows
structure RoomM (k : Nat) (A : Around) : Prop where
  dp : A.depth + 3 * k + 5 < recursionLimit
  un : A.units + 16 * k + 200 < cLine
theorem RoomM.units {k : Nat} {A : Around} (r : RoomM k A) : A.units + 64 < cLine := by have := r.un; omega
structure FnOkM (P : Program) (w : World) (K : PySem.W.Frag) (mg : Str → Option Value) (base : Heap) (k : Nat) (f : Addr) (fd : FuncData) (ps : List Str) (sp : Addr → Sp) : Prop where
  len : ∀ a vs H Q E, sp a vs H Q E → vs.length = ps.length
  run : ∀ (A : Around) (outer : List Env) (s : Shared) (H : Hp) (args : Args) (us : List Value) (vs : List V) (Q : VK) (a : Addr), A.handled = some (.ref a) → RoomM k A → Env0 P w K mg base A outer s H → BindsTo s fd args (ps.zip us) → Vals vs us → sp a vs H Q E0 →
    codeAny (model P w) A (.call (.ref f) args) (CR CX0 outer P w H s Q E0) s
structure FnInM (P : Program) (w : World) (K : PySem.W.Frag) (mg : Str → Option Value) (base : Heap) (k : Nat) (x : Str) (ps : List Str) (sp : Addr → Sp) : Prop where
  ex : ∃ (f : Addr) (fd : FuncData), FnOkM P w K mg base k f fd ps sp ∧ mg x = some (.ref f) ∧ PySem.W.keepIn K (.ref f) = true ∧ Binds K fd ps []
section
variable {P : Program} {w : World} {K : PySem.W.Frag} {mg : Str → Option Value} {base : Heap} {j k n : Nat} {x : Str} {st : Stmt} {ps N : List Str} {γ : Type} {pre : Addr → γ → List DV → Prop} {post : γ → PyData → Prop} {sp : Addr → Sp}
theorem FnInM.mono (h : FnInM P w K mg base j x ps sp) (hk : j ≤ k) : FnInM P w K mg base k x ps sp :=
  let ⟨f, fd, a, b, c, d⟩ := h.ex
  ⟨f, fd, ⟨a.len, fun A outer s H args us vs Q e hm hr => a.run A outer s H args us vs Q e hm ⟨by have := hr.dp; omega, by have := hr.un; omega⟩⟩, b, c, d⟩
end
def isNo : PyData → Option Bool
  | .none => some true
  | .int _ => some false
  | .bool _ => some false
  | .str _ => some false
  | .tuple _ => some false
  | .list _ => some false
  | _ => none
theorem isNo_rep {K : PySem.W.Frag} {H : Hp} {d : PyData} {v : V} {b : Bool} (r : Rep K H d v) (h : isNo d = some b) : decide (v = .non) = b := by
  cases d with
  | none => cases h; rw [rep_none.mp r]; rfl
  | int i => cases h; rw [rep_int.mp r]; rfl
  | bool i => cases h; rw [rep_bool.mp r]; rfl
  | str i => cases h; rw [rep_str.mp r]; rfl
  | tuple ds => cases h; obtain ⟨a, xs, rfl, _⟩ := rep_tuple.mp r; rfl
  | list ds => cases h; obtain ⟨a, xs, rfl, _⟩ := rep_list.mp r; rfl
  | _ => cases h
section
variable {K : PySem.W.Frag} {f : Fx} {ρ : DEnv} {P : PyData → Prop} {ta : TE}
theorem d_noNo (h : PEd K f ta ρ fun d => ∃ b, isNo d = some b ∧ P (.bool (!b))) : PEd K f (tOp (fun x y H Q => y = .non ∧ Q (.bl (!decide (x = .non))) H) ta (tC .non)) ρ P := fun σ H Q e q =>
  h σ H _ e fun d v H1 g1 r1 ⟨b, hb, p⟩ => ⟨rfl, q _ _ H1 g1 (rep_bool.mpr (by rw [isNo_rep r1 hb])) p⟩
end
end L2
end
section
namespace L2
open PySem PySem.Spec PyProof.Rows
abbrev tabL (rows : List (List Int)) : PyData := .list (rows.map fun r => .list (r.map .int))
structure TN (K : PySem.W.Frag) (f : Fx) (a : Addr) (as : List Addr) (H2 : Hp) (ρ : DEnv) (R : Option (List (List Int))) (σ : St) (H : Hp) : Prop where
  env : EnvOk K (f.withs (a :: as)) ρ σ H
  sm : Same (hide H2 (f.withs (a :: as))) (hide H (f.withs (a :: as)))
  kp : ∀ b ∈ f.M, H b = H2 b
  tab : ∀ rows, R = some rows → TabAt H a as rows
def PSu (K : PySem.W.Frag) (f : Fx) (a : Addr) (as : List Addr) (ts : TS) (ρ : DEnv) (R : Option (List (List Int))) (O : DEnv → Option (List (List Int)) → Prop) : Prop := Sep f (a :: as) → ∀ (σ : St) (H H2 : Hp) (E : Ends), TN K f a as H2 ρ R σ H →
  (∀ ρ' R' σ' H', TN K f a as H2 ρ' R' σ' H' → O ρ' R' → E.nx σ' H') → ts E σ H
section
variable {K : PySem.W.Frag} {f : Fx} {a : Addr} {as : List Addr} {ρ ρ2 : DEnv} {rows : List (List Int)} {R : Option (List (List Int))} {O : DEnv → Option (List (List Int)) → Prop} {ts tu : TS} {tt : TT} {te ty tx : TE} {i : Nat} {σ σ2 : St} {H H' H2 : Hp}
theorem TN.go (x : TN K f a as H2 ρ R σ H) (g : Goes (f.withs (a :: as)) H H') (e2 : EnvOk K (f.withs (a :: as)) ρ2 σ2 H') : TN K f a as H2 ρ2 R σ2 H' :=
  ⟨e2, x.sm.trans g.sm, fun b hb => (g.kp b (List.mem_append_right _ hb)).trans (x.kp b hb), fun rows e => (x.tab rows e).keep fun b hb => g.kp b (mem_withs hb)⟩
theorem rev_withs : (f.withs (a :: as)).M.reverse = f.M.reverse ++ a :: as := by
  show ((a :: as).reverse ++ f.M).reverse = _
  rw [List.reverse_append, List.reverse_reverse]
theorem TN.at (x : TN K f a as H2 ρ R σ H) (hi : ρ[i]? = some (some (.own f.M.length))) : σ[i]? = some (some (.ref a)) := by
  obtain ⟨v, a1, p, a2, rfl⟩ := x.env.get i _ hi
  rw [rev_withs, List.getElem?_append_right (by simp)] at a2
  simp at a2
  rw [a2]
  exact a1
theorem TN.fok (x : TN K f a as H2 ρ R σ H) : FOk f H := ⟨x.env.fd.fd, fun b hb => x.env.fd.mm b (List.mem_append_right _ hb), fun p e hp => x.env.fd.nm p e (List.mem_append_right _ hp)⟩
theorem TN.out (x : TN K f a as H2 ρ R σ H) : EnvOk K f (ρ.map (dropOwn f.M.length)) σ H := by
  refine ⟨by rw [List.length_map]; exact x.env.len, fun q z hz => ?_, x.fok⟩
  rw [List.getElem?_map] at hz
  cases e0 : ρ[q]? with
  | none => rw [e0] at hz; cases hz
  | some z0 =>
    rw [e0] at hz
    cases z0 with
    | none => cases hz
    | some z0 =>
      obtain ⟨v, a1, a2⟩ := x.env.get q z0 e0
      cases z0 with
      | dat d => cases hz; exact ⟨v, a1, Rep.mono same_withs d v a2⟩
      | feed => cases hz; exact ⟨v, a1, a2⟩
      | exc C => cases hz; obtain ⟨b, h3, h4⟩ := a2; exact ⟨v, a1, b, h3, same_withs _ _ h4⟩
      | mon φ => cases hz; exact ⟨v, a1, fun H' s => a2 H' (same_withs.trans s)⟩
      | own k =>
        have hz' : (if k < f.M.length then some (DV.own k) else none) = some z := Option.some.inj hz
        by_cases hk : k < f.M.length
        · rw [if_pos hk] at hz'
          cases hz'
          obtain ⟨b, h3, h4⟩ := a2
          refine ⟨v, a1, b, ?_, h4⟩
          rw [rev_withs, List.getElem?_append_left (by simpa using hk)] at h3
          exact h3
        · rw [if_neg hk] at hz'
          cases hz'
theorem sep_nf (se : Sep f (a :: as)) : ∀ D ∈ a :: as, ¬ (f.f = some D ∨ D ∈ f.M) := fun D hD z => z.elim (se.nf D hD) (se.nm D hD)
theorem TN.read (se : Sep f (a :: as)) (x : TN K f a as H2 ρ (some rows) σ H) (hi : ρ[i]? = some (some (.own f.M.length))) : EnvOk K f ((ρ.map (dropOwn f.M.length)).set i (some (.dat (tabL rows)))) σ H := by
  have o := x.out
  refine ⟨by rw [List.length_set]; exact o.len, fun q z hz => ?_, o.fd⟩
  by_cases e : i = q
  · subst e
    rw [List.getElem?_set, if_pos rfl] at hz
    split at hz
    · cases hz
      exact ⟨_, x.at hi, (x.tab rows rfl).rep (sep_nf se a (List.mem_cons_self ..)) fun y hy => sep_nf se y (List.mem_cons_of_mem _ hy)⟩
    · cases hz
  · rw [List.getElem?_set_ne e] at hz
    exact o.get q z hz
theorem TN.beside (se : Sep f (a :: as)) (x : TN K f a as H2 ρ R σ H) (g : Goes f H H') : Goes (f.withs (a :: as)) H H' := by
  have kp : ∀ b ∈ a :: as, H' b = H b := fun b hb => by
    obtain ⟨o, h1⟩ := x.env.fd.mm b (mem_withs hb)
    rw [h1]
    exact (hide_of (g.sm b o (hide_get (sep_nf se b hb) h1))).2
  refine ⟨fun b o hb => ?_, ⟨g.ok.fd, fun b hb => ?_, x.env.fd.nm⟩, fun b hb => ?_⟩
  · obtain ⟨n1, h1⟩ := hide_of hb
    have n2 : ¬ (f.f = some b ∨ b ∈ f.M) := fun z => n1 (z.elim .inl fun z => .inr (List.mem_append_right _ z))
    exact hide_get n1 (hide_of (g.sm b o (hide_get n2 h1))).2
  · rcases List.mem_append.mp hb with h | h
    · obtain ⟨o, h1⟩ := x.env.fd.mm b hb
      exact ⟨o, (kp b (List.mem_reverse.mp h)).trans h1⟩
    · exact g.ok.mm b h
  · rcases List.mem_append.mp hb with h | h
    · exact kp b (List.mem_reverse.mp h)
    · exact g.kp b h
theorem u_lift (h : PSd K (f.withs (a :: as)) ts ρ { nx := fun ρ' => O ρ' R, rt := fun _ => False }) : PSu K f a as ts ρ R O := fun se σ H H2 E x n =>
  h σ H E x.env (fun ρ' σ' H' g' e' p => n ρ' R σ' H' (x.go g' e') p) (fun _ _ _ _ _ z => z.elim) (fun _ _ _ _ _ z => z.elim) (fun _ _ _ _ _ z => z.elim)
theorem u_seq (h : PSu K f a as ts ρ R fun ρ' R' => PSu K f a as tu ρ' R' O) : PSu K f a as (tSeq ts tu) ρ R O := fun se σ H H2 E x n =>
  h se σ H H2 _ x fun ρ' R' σ' H' x' p => p se σ' H' H2 E x' n
theorem u_next (h : O ρ R) : PSu K f a as tNext ρ R O := fun se σ H H2 E x n => n ρ R σ H x h
theorem u_ifO (h : PTd K (f.withs (a :: as)) tt ρ fun b => if b = true then PSu K f a as ts ρ R O else PSu K f a as tu ρ R O) : PSu K f a as (tIfS tt ts tu) ρ R O := fun se σ H H2 E x n =>
  h σ H _ x.env fun b H1 g1 p => by
    have x1 := x.go g1 (x.env.mono g1)
    cases b with
    | true => rw [if_pos rfl] at p ⊢; exact p se σ H1 H2 E x1 n
    | false => rw [if_neg Bool.false_ne_true] at p ⊢; exact p se σ H1 H2 E x1 n
theorem TN.turn {r : Nat} {row row' : List Int} (se : Sep f (a :: as)) (x : TN K f a as H2 ρ (some rows) σ H) (hr : rows[r]? = some row) (hl : r < as.length) : TN K f a as H2 ρ (some (rows.set r row')) σ (upd H as[r] (.lst (row'.map .int))) := by
  have t := x.tab rows rfl
  have ha : as[r]? = some as[r] := List.getElem?_eq_getElem hl
  have hm : as[r] ∈ a :: as := List.mem_cons_of_mem _ (List.mem_of_getElem? ha)
  have nd := List.nodup_cons.mp t.nd
  have ne : a ≠ as[r] := fun z => nd.1 (z ▸ List.mem_of_getElem? ha)
  refine ⟨env_upd se hm x.env, by rw [hide_withs_upd hm]; exact x.sm, fun b hb => (upd_ne (fun (z : b = as[r]) => se.nm _ hm (z ▸ hb))).trans (x.kp b hb), fun rows' e => ?_⟩
  cases e
  refine ⟨(upd_ne ne).trans t.top, t.nd, by rw [List.length_set]; exact t.len, fun j y q h1 h2 => ?_⟩
  by_cases e : r = j
  · subst e
    rw [ha] at h1
    cases h1
    rw [List.getElem?_set_self (List.getElem?_eq_some_iff.mp hr).1] at h2
    cases h2
    exact upd_same
  · rw [List.getElem?_set_ne e] at h2
    have hy : y ≠ as[r] := fun z => by
      subst z
      exact e ((List.getElem?_inj hl nd.2).mp (ha.trans h1.symm))
    exact (upd_ne hy).trans (t.row j y q h1 h2)
theorem u_app (hi : ρ[i]? = some (some (.own f.M.length))) (h : PEd K (f.withs (a :: as)) ty ρ fun y => ∃ r : Nat, y = .int r ∧ ∃ row, rows[r]? = some row ∧ row.length < 1000 ∧ PEd K (f.withs (a :: as)) te ρ fun d => ∃ v : Int, d = .int v ∧ O ρ (some (rows.set r (row ++ [v])))) :
    PSu K f a as (tDrop (tBM K "list" rAppend (tOp (rIxL K) (tVar i) ty) (tCons te tNil))) ρ (some rows) O := fun se σ H H2 E x n => by
  refine ⟨.ref a, x.at hi, h σ H _ x.env fun y u H1 g1 r1 ⟨r, ey, row, hr, hl, h4⟩ => ?_⟩
  subst ey
  rw [rep_int.mp r1]
  have x1 := x.go g1 (x.env.mono g1)
  have t1 := x1.tab rows rfl
  have hlt : r < as.length := by rw [t1.len]; exact (List.getElem?_eq_some_iff.mp hr).1
  have ha : as[r]? = some as[r] := List.getElem?_eq_getElem hlt
  refine ⟨a, as.map .ref, (r : Int), .ref as[r], rfl, rfl, .of t1.top, atI_nat (by rw [List.getElem?_map, ha]; rfl), Or.inl ⟨rfl, _, .of (t1.row r _ row ha hr)⟩, ?_⟩
  refine h4 σ H1 _ x1.env fun d v H3 g3 r3 ⟨vi, ed, ho⟩ => ?_
  subst ed
  rw [rep_int.mp r3]
  have x3 := x1.go g3 (x1.env.mono g3)
  refine ⟨as[r], row.map .int, .int vi, rfl, rfl, (x3.tab rows rfl).row r _ row ha hr, small1000 (by rw [List.length_map]; omega), ?_⟩
  have x4 := x3.turn (row' := row ++ [vi]) se hr hlt
  rw [List.map_append] at x4
  exact n ρ _ σ _ x4 ho
end
end L2
end
section
namespace L2
open PySem PySem.Spec PyProof.Rows
def NewT (f : Fx) (H : Hp) (RT : List (List Int) → Prop) (Q : VK) : Prop := ∀ rows a as H', Goes f H H' → H a = none → (∀ x ∈ as, H x = none) → TabAt H' a as rows → RT rows → Q (.ref a) H'
def spTT {γ : Type} (K : PySem.W.Frag) (n : Nat) (pre : γ → List DV → Prop) (postT : γ → List (List Int) → Prop) (postD : γ → PyData → Prop) (exc : γ → Value → XD → Prop) : Sp := fun vs H Q E => ∃ f xs c, RepVs K f H xs vs ∧ xs.length = n ∧ FOk f H ∧ pre c xs ∧
  NewT f H (postT c) Q ∧ (∀ r v H', Goes f H H' → Rep K (hide H' f) r v → postD c r → Q v H') ∧ Wish K f E H (exc c)
def PSg (K : PySem.W.Frag) (f : Fx) (E : XK) (ts : TS) (ρ : DEnv) (RT : List (List Int) → Prop) (RD : PyData → Prop) (Z : Value → XD → Prop) : Prop := ∀ (σ : St) (H : Hp) (N : Ends), EnvOk K f ρ σ H → NewT f H RT N.rt → (∀ r v H', Goes f H H' → Rep K (hide H' f) r v → RD r → N.rt v H') → Wish K f E H Z → ts N σ H
section
variable {K : PySem.W.Frag} {f : Fx} {ρ : DEnv} {E : XK} {te tc : TE} {ts tu : TS} {tt : TT} {t : TA} {RT : List (List Int) → Prop} {RD : PyData → Prop} {Z : Value → XD → Prop} {i j n : Nat} {γ : Type} {pre : γ → List DV → Prop} {postT : γ → List (List Int) → Prop} {postD : γ → PyData → Prop} {exc : γ → Value → XD → Prop}
theorem PEdT.ped {P : PyData → Prop} (h : PEdT K f te ρ fun rows => P (tabL rows)) : PEd K f te ρ P := fun σ H Q e q => h σ H Q e fun rows a as H' g na nas t p => q _ _ H' g (t.rep (fresh_ne e.fd na) fun y hy => fresh_ne e.fd (nas y hy)) p
theorem NewT.go {H H1 : Hp} {Q : VK} (fo : FOk f H) (h : NewT f H RT Q) (g : Goes f H H1) : NewT f H1 RT Q := fun rows a as H' g' na nas => h rows a as H' (g.trans g') (g.free fo na) fun x hx => g.free fo (nas x hx)
theorem g_seq (h : PSf K f E ts ρ { nx := fun ρ' => PSg K f E tu ρ' RT RD Z, rt := fun _ => False } Z) : PSg K f E (tSeq ts tu) ρ RT RD Z := fun σ H N e nt nd z =>
  h σ H _ e (fun ρ' σ' H' g' e' p => p σ' H' N e' (nt.go e.fd g') (fun r v H2 g2 => nd r v H2 (g'.trans g2)) (z.go g')) (fun _ _ _ _ _ y => y.elim) (fun _ _ _ _ _ y => y.elim) (fun _ _ _ _ _ y => y.elim) z
theorem t_callTT (c : γ) (h : PAd K f t ρ fun xs => xs.length = n ∧ pre c xs ∧ (∀ rows, postT c rows → RT rows) ∧ (∀ d, ¬ postD c d) ∧ ∀ C x, ¬ exc c C x) : PEdT K f (tCall (spTT K n pre postT postD exc) [] E t) ρ RT := fun σ H Q e q =>
  h σ H _ e fun xs vs H1 g1 r1 ⟨hl, hp, kT, kD, kz⟩ => ⟨f, xs, c, by rw [List.append_nil]; exact r1, hl, g1.2, hp, fun rows a as H' g' na nas t1 p => q rows a as H' (g1.trans g') (g1.free e.fd na) (fun x hx => g1.free e.fd (nas x hx)) t1 (kT rows p), fun r v H' g' r' p => absurd p (kD r), fun C o x H' _ _ p => absurd p (kz C x)⟩
end
section
variable {P : Program} {w : World} {K : PySem.W.Frag} {mg : Str → Option Value} {base : Heap} {k n : Nat} {x : Str} {st : Stmt} {ps N : List Str} {γ : Type} {pre : γ → List DV → Prop} {postT : γ → List (List Int) → Prop} {postD : γ → PyData → Prop} {exc : γ → Value → XD → Prop}
theorem Def.okG0 (F : Def K mg x st ps) (S : FnScope N ps (defScope st)) (hn : ps.length = n)
    (h : ∀ (fa : Addr) (cdv : Value) (A : Around) (outer : List Env) (s : Shared) (H : Hp) (E : XK), Room k (A.deeper (envOfC x (defScope st) s.heap.objs.size fa cdv)) →
      ∃ t, PSs (cxOf CX0 P w K mg base N x (defScope st) fa cdv A outer s H E).nox (defBody st) t ∧ ∀ f xs c, xs.length = n → pre c xs → PSg K f E0 t (startV N xs) (postT c) (postD c) fun _ _ => False) :
    FnIn P w K mg base (k + 1) x ps (spTT K n pre postT postD fun _ _ _ => False) := by
  refine F.raw S (fun vs H Q E h => ?_) fun fa cdv A outer s H vs Q E hr hs => ?_
  · obtain ⟨f, xs, c, r, hl, _⟩ := h
    rw [r.length, hl, hn]
  · obtain ⟨f, xs, c, r, hl, fo, hp, q1, q2, z⟩ := hs
    obtain ⟨t, h1, h2⟩ := h fa cdv A outer s H E hr
    exact ⟨t, h1, h2 f xs c hl hp (start N vs) H _ (startV_ok r fo) q1 q2 fun _ _ _ _ _ _ y => y.elim⟩
end
end L2
end
section
namespace L2
open PySem PySem.Spec PyProof.Rows
end L2
end
section
namespace L2
open PySem PySem.Spec PyProof.Rows
structure GoesW (f : Fx) (As : List Addr) (H2 H' : Hp) : Prop where
  sm : Same (hide H2 (f.withs As)) (hide H' f)
  ok : FOk f H'
  kp : ∀ b ∈ f.M, H' b = H2 b
def PSw (K : PySem.W.Frag) (f : Fx) (a : Addr) (as : List Addr) (ts : TS) (ρ : DEnv) (R : Option (List (List Int))) (RT : PyData → Prop) : Prop := Sep f (a :: as) → ∀ (σ : St) (H H2 : Hp) (E : Ends), TN K f a as H2 ρ R σ H →
  (∀ d v H', GoesW f (a :: as) H2 H' → Rep K (hide H' f) d v → RT d → E.rt v H') → ts E σ H
section
variable {K : PySem.W.Frag} {f : Fx} {a : Addr} {as : List Addr} {ρ : DEnv} {rows : List (List Int)} {R : Option (List (List Int))} {RT : PyData → Prop} {ts tu : TS} {te : TE} {i : Nat}
theorem w_seq (h : PSu K f a as ts ρ R fun ρ' R' => PSw K f a as tu ρ' R' RT) : PSw K f a as (tSeq ts tu) ρ R RT := fun se σ H H2 E x r =>
  h se σ H H2 _ x fun ρ' R' σ' H' x' p => p se σ' H' H2 E x' r
theorem w_free (hi : ρ[i]? = some (some (.own f.M.length))) (h : PSd K f ts ((ρ.map (dropOwn f.M.length)).set i (some (.dat (tabL rows)))) { nx := fun _ => False, rt := RT }) : PSw K f a as ts ρ (some rows) RT := fun se σ H H2 E x r =>
  h σ H E (x.read se hi) (fun _ _ _ _ _ z => z.elim) (fun d v H' g' r' p => r d v H' ⟨(x.sm.trans same_withs).trans g'.sm, g'.ok, fun b hb => (g'.kp b hb).trans (x.kp b hb)⟩ r' p) (fun _ _ _ _ _ z => z.elim) (fun _ _ _ _ _ z => z.elim)
end
end L2
end
section
namespace L2
open PySem PySem.Spec PyProof.Rows
structure FnAt (P : Program) (w : World) (K : PySem.W.Frag) (mg : Str → Option Value) (base : Heap) (CX : CXT) (k : Nat) (a : Addr) (sp : Sp) : Prop where
  ex : ∃ (fd : FuncData) (ps : List Str), FnOk P w K mg base CX k a fd ps sp ∧ PySem.W.keepIn K (.ref a) = true ∧ Binds K fd ps []
def tCallX (fns : List (Addr × Sp)) (E : XK) (tf : TE) (t : TA) : TE := fun σ H Q => tf σ H fun x H1 => ∃ a sp, x = .ref a ∧ (a, sp) ∈ fns ∧ t σ H1 fun vs H2 => sp vs H2 Q E
section
variable {X : Cx} {CX : CXT} {k : Nat} {fns : List (Addr × Sp)} {E : XK} {fe e : Expr} {es : List Expr} {tf : TE} {t : TA} {pos : Pos}
theorem pe_callE (hf : PE X fe tf) (G : ∀ a sp, (a, sp) ∈ fns → FnAt X.prog X.w X.K X.mg X.base CX k a sp) (hr : Room k X.A) (hx : Passes CX X E) (ha : PA X (e :: es) t)
    (he : starEach (e :: es) X.env = (false, eval e X.env) :: starEach es X.env := by rfl) (hpl : (backTo pos (starEach es X.env)).any (·.1) = false := by rfl)
    (hev : eval (.Call fe (e :: es) [] pos) X.env = (do
      let f ← eval fe X.env
      callWith pos f [] (backTo pos (starEach (e :: es) X.env)) (backToKw pos (keywordEach [] X.env))) := by rfl) :
    PE X (.Call fe (e :: es) [] pos) (tCallX fns E tf t) := by
  intro pins s σ H Q I h
  rw [hev]
  refine wpAny_bind (thn (hf pins s σ H _ I h) fun u s1 ⟨x, H1, I1, r, a, sp, ex, hm, q⟩ => ?_)
  subst ex
  obtain rfl : u = Value.ref a := r
  obtain ⟨fd, ps, F, hk, hb⟩ := (G a sp hm).ex
  refine PySem.W.callWith_K (first := []) (h₀ := X.base) I1.ok.mod.kin hk (thn (ha pos pins s1 σ H1 _ I1 q) fun us s2 ⟨vs, H2, I2, r2, q2⟩ => ⟨I2.kIn, ?_⟩) he hpl
  exact run_fn (dvs := []) (ds := []) F hr hb .nil hx I2 r2 (by rw [List.append_nil]; exact q2)
theorem call_byX {pins : List (Addr × Obj)} {σ : St} {H : Hp} {s : Shared} {Q : VK} (hf : PE X.nox fe tf) (G : ∀ a sp, (a, sp) ∈ fns → FnAt X.prog X.w X.K X.mg X.base (CXf X.prog X.w) k a sp) (hr : Room k X.A)
    (ha : PA X.nox (e :: es) t) (I : Inv X pins σ H s) (h : tCallX fns E tf t σ H Q)
    (he : starEach (e :: es) X.env = (false, eval e X.env) :: starEach es X.env) (hpl : (backTo pos (starEach es X.env)).any (·.1) = false)
    (hev : eval (.Call fe (e :: es) [] pos) X.env = (do
      let f ← eval fe X.env
      callWith pos f [] (backTo pos (starEach (e :: es) X.env)) (backToKw pos (keywordEach [] X.env)))) :
    wpAny (model X.prog X.w) X.A (eval (.Call fe (e :: es) [] pos) X.env) (EP X pins σ Q) (fun e s' => ∃ H1 s1, Inv X pins σ H1 s1 ∧ CXf X.prog X.w X.stack H1 s1 E e s') s := by
  rw [hev]
  refine wpAny_bind (wpAny_mono (hf pins s σ H _ (I.wish _) h) (fun u s0 z => ?_) fun _ _ z => z.elim)
  obtain ⟨x, H0, I0', r0, a, sp, ex, hm, q0⟩ := z
  have I0 : Inv X pins σ H0 s0 := I0'.unwish
  subst ex
  obtain rfl : u = Value.ref a := r0
  obtain ⟨fd, ps, F, hk, hb⟩ := (G a sp hm).ex
  refine PySem.W.callWith_K (first := []) (h₀ := X.base) I0.ok.mod.kin hk (wpAny_mono (ha pos pins s0 σ H0 _ (I0.wish _) q0) (fun us s1 q => ?_) fun _ _ z => z.elim) he hpl
  obtain ⟨vs, H1, I1', r, q⟩ := q
  have I1 : Inv X pins σ H1 s1 := I1'.unwish
  refine ⟨I1.kIn, ?_⟩
  have b2 := hb s1 us I1.kIn (by rw [List.append_nil, ← r.length]; exact F.len _ _ _ _ q)
  rw [List.append_nil] at b2
  refine wpAny_call (codeAny_mono (F.run X.A X.stack s1 H1 ⟨us, []⟩ us vs _ _ hr I1.env0 b2 r q) fun res s' z => ?_)
  cases res with
  | error e => exact ⟨H1, s1, I1, z⟩
  | ok fl =>
    cases fl with
    | ret u => exact I1.after z
    | next => exact False.elim z
    | brk => exact False.elim z
    | cont => exact False.elim z
def bSetX (fns : List (Addr × Sp)) (tf : TE) (t : TA) (i : Nat) (tr : TS) : XK → TS := fun E D σ H => tCallX fns E tf t σ H fun v H2 => tr D (σ.set i (some v)) H2
theorem by_setX {y : Str} {py spos : Pos} {rest : List Stmt} {tr : TS} {i : Nat} (hf : PE X.nox fe tf) (G : ∀ a sp, (a, sp) ∈ fns → FnAt X.prog X.w X.K X.mg X.base (CXf X.prog X.w) k a sp) (hr : Room k X.A)
    (ha : PA X.nox (e :: es) t) (hN : X.N.Nodup) (hi : X.N[i]? = some y) (hy : Loc X.env.scope y) (hfy : X.fn y = true ∨ X.env.scope.names.lookup y = some .local) (hR : PSs X.nox rest tr)
    (he : starEach (e :: es) X.env = (false, eval e X.env) :: starEach es X.env := by rfl) (hpl : (backTo pos (starEach es X.env)).any (·.1) = false := by rfl)
    (hev : eval (.Call fe (e :: es) [] pos) X.env = (do
      let f ← eval fe X.env
      callWith pos f [] (backTo pos (starEach (e :: es) X.env)) (backToKw pos (keywordEach [] X.env))) := by rfl)
    (hsw : swapsWith (.Call fe (e :: es) [] pos) (some (.Name y py)) spos.line X.env = pure false := by rfl) :
    PBy X (.Assign [.Name y py] (.Call fe (e :: es) [] pos) spos :: rest) (bSetX fns tf t i tr) := by
  intro pins s σ H D E I h
  refine wpAny_execs_cons (wpAny_Assign_Name ?_ hsw)
  refine wpAny_mono (call_byX hf G hr ha I h he hpl hev) (fun u s2 z => ?_) fun _ _ z => z
  obtain ⟨v, H2, I2, r2, q2⟩ := z
  refine store_ok I2 hN hi hy r2 (fun s3 I3 => ?_) hfy
  refine wpAny_mono (hR pins s3 _ H2 D (I3.wish _) q2) (fun fl s4 z => ?_) fun _ _ z => z.elim
  cases fl with
  | next => obtain ⟨σ', H', J, q⟩ := z; exact ⟨σ', H', J.unwish, q⟩
  | brk => obtain ⟨σ', H', J, q⟩ := z; exact ⟨σ', H', J.unwish, q⟩
  | cont => obtain ⟨σ', H', J, q⟩ := z; exact ⟨σ', H', J.unwish, q⟩
  | ret u => obtain ⟨v', σ', H', J, q⟩ := z; exact ⟨v', σ', H', J.unwish, q⟩
end
def tRefs : List Addr → TA
  | [] => tNil
  | a :: as => tCons (tC (.ref a)) (tRefs as)
theorem refs_run : ∀ {as : List Addr} {σ : St} {H : Hp} {Q : List V → Hp → Prop}, Q (as.map .ref) H → tRefs as σ H Q
  | [], _, _, _, h => h
  | _ :: as, σ, H, Q, h => refs_run (as := as) (Q := fun xs H2 => Q (_ :: xs) H2) h
section
variable {K : PySem.W.Frag} {f : Fx} {ρ : DEnv} {E : XK} {ti : TE} {t : TA} {P : PyData → Prop} {D : DEnds} {Z : Value → XD → Prop} {tr : TS} {as : List Addr} {fns : List (Addr × Sp)} {γ : Type} {n i : Nat} {pre : γ → List DV → Prop} {post : γ → PyData → Prop} {exc : γ → Value → XD → Prop}
theorem run_callX {σ : St} {H : Hp} {Q : VK} (hl : as.length ≤ 1000) (c : γ) (e : EnvOk K f ρ σ H)
    (h : PEd K f ti ρ fun d => ∃ (q : Int) (a : Addr), d = .int q ∧ atI (as.map V.ref) q = some (.ref a) ∧ (a, spF K n pre post exc) ∈ fns ∧ PAd K f t ρ fun xs => xs.length = n ∧ pre c xs ∧ (∀ r, post c r → P r) ∧ ∀ C x, exc c C x → Z C x)
    (hq : ∀ d v H', Goes f H H' → Rep K (hide H' f) d v → P d → Q v H') (z : Wish K f E H Z) : tCallX fns E (tOp (rIxL K) (tLst (tRefs as)) ti) t σ H Q := by
  refine refs_run (as := as) ⟨Nat.le_of_lt (small1000 (show (as.map V.ref).length ≤ 1000 by rw [List.length_map]; exact hl)), fun p hp => ?_⟩
  have g0 : Goes f H (upd H p (.lst (as.map .ref))) := .of_same (same_new hp _) e.fd
  have np := fresh_ne e.fd hp
  refine h σ _ _ (e.mono g0) fun d v H1 g1 r1 ⟨q, a, ed, ha, hm, h2⟩ => ?_
  subst ed
  rw [rep_int.mp r1]
  have hp1 : H1 p = some (.lst (as.map .ref)) := (hide_of (g1.sm p _ (hide_get np upd_same))).2
  refine ⟨p, as.map .ref, q, .ref a, rfl, rfl, .of hp1, ha, a, _, rfl, hm, ?_⟩
  have g01 := g0.trans g1
  refine h2 σ H1 _ (e.mono g01) fun xs vs H2 g2 r2 ⟨l, hpre, kp, kz⟩ => ?_
  have gg := g01.trans g2
  exact ⟨f, xs, c, r2, l, g2.2, hpre, fun r v H' g' r' p' => hq r v H' (gg.trans g') r' (kp r p'), fun C o x H' g' fi p' => z C o x H' (gg.trans g') fi (kz C x p')⟩
theorem f_callX (hl : as.length ≤ 1000) (c : γ)
    (h : PEd K f ti ρ fun d => ∃ (q : Int) (a : Addr), d = .int q ∧ atI (as.map V.ref) q = some (.ref a) ∧ (a, spF K n pre post exc) ∈ fns ∧ PAd K f t ρ fun xs => xs.length = n ∧ pre c xs ∧ (∀ r, post c r → P r) ∧ ∀ C x, exc c C x → Z C x) :
    PEf K f E (tCallX fns E (tOp (rIxL K) (tLst (tRefs as)) ti) t) ρ P Z := fun σ H Q e hq z => run_callX hl c e h hq z
theorem b_setX (hl : as.length ≤ 1000) (c : γ)
    (h : PEd K f ti ρ fun d => ∃ (q : Int) (a : Addr), d = .int q ∧ atI (as.map V.ref) q = some (.ref a) ∧ (a, spF K n pre post exc) ∈ fns ∧ PAd K f t ρ fun xs => xs.length = n ∧ pre c xs ∧ (∀ r, post c r → PSd K f tr (ρ.set i (some (.dat r))) D) ∧ ∀ C x, exc c C x → Z C x) :
    PYd K f (bSetX fns (tOp (rIxL K) (tLst (tRefs as)) ti) t i tr) ρ D Z := fun E σ H N e nx rt bk ct z =>
  run_callX hl c e (P := fun r => PSd K f tr (ρ.set i (some (.dat r))) D) h (fun d v H' g' r' p => p _ _ _ ((e.mono g').set i (x := .dat d) r') (fun ρ2 σ2 H2 g2 => nx ρ2 σ2 H2 (g'.trans g2)) (fun d2 v2 H2 g2 => rt d2 v2 H2 (g'.trans g2)) (fun ρ2 σ2 H2 g2 => bk ρ2 σ2 H2 (g'.trans g2)) (fun ρ2 σ2 H2 g2 => ct ρ2 σ2 H2 (g'.trans g2))) z
end
end L2
end
section
namespace L2
open PySem PySem.Spec PyProof.Rows
def spW (K : PySem.W.Frag) (pre : List (List Int) → Prop) (post : PyData → Prop) : Sp := fun vs H Q _ => ∃ f v a as rows, vs = [v, .ref a] ∧ RepV K f H .feed v ∧ Sep f (a :: as) ∧ FOk (f.withs (a :: as)) H ∧ TabAt H a as rows ∧ pre rows ∧
  ∀ d u H', GoesW f (a :: as) H H' → Rep K (hide H' f) d u → post d → Q u H'
section
variable {K : PySem.W.Frag} {f : Fx} {a : Addr} {as : List Addr} {ρ : DEnv} {rows : List (List Int)} {O : DEnv → Option (List (List Int)) → Prop} {te ty tx : TE} {i n : Nat} {σ : St} {H H2 : Hp} {E : XK} {P : PyData → Prop} {pre : List (List Int) → Prop} {post : PyData → Prop}
abbrev readT (f : Fx) (ρ : DEnv) (i : Nat) (rows : List (List Int)) : DEnv := (ρ.map (dropOwn f.M.length)).set i (some (.dat (tabL rows)))
theorem TN.int {Q : VK} {B : Int → Prop} (se : Sep f (a :: as)) (x : TN K f a as H2 ρ (some rows) σ H) (hi : ρ[i]? = some (some (.own f.M.length))) (h : PEd K f te (readT f ρ i rows) fun d => ∃ v : Int, d = .int v ∧ B v) (k : ∀ v H', TN K f a as H2 ρ (some rows) σ H' → B v → Q (.int v) H') : te σ H Q :=
  h σ H _ (x.read se hi) fun d v H' g r ⟨vi, ed, p⟩ => by
    subst ed
    rw [rep_int.mp r]
    have g2 := x.beside se g
    exact k vi H' (x.go g2 (x.env.mono g2)) p
theorem u_asgR (hi : ρ[i]? = some (some (.own f.M.length))) (h : PEd K f te (readT f ρ i rows) fun d => ∃ v : Int, d = .int v ∧ O (ρ.set n (some (.dat (.int v)))) (some rows)) : PSu K f a as (tAsg te (gName n)) ρ (some rows) O := fun se σ H H2 E x nx =>
  x.int se hi h fun v H' x' p => nx _ _ _ _ ⟨x'.env.set n (x := .dat (.int v)) (show Rep K (hide H' (f.withs (a :: as))) (.int v) (.int v) from rep_int.mpr rfl), x'.sm, x'.kp, x'.tab⟩ p
theorem u_setR (hi : ρ[i]? = some (some (.own f.M.length)))
    (h : PEd K f te (readT f ρ i rows) fun d => ∃ v : Int, d = .int v ∧ PEd K f ty (readT f ρ i rows) fun y => ∃ r' : Int, y = .int r' ∧ ∃ r : Nat, r' = r ∧ ∃ row, rows[r]? = some row ∧ PEd K f tx (readT f ρ i rows) fun x => ∃ c' : Int, x = .int c' ∧ ∃ c : Nat, c' = c ∧ c < row.length ∧ O ρ (some (rows.set r (row.set c v)))) :
    PSu K f a as (tAsg te (gSub (tOp (rIxL K) (tVar i) ty) tx rSetL)) ρ (some rows) O := fun se σ H H2 E x n => by
  refine x.int se hi h fun v H1 x1 h2 => ⟨.ref a, x1.at hi, x1.int se hi h2 fun r' H3 x3 ⟨r, er, row, hr, h4⟩ => ?_⟩
  subst er
  have t3 := x3.tab rows rfl
  have hlt : r < as.length := by rw [t3.len]; exact (List.getElem?_eq_some_iff.mp hr).1
  have ha : as[r]? = some as[r] := List.getElem?_eq_getElem hlt
  refine ⟨a, as.map .ref, (r : Int), .ref as[r], rfl, rfl, .of t3.top, atI_nat (by rw [List.getElem?_map, ha]; rfl), ?_⟩
  refine x3.int se hi h4 fun c' H5 x5 ⟨c, ec, hc, ho⟩ => ?_
  subst ec
  refine ⟨as[r], row.map .int, (c : Int), c, rfl, rfl, (x5.tab rows rfl).row r _ row ha hr, ixN_of rfl (by rw [List.length_map]; exact hc), ?_⟩
  have x6 := x5.turn (row' := row.set c v) se hr hlt
  rw [List.map_set] at x6
  exact n ρ _ σ _ x6 ho
theorem u_popRow (hi : ρ[i]? = some (some (.own f.M.length))) (h : PEd K f ty (readT f ρ i rows) fun y => ∃ r' : Int, y = .int r' ∧ ∃ r : Nat, r' = r ∧ ∃ row, rows[r]? = some row ∧ row ≠ [] ∧ O ρ (some (rows.set r row.dropLast))) :
    PSu K f a as (tDrop (tBM0 K "list" rPop (tOp (rIxL K) (tVar i) ty))) ρ (some rows) O := fun se σ H H2 E x n => by
  refine ⟨.ref a, x.at hi, x.int se hi h fun r' H1 x1 ⟨r, er, row, hr, hne, ho⟩ => ?_⟩
  subst er
  have t1 := x1.tab rows rfl
  have hlt : r < as.length := by rw [t1.len]; exact (List.getElem?_eq_some_iff.mp hr).1
  have ha : as[r]? = some as[r] := List.getElem?_eq_getElem hlt
  have hp : 0 < row.length := List.length_pos_iff.mpr hne
  have hrow := t1.row r _ row ha hr
  refine ⟨a, as.map .ref, (r : Int), .ref as[r], rfl, rfl, .of t1.top, atI_nat (by rw [List.getElem?_map, ha]; rfl), Or.inl ⟨rfl, _, .of hrow⟩, as[r], row.map .int, .int row[row.length - 1], rfl, rfl, hrow, by rw [List.length_map, List.getElem?_map, List.getElem?_eq_getElem (by omega)]; rfl, ?_⟩
  have x4 := x1.turn (row' := row.dropLast) se hr hlt
  rw [List.map_dropLast] at x4
  exact n ρ _ σ _ x4 ho
theorem d_callW (hf : ρ[i]? = some (some .feed)) (h : PEdT K f te ρ fun rows => pre rows ∧ ∀ d, post d → P d) : PEd K f (tCall (spW K pre post) [] E (tCons (tVar i) (tCons te tNil))) ρ P := fun σ H Q e q => by
  obtain ⟨v, hv, rv⟩ := e.get i _ hf
  refine ⟨v, hv, h σ H _ e fun rows a as H1 g1 na nas t1 ⟨hp, k⟩ => ?_⟩
  have hn : ∀ D ∈ a :: as, H D = none := fun D hD => (List.mem_cons.mp hD).elim (fun z => z ▸ na) (nas D)
  have nf : ∀ D ∈ a :: as, ¬ (f.f = some D ∨ D ∈ f.M) := fun D hD => fresh_ne e.fd (hn D hD)
  have se : Sep f (a :: as) := ⟨t1.nd, fun D hD z => nf D hD (.inl z), fun D hD z => nf D hD (.inr z)⟩
  have sm1 := same_into (Ds := a :: as) g1.sm hn
  have there : ∀ D ∈ a :: as, ∃ o, H1 D = some o := fun D hD => by
    rcases List.mem_cons.mp hD with rfl | h
    · exact ⟨_, t1.top⟩
    · obtain ⟨j, hj⟩ := List.getElem?_of_mem h
      exact ⟨_, t1.row j D _ hj (List.getElem?_eq_getElem (by rw [← t1.len]; exact (List.getElem?_eq_some_iff.mp hj).1))⟩
  have fo1 : FOk (f.withs (a :: as)) H1 := ⟨g1.ok.fd, fun b hb => (List.mem_append.mp hb).elim (fun h => there b (List.mem_reverse.mp h)) (g1.ok.mm b), fun q eq hq => (List.mem_append.mp hq).elim (fun h => nf q (List.mem_reverse.mp h) (.inl eq)) (g1.ok.nm q eq)⟩
  exact ⟨f, v, a, as, rows, rfl, rv, se, fo1, t1, hp, fun d u H' g' r' pd => q d u H' ⟨sm1.trans g'.sm, g'.ok, fun b hb => (g'.kp b hb).trans (g1.kp b hb)⟩ r' (k d pd)⟩
end
section
variable {P : Program} {w : World} {K : PySem.W.Frag} {mg : Str → Option Value} {base : Heap} {k n : Nat} {x : Str} {st : Stmt} {ps N : List Str} {pre : List (List Int) → Prop} {post : PyData → Prop}
theorem Def.okW (F : Def K mg x st ps) (S : FnScope N ps (defScope st)) (hn : ps.length = 2)
    (h : ∀ (fa : Addr) (cdv : Value) (A : Around) (outer : List Env) (s : Shared) (H : Hp) (E : XK), Room k (A.deeper (envOfC x (defScope st) s.heap.objs.size fa cdv)) →
      ∃ t, PSs (cxOf CX0 P w K mg base N x (defScope st) fa cdv A outer s H E).nox (defBody st) t ∧ ∀ f a as rows, pre rows → PSw K f a as t (startV N [.feed, .own f.M.length]) (some rows) post) :
    FnIn P w K mg base (k + 1) x ps (spW K pre post) := by
  refine F.raw S (fun vs H Q E h => ?_) fun fa cdv A outer s H vs Q E hr hs => ?_
  · obtain ⟨f, v, a, as, rows, rfl, _⟩ := h
    rw [hn]
    rfl
  · obtain ⟨f, v, a, as, rows, rfl, rv, se, fo, t1, hp, q⟩ := hs
    obtain ⟨t, h1, h2⟩ := h fa cdv A outer s H E hr
    have rv2 : RepV K (f.withs (a :: as)) H (.own f.M.length) (.ref a) := ⟨a, by rw [rev_withs, List.getElem?_append_right (by simp)]; simp, rfl⟩
    exact ⟨t, h1, h2 f a as rows hp se _ H H _ ⟨startV_ok (.cons rv (.cons rv2 .nil)) fo, Same.refl _, fun _ _ => rfl, fun rows' e => by cases e; exact t1⟩ q⟩
end
end L2
namespace L2
open PySem PySem.Spec PyProof.Rows
section
variable {P : Program} {w : World} {K : PySem.W.Frag} {mg : Str → Option Value} {base : Heap} {CX : CXT} {k : Nat} {a : Addr} {sp : Sp} {fd : FuncData} {ps : List Str} {l : List (Addr × Sp)}
theorem fnat_nil : ∀ a sp, (a, sp) ∈ ([] : List (Addr × Sp)) → FnAt P w K mg base CX k a sp := fun _ _ h => nomatch h
theorem fnat_cons (h1 : FnOk P w K mg base CX k a fd ps sp) (h2 : PySem.W.keepIn K (.ref a) = true) (h3 : Binds K fd ps []) (r : ∀ a sp, (a, sp) ∈ l → FnAt P w K mg base CX k a sp) : ∀ a' sp', (a', sp') ∈ (a, sp) :: l → FnAt P w K mg base CX k a' sp' := fun a' sp' h => by
  rcases List.mem_cons.mp h with e | e
  · cases e
    exact ⟨fd, ps, h1, h2, h3⟩
  · exact r a' sp' e
end
end L2
end
section
namespace L2
open PySem PySem.Spec PyProof.Rows
section
variable {K : PySem.W.Frag} {f : Fx} {ρ : DEnv} {E : XK} {te : TE} {ts tu : TS} {RT : List (List Int) → Prop} {RD : PyData → Prop} {Z : Value → XD → Prop} {a : Addr} {as : List Addr} {R : Option (List (List Int))}
theorem g_ret (h : PEdT K f te ρ RT) : PSg K f E (tRet te) ρ RT RD Z := fun σ H N e nt nd z => h σ H _ e fun rows a as H1 g1 na nas t1 p => nt rows a as H1 g1 na nas t1 p
theorem w_mid (J : DEnv → Option (List (List Int)) → Prop) (h1 : PSu K f a as ts ρ R J) (h2 : ∀ ρ' R', J ρ' R' → PSw K f a as tu ρ' R' RD) : PSw K f a as (tSeq ts tu) ρ R RD :=
  w_seq fun se σ H H2 E x n => h1 se σ H H2 E x fun ρ' R' σ' H' x' j => n ρ' R' σ' H' x' (h2 ρ' R' j)
end
end L2
end
section
namespace My
open PySem PySem.Spec PyProof.Rows L2
def top (i : Nat) : Stmt := PySem.Challenge.pw_heightrings_k48_bad_tables_everywhere.main.body.getD i (.Pass ⟨0, 0, 0, 0⟩)
abbrev s_ask_table : Stmt := top 21
abbrev N_ask_table : List Str := ["rows", "at", "row"]
theorem sc_ask_table : FnScope N_ask_table ["rows"] (defScope s_ask_table) := ⟨rfl, rfl, rfl, by decide +kernel, rfl, by decide +kernel, by decide +kernel⟩
abbrev s_fits : Stmt := top 22
abbrev N_fits : List Str := ["things"]
theorem sc_fits : FnScope N_fits ["things"] (defScope s_fits) := ⟨rfl, rfl, rfl, by decide +kernel, rfl, by decide +kernel, by decide +kernel⟩
abbrev s_is_row : Stmt := top 23
abbrev N_is_row : List Str := ["row"]
theorem sc_is_row : FnScope N_is_row ["row"] (defScope s_is_row) := ⟨rfl, rfl, rfl, by decide +kernel, rfl, by decide +kernel, by decide +kernel⟩
abbrev s_turned : Stmt := top 24
abbrev N_turned : List Str := ["rows", "wide", "tall"]
theorem sc_turned : FnScope N_turned ["rows"] (defScope s_turned) := ⟨rfl, rfl, rfl, by decide +kernel, rfl, by decide +kernel, by decide +kernel⟩
abbrev s_mirrored : Stmt := top 25
abbrev N_mirrored : List Str := ["rows"]
theorem sc_mirrored : FnScope N_mirrored ["rows"] (defScope s_mirrored) := ⟨rfl, rfl, rfl, by decide +kernel, rfl, by decide +kernel, by decide +kernel⟩
abbrev s_raised : Stmt := top 26
abbrev N_raised : List Str := ["rows", "by", "higher"]
theorem sc_raised : FnScope N_raised ["rows", "by"] (defScope s_raised) := ⟨rfl, rfl, rfl, by decide +kernel, rfl, by decide +kernel, by decide +kernel⟩
abbrev s_span : Stmt := top 27
abbrev N_span : List Str := ["rows"]
theorem sc_span : FnScope N_span ["rows"] (defScope s_span) := ⟨rfl, rfl, rfl, by decide +kernel, rfl, by decide +kernel, by decide +kernel⟩
abbrev s_is_high : Stmt := top 35
abbrev N_is_high : List Str := ["rows", "cut", "x", "y"]
theorem sc_is_high : FnScope N_is_high ["rows", "cut", "x", "y"] (defScope s_is_high) := ⟨rfl, rfl, rfl, by decide +kernel, rfl, by decide +kernel, by decide +kernel⟩
abbrev s_gates : Stmt := top 36
abbrev N_gates : List Str := ["rows", "cut", "sides"]
theorem sc_gates : FnScope N_gates ["rows", "cut"] (defScope s_gates) := ⟨rfl, rfl, rfl, by decide +kernel, rfl, by decide +kernel, by decide +kernel⟩
abbrev s_ties : Stmt := top 37
abbrev N_ties : List Str := ["rows", "cut", "x", "y"]
theorem sc_ties : FnScope N_ties ["rows", "cut", "x", "y"] (defScope s_ties) := ⟨rfl, rfl, rfl, by decide +kernel, rfl, by decide +kernel, by decide +kernel⟩
abbrev s_goes : Stmt := top 38
abbrev N_goes : List Str := ["rows", "cut", "gate"]
theorem sc_goes : FnScope N_goes ["rows", "cut", "gate"] (defScope s_goes) := ⟨rfl, rfl, rfl, by decide +kernel, rfl, by decide +kernel, by decide +kernel⟩
abbrev s_place : Stmt := top 55
abbrev N_place : List Str := ["rows", "cut", "gate"]
theorem sc_place : FnScope N_place ["rows", "cut", "gate"] (defScope s_place) := ⟨rfl, rfl, rfl, by decide +kernel, rfl, by decide +kernel, by decide +kernel⟩
abbrev s_lines : Stmt := top 59
abbrev N_lines : List Str := ["rows", "cut", "through", "starts", "told", "passed", "start", "line", "gate"]
theorem sc_lines : FnScope N_lines ["rows", "cut"] (defScope s_lines) := ⟨rfl, rfl, rfl, by decide +kernel, rfl, by decide +kernel, by decide +kernel⟩
abbrev s_line_at : Stmt := top 61
abbrev N_line_at : List Str := ["rows", "cut", "gate"]
theorem sc_line_at : FnScope N_line_at ["rows", "cut", "gate"] (defScope s_line_at) := ⟨rfl, rfl, rfl, by decide +kernel, rfl, by decide +kernel, by decide +kernel⟩
abbrev s_regions : Stmt := top 63
abbrev N_regions : List Str := ["rows", "cut", "told", "placed", "point", "within", "other"]
theorem sc_regions : FnScope N_regions ["rows", "cut"] (defScope s_regions) := ⟨rfl, rfl, rfl, by decide +kernel, rfl, by decide +kernel, by decide +kernel⟩
abbrev s_region_of : Stmt := top 64
abbrev N_region_of : List Str := ["rows", "cut", "x", "y"]
theorem sc_region_of : FnScope N_region_of ["rows", "cut", "x", "y"] (defScope s_region_of) := ⟨rfl, rfl, rfl, by decide +kernel, rfl, by decide +kernel, by decide +kernel⟩
abbrev s_sides : Stmt := top 65
abbrev N_sides : List Str := ["rows", "cut", "places", "told", "word", "path", "first", "second"]
theorem sc_sides : FnScope N_sides ["rows", "cut"] (defScope s_sides) := ⟨rfl, rfl, rfl, by decide +kernel, rfl, by decide +kernel, by decide +kernel⟩
abbrev s_region_areas : Stmt := top 70
abbrev N_region_areas : List Str := ["rows", "cut", "region_at", "parts", "cell", "piece"]
theorem sc_region_areas : FnScope N_region_areas ["rows", "cut"] (defScope s_region_areas) := ⟨rfl, rfl, rfl, by decide +kernel, rfl, by decide +kernel, by decide +kernel⟩
abbrev s_ring_area : Stmt := top 71
abbrev N_ring_area : List Str := ["rows", "cut", "line", "word", "path"]
theorem sc_ring_area : FnScope N_ring_area ["rows", "cut", "line"] (defScope s_ring_area) := ⟨rfl, rfl, rfl, by decide +kernel, rfl, by decide +kernel, by decide +kernel⟩
abbrev s_nodes_at : Stmt := top 77
abbrev N_nodes_at : List Str := ["rows", "height", "least", "greatest", "regions_at", "below", "above", "told", "pair", "on_height", "in_band"]
theorem sc_nodes_at : FnScope N_nodes_at ["rows", "height"] (defScope s_nodes_at) := ⟨rfl, rfl, rfl, by decide +kernel, rfl, by decide +kernel, by decide +kernel⟩
abbrev s_tree : Stmt := top 78
abbrev N_tree : List Str := ["rows", "least", "greatest"]
theorem sc_tree : FnScope N_tree ["rows"] (defScope s_tree) := ⟨rfl, rfl, rfl, by decide +kernel, rfl, by decide +kernel, by decide +kernel⟩
abbrev s_first_wrong : Stmt := top 89
abbrev N_first_wrong : List Str := ["rows", "cut", "some", "seen", "at", "line", "gate"]
theorem sc_first_wrong : FnScope N_first_wrong ["rows", "cut", "some"] (defScope s_first_wrong) := ⟨rfl, rfl, rfl, by decide +kernel, rfl, by decide +kernel, by decide +kernel⟩
abbrev s_peaks : Stmt := top 97
abbrev N_peaks : List Str := ["rows", "told", "node", "height", "below", "above", "top", "in_band"]
theorem sc_peaks : FnScope N_peaks ["rows"] (defScope s_peaks) := ⟨rfl, rfl, rfl, by decide +kernel, rfl, by decide +kernel, by decide +kernel⟩
abbrev s_holds : Stmt := top 101
abbrev N_holds : List Str := ["line", "x", "y"]
theorem sc_holds : FnScope N_holds ["line", "x", "y"] (defScope s_holds) := ⟨rfl, rfl, rfl, by decide +kernel, rfl, by decide +kernel, by decide +kernel⟩
abbrev s_lies_in : Stmt := top 102
abbrev N_lies_in : List Str := ["rows", "cut", "told"]
theorem sc_lies_in : FnScope N_lies_in ["rows", "cut"] (defScope s_lies_in) := ⟨rfl, rfl, rfl, by decide +kernel, rfl, by decide +kernel, by decide +kernel⟩
abbrev s_law_feed : Stmt := top 105
abbrev N_law_feed : List Str := ["_law_script", "_law_k", "_law_cell"]
theorem sc_law_feed : FnScope N_law_feed ["_law_script", "_law_k"] (defScope s_law_feed) := ⟨rfl, rfl, rfl, by decide +kernel, rfl, by decide +kernel, by decide +kernel⟩
abbrev s_law_draw : Stmt := top 106
abbrev N_law_draw : List Str := ["_law_feed_here", "_law_many", "_law_found"]
theorem sc_law_draw : FnScope N_law_draw ["_law_feed_here", "_law_many"] (defScope s_law_draw) := ⟨rfl, rfl, rfl, by decide +kernel, rfl, by decide +kernel, by decide +kernel⟩
abbrev s_law_height : Stmt := top 107
abbrev N_law_height : List Str := ["_law_feed_here", "_law_far", "_law_base"]
theorem sc_law_height : FnScope N_law_height ["_law_feed_here", "_law_far", "_law_base"] (defScope s_law_height) := ⟨rfl, rfl, rfl, by decide +kernel, rfl, by decide +kernel, by decide +kernel⟩
abbrev s_law_table : Stmt := top 108
abbrev N_law_table : List Str := ["_law_feed_here", "_law_wide", "_law_high", "_law_far", "_law_base"]
theorem sc_law_table : FnScope N_law_table ["_law_feed_here"] (defScope s_law_table) := ⟨rfl, rfl, rfl, by decide +kernel, rfl, by decide +kernel, by decide +kernel⟩
abbrev s_law_spoiled : Stmt := top 110
abbrev N_law_spoiled : List Str := ["_law_feed_here", "_law_rows", "_law_way", "_law_at", "_law_some_here"]
theorem sc_law_spoiled : FnScope N_law_spoiled ["_law_feed_here", "_law_rows"] (defScope s_law_spoiled) := ⟨rfl, rfl, rfl, by decide +kernel, rfl, by decide +kernel, by decide +kernel⟩
abbrev s_law_due : Stmt := top 111
abbrev N_law_due : List Str := ["_law_rows", "_law_at", "_law_wide"]
theorem sc_law_due : FnScope N_law_due ["_law_rows"] (defScope s_law_due) := ⟨rfl, rfl, rfl, by decide +kernel, rfl, by decide +kernel, by decide +kernel⟩
abbrev s_law_some : Stmt := top 112
abbrev N_law_some : List Str := ["_law_rows", "_law_way"]
theorem sc_law_some : FnScope N_law_some ["_law_rows", "_law_way"] (defScope s_law_some) := ⟨rfl, rfl, rfl, by decide +kernel, rfl, by decide +kernel, by decide +kernel⟩
abbrev s_law_other : Stmt := top 113
abbrev N_law_other : List Str := ["_law_rows", "_law_way"]
theorem sc_law_other : FnScope N_law_other ["_law_rows", "_law_way"] (defScope s_law_other) := ⟨rfl, rfl, rfl, by decide +kernel, rfl, by decide +kernel, by decide +kernel⟩
abbrev s_law_told : Stmt := top 114
abbrev N_law_told : List Str := ["_law_rows", "_law_lot", "_law_way", "_law_found", "caught"]
theorem sc_law_told : FnScope N_law_told ["_law_rows", "_law_lot", "_law_way"] (defScope s_law_told) := ⟨rfl, rfl, rfl, by decide +kernel, rfl, by decide +kernel, by decide +kernel⟩
abbrev s_law : Stmt := top 115
abbrev N_law : List Str := ["_law_script", "_law_k", "_law_feed_here", "_law_rows", "_law_kept", "_law_due_here", "_law_lot", "_law_way"]
theorem sc_law : FnScope N_law ["_law_script"] (defScope s_law) := ⟨rfl, rfl, rfl, by decide +kernel, rfl, by decide +kernel, by decide +kernel⟩
abbrev si_NoTable : Stmt := (clsBody (top 11)).getD 0 (.Pass ⟨0, 0, 0, 0⟩)
theorem sc_init_NoTable : FnScope ["self", "at"] ["self", "at"] (defScope si_NoTable) := ⟨rfl, rfl, rfl, by decide +kernel, rfl, by decide +kernel, by decide +kernel⟩
def tab (rows : List (List Int)) : PyData := .list (rows.map fun r => .list (r.map .int))
structure Good (w : Nat) (rows : List (List Int)) : Prop where
  h1 : 2 ≤ rows.length
  h2 : rows.length ≤ 7
  w1 : 2 ≤ w
  w2 : w ≤ 7
  row : ∀ r ∈ rows, r.length = w
  hgt : ∀ r ∈ rows, ∀ n ∈ r, -1000000000 ≤ n ∧ n ≤ 1000000000
theorem Good.ne {w : Nat} {rows : List (List Int)} (g : Good w rows) : ∃ r rs, rows = r :: rs := by
  cases rows with
  | nil => have := g.h1; simp at this
  | cons r rs => exact ⟨r, rs, rfl⟩
theorem atI_map {α β : Type} {F : α → β} {xs : List α} {k : Int} {j : Nat} (hk : (j : Int) = k) (h : j < xs.length) : atI (xs.map F) k = some (F xs[j]) := by
  subst hk
  exact atI_nat (by rw [List.getElem?_map, List.getElem?_eq_getElem h]; rfl)
local macro_rules | `(tactic| walk_at "dl") => `(tactic| first
  | (with_reducible show PSd _ _ (tAsg _ (gSub (tVar _) (tC (V.int 0)) rSetL)) _ _; refine s_feed0 rfl ?_)
  | (with_reducible show PSd _ _ (tAsg _ (gSub (tVar _) (tC (V.int 1)) rSetL)) _ _; refine s_feed1 rfl ?_)
  | with_reducible refine s_seq ?_ | with_reducible refine s_if ?_ | with_reducible refine s_ret ?_ | with_reducible refine s_asg ?_ | with_reducible refine s_drop ?_ | with_reducible refine s_nil ?_
  | with_reducible refine g_name ?_ | with_reducible refine g_tup rfl ?_ | with_reducible refine gs_cons ?_ | with_reducible refine gs_nil ?_
  | with_reducible refine t_test ?_ | with_reducible refine t_b ?_ | with_reducible refine t_and ?_ | with_reducible refine t_or ?_ | with_reducible refine t_not ?_ | with_reducible refine t_tru ?_
  | with_reducible refine d_chain ?_ | with_reducible refine d_opB ?_ | with_reducible refine d_opI ?_ | with_reducible refine d_opIC ?_ | with_reducible refine d_eqD ?_
  | with_reducible refine d_if ?_ | with_reducible refine d_andV ?_ | with_reducible refine d_orV ?_ | with_reducible refine d_notV ?_
  | with_reducible refine d_int ?_ | with_reducible refine d_bl ?_ | with_reducible refine d_str ?_ | with_reducible refine d_non ?_
  | (with_reducible show PEd _ _ (tVar _) _ _; refine d_var rfl ?_)
  | (with_reducible show PEd _ _ (tOp (rIxL _) (tVar _) _) _ _; refine d_ixF rfl ?_)
  | with_reducible refine d_ixL ?_ | with_reducible refine d_ixT ?_
  | (with_reducible show PAd _ _ (tCons (tVar _) _) _ _; refine a_feed rfl ?_)
  | with_reducible refine a_cons ?_ | with_reducible refine a_nil ?_
  | with_reducible refine d_tup ?_ | with_reducible refine d_lst ?_ | with_reducible refine d_len ?_ | with_reducible refine d_minL ?_ | with_reducible refine d_maxL ?_ | with_reducible refine d_cbI2 ?_ | with_reducible refine d_cbI1 ?_
  | (with_reducible show (∃ _, _) ∨ (∃ _, _); refine Or.inl ⟨_, rfl, ?_⟩) | refine ⟨_, rfl, ?_⟩ | refine ⟨_, _, rfl, ?_⟩
  | (with_reducible show (_ = _ ∧ ∀ _, _) ∨ _; first | refine Or.inl ⟨rfl, fun a ha => ?_⟩ | refine Or.inr ⟨rfl, fun b hb hb' => ?_⟩)
  | refine ⟨rfl, ?_⟩
  | (refine And.intro ?side ?_; (case side => first | omega | exact Int.ediv_nonneg (by omega) (by omega) | exact Int.emod_nonneg _ (by omega) | exact Int.emod_lt_of_pos _ (by omega) | decide | exact ⟨by decide, by decide, by decide⟩ | exact ⟨by omega, by omega⟩ | exact Or.inl ⟨by omega, by omega⟩ | exact Or.inr ⟨by omega, by omega⟩ | (refine Nat.le_trans (Nat.le_of_eq (by rfl)) (show _ ≤ 1000 by decide)) | ((repeat' apply And.intro) <;> first | rfl | omega | decide | assumption) | (simp [PyData.depth]))))
section
variable {P : Program} {w : World} {K : PySem.W.Frag} {mg : Str → Option Value} {base : Heap} {k : Nat}
theorem ok_fits (F : Def K mg "fits" s_fits ["things"]) (m_len : mg "len" = none) (m_FEWEST : ∃ t, mg "FEWEST" = some (.int 2 t)) (m_MOST : ∃ t, mg "MOST" = some (.int 7 t)) :
    FnIn P w K mg base (k + 1) "fits" ["things"] (spD K 1 (fun (c : List PyData) xs => xs = [.dat (.list c)]) fun c r => r = .bool (decide (2 ≤ c.length ∧ c.length ≤ 7))) := by
  obtain ⟨_, m_FEWEST⟩ := m_FEWEST
  obtain ⟨_, m_MOST⟩ := m_MOST
  refine F.ok sc_fits rfl fun fa cdv A outer s H E hr => ⟨_, (pss_one (ps_ret (pe_chain op_le op_le (pe_globI rfl m_FEWEST) (pe_callB (call_lenK (K := K) rfl) rfl m_len PySem.boot_len (pa_cons (pv 0) pa_nil)) (pe_globI rfl m_MOST)))), ?_⟩
  rintro f xs ds hl rfl
  try dsimp only [cxOf, cxComp]
  repeat walk_at "dl"
  by_cases h : 2 ≤ ds.length
  · rw [if_pos (by simp; omega)]
    repeat walk_at "dl"
    show PyData.bool _ = _
    congr 1
    by_cases h7 : ds.length ≤ 7 <;> simp [h, h7] <;> omega
  · rw [if_neg (by simp; omega)]
    show PyData.bool _ = _
    congr 1
    simp [h]
theorem ok_is_row (F : Def K mg "is_row" s_is_row ["row"]) (m_min : mg "min" = none) (m_max : mg "max" = none) (m_LEAST : ∃ t, mg "LEAST" = some (.int (-1000000000) t)) (m_GREATEST : ∃ t, mg "GREATEST" = some (.int 1000000000 t))
    (G_fits : FnIn P w K mg base k "fits" ["things"] (spD K 1 (fun (c : List PyData) xs => xs = [.dat (.list c)]) fun c r => r = .bool (decide (2 ≤ c.length ∧ c.length ≤ 7)))) :
    FnIn P w K mg base (k + 1) "is_row" ["row"] (spD K 1 (fun (c : List Int) xs => xs = [.dat (.list (c.map .int))]) fun c r => r = .bool (decide (2 ≤ c.length ∧ c.length ≤ 7 ∧ ∀ n ∈ c, -1000000000 ≤ n ∧ n ≤ 1000000000))) := by
  obtain ⟨_, m_LEAST⟩ := m_LEAST
  obtain ⟨_, m_GREATEST⟩ := m_GREATEST
  refine F.ok sc_is_row rfl fun fa cdv A outer s H E hr => ⟨_, (pss_one (ps_ret (pe_and (pe_callI G_fits hr rfl (pa_cons (pv 0) pa_nil)) (pe_and (pe_cmpR op_le (pe_globI rfl m_LEAST) (pe_callB (call_minK (K := K) rfl rfl) rfl m_min boot_min (pa_cons (pv 0) pa_nil)) (nomark _)) (pe_one (pe_cmpR op_le (pe_callB (call_maxK (K := K) rfl rfl) rfl m_max boot_max (pa_cons (pv 0) pa_nil)) (pe_globI rfl m_GREATEST) (nomark _))))))), ?_⟩
  rintro f xs c hl rfl
  try dsimp only [cxOf, cxComp]
  repeat walk_at "dl"
  refine d_call (c.map .int) ?_
  repeat walk_at "dl"
  rintro r rfl
  rw [List.length_map]
  repeat walk_at "dl"
  by_cases h : 2 ≤ c.length ∧ c.length ≤ 7
  · have hne : c ≠ [] := by rintro rfl; simp at h
    rw [if_pos (by simpa using h)]
    repeat walk_at "dl"
    intro M hM hM'
    repeat walk_at "dl"
    by_cases h2 : -1000000000 ≤ M
    · rw [if_pos (by simpa using h2)]
      repeat walk_at "dl"
      intro M' hN hN'
      repeat walk_at "dl"
      show PyData.bool _ = _
      congr 1
      rw [decide_eq_decide]
      refine ⟨fun q => ⟨h.1, h.2, fun n hn => ⟨Int.le_trans h2 (hM' n hn), Int.le_trans (hN' n hn) q⟩⟩, fun q => (q.2.2 M' hN).2⟩
    · rw [if_neg (by simpa using h2)]
      show PyData.bool _ = _
      congr 1
      symm
      rw [decide_eq_false_iff_not]
      exact fun q => h2 (q.2.2 M hM).1
  · rw [if_neg (by simpa using h)]
    show PyData.bool _ = _
    congr 1
    symm
    rw [decide_eq_false_iff_not]
    exact fun q => h ⟨q.1, q.2.1⟩
theorem ok_draw (F : Def K mg "_law_draw" s_law_draw ["_law_feed_here", "_law_many"]) : FnIn P w K mg base (k + 1) "_law_draw" ["_law_feed_here", "_law_many"] (spD K 2 (fun (c : Int) xs => xs = [.feed, .dat (.int c)] ∧ 0 < c ∧ c < 1152921504606846976) fun c r => ∃ i : Int, r = .int i ∧ 0 ≤ i ∧ i < c) := by
  refine F.ok sc_law_draw rfl fun fa cdv A outer s H E hr => ⟨_, (pss_cons (ps_if (pt_cmpR op_ge (pe_ix (ix_listK (K := K) rfl) (pv 0) pe_int (fun _ _ => rfl)) (pe_op op_pow pe_int pe_int) (nomark _)) (pss_cons (ps_set (i := 2) sc_law_draw.nd rfl (Or.inl rfl) (pe_op op_mod (pe_ix (ix_listK (K := K) rfl) (pv 0) pe_int (fun _ _ => rfl)) (pv 1))) (pss_cons (ps_asg (pe_op op_fdivW (pe_ix (ix_listK (K := K) rfl) (pv 0) pe_int (fun _ _ => rfl)) (pv 1)) (pg_sub (pv 0) pe_int set_list)) (pss_one (ps_ret (pv 2))))) pss_nil) (pss_cons (ps_asg (pe_op op_mod (pe_op op_add (pe_op op_add (pe_op op_mul (pe_ix (ix_listK (K := K) rfl) (pv 0) pe_int (fun _ _ => rfl)) pe_int) (pe_op op_mod (pe_ix (ix_listK (K := K) rfl) (pv 0) pe_int (fun _ _ => rfl)) pe_int)) pe_int) pe_int) (pg_sub (pv 0) pe_int set_list)) (pss_one (ps_ret (pe_op op_mod (pe_op op_fdivW (pe_op op_mod (pe_op op_mul (pe_ix (ix_listK (K := K) rfl) (pv 0) pe_int (fun _ _ => rfl)) pe_int) pe_int) pe_int) (pv 1)))))), ?_⟩
  rintro f xs c hl ⟨rfl, c0, c1⟩
  try dsimp only [cxOf, cxComp]
  repeat walk_at "dl"
  split
  · repeat walk_at "dl"
    exact Int.emod_lt_of_pos _ c0
  · repeat walk_at "dl"
    exact Int.emod_lt_of_pos _ c0
abbrev spDraw (K : PySem.W.Frag) : Sp := spD K 2 (fun (c : Int) xs => xs = [.feed, .dat (.int c)] ∧ 0 < c ∧ c < 1152921504606846976) fun c r => ∃ i : Int, r = .int i ∧ 0 ≤ i ∧ i < c
abbrev spHeight (K : PySem.W.Frag) : Sp := spD K 3 (fun (c : Int × Int) xs => xs = [.feed, .dat (.int c.1), .dat (.int c.2)] ∧ 0 ≤ c.1 ∧ c.1 ≤ 10 ∧ -1000000000 ≤ c.2 ∧ c.2 ≤ 999999991) fun c r => ∃ i : Int, r = .int i ∧ -1000000000 ≤ i ∧ i ≤ 1000000000
theorem ok_height (F : Def K mg "_law_height" s_law_height ["_law_feed_here", "_law_far", "_law_base"]) (m_min : mg "min" = none) (G__law_draw : FnIn P w K mg base k "_law_draw" ["_law_feed_here", "_law_many"] (spDraw K)) :
    FnIn P w K mg base (k + 1) "_law_height" ["_law_feed_here", "_law_far", "_law_base"] (spHeight K) := by
  refine F.ok sc_law_height rfl fun fa cdv A outer s H E hr => ⟨_, (pss_cons (ps_if (pt_cmpR op_gt (pv 1) pe_int (nomark _)) (pss_one (ps_ret (pe_op op_add (pv 2) (pe_callI G__law_draw hr rfl (pa_cons (pv 0) (pa_cons (pv 1) pa_nil)))))) pss_nil) (pss_one (ps_ret (pe_callB (call_min2 rfl) rfl m_min boot_min (pa_cons (pe_op op_pow pe_int pe_int) (pa_cons (pe_op op_sub (pe_op op_add (pe_op op_mul (pe_callI G__law_draw hr rfl (pa_cons (pv 0) (pa_cons pe_int pa_nil))) pe_int) (pe_callI G__law_draw hr rfl (pa_cons (pv 0) (pa_cons pe_int pa_nil)))) (pe_op op_pow pe_int pe_int)) pa_nil)))))), ?_⟩
  rintro f xs ⟨far, bs⟩ hl ⟨rfl, c0, c1, c2, c3⟩
  dsimp only at c0 c1 c2 c3
  try dsimp only [cxOf, cxComp]
  repeat walk_at "dl"
  by_cases h : 0 < far
  · rw [if_pos (by simpa using h)]
    repeat walk_at "dl"
    refine d_call far ?_
    repeat walk_at "dl"
    rintro r ⟨i, rfl, h1, h2⟩
    repeat walk_at "dl"
    show bs + i ≤ 1000000000
    omega
  · rw [if_neg (by simpa using h)]
    repeat walk_at "dl"
    refine d_call 20001 ?_
    repeat walk_at "dl"
    rintro r ⟨i, rfl, h1, h2⟩
    repeat walk_at "dl"
    refine d_call 100000 ?_
    repeat walk_at "dl"
    rintro r ⟨j, rfl, h3, h4⟩
    repeat walk_at "dl"
    have e9 : (10 : Int) ^ Int.toNat 9 = 1000000000 := by decide
    rw [e9]
    omega
end
open PySem PySem.Spec PyProof.Rows L2
local macro_rules | `(tactic| walk_at "dl") => `(tactic| first
  | (with_reducible show PSd _ _ (tAsg _ (gSub (tVar _) (tC (V.int 0)) rSetL)) _ _; refine s_feed0 rfl ?_)
  | (with_reducible show PSd _ _ (tAsg _ (gSub (tVar _) (tC (V.int 1)) rSetL)) _ _; refine s_feed1 rfl ?_)
  | with_reducible refine s_seq ?_ | with_reducible refine s_if ?_ | with_reducible refine s_ret ?_ | with_reducible refine s_asg ?_ | with_reducible refine s_drop ?_ | with_reducible refine s_nil ?_
  | with_reducible refine g_name ?_ | with_reducible refine g_tup rfl ?_ | with_reducible refine gs_cons ?_ | with_reducible refine gs_nil ?_
  | with_reducible refine t_test ?_ | with_reducible refine t_b ?_ | with_reducible refine t_and ?_ | with_reducible refine t_or ?_ | with_reducible refine t_not ?_ | with_reducible refine t_tru ?_
  | with_reducible refine d_chain ?_ | with_reducible refine d_opB ?_ | with_reducible refine d_opI ?_ | with_reducible refine d_opIC ?_ | with_reducible refine d_eqD ?_
  | with_reducible refine d_if ?_ | with_reducible refine d_andV ?_ | with_reducible refine d_orV ?_ | with_reducible refine d_notV ?_
  | with_reducible refine d_int ?_ | with_reducible refine d_bl ?_ | with_reducible refine d_str ?_ | with_reducible refine d_non ?_
  | (with_reducible show PEd _ _ (tVar _) _ _; refine d_var rfl ?_)
  | (with_reducible show PEd _ _ (tOp (rIxL _) (tVar _) _) _ _; refine d_ixF rfl ?_)
  | with_reducible refine d_ixL ?_ | with_reducible refine d_ixT ?_
  | (with_reducible show PAd _ _ (tCons (tVar _) _) _ _; refine a_feed rfl ?_)
  | with_reducible refine a_cons ?_ | with_reducible refine a_nil ?_
  | with_reducible refine d_catT ?_ | with_reducible refine d_cut ?_ | with_reducible refine po_no ?_ | with_reducible refine po_at ?_ | with_reducible refine d_int1 ?_ | with_reducible refine d_tupof ?_ | with_reducible refine t_yes ?_
  | with_reducible refine d_tup ?_ | with_reducible refine d_lst ?_ | with_reducible refine d_len ?_ | with_reducible refine d_minL ?_ | with_reducible refine d_maxL ?_ | with_reducible refine d_cbI2 ?_ | with_reducible refine d_cbI1 ?_
  | (with_reducible show (∃ _, _) ∨ (∃ _, _); first | refine Or.inl ⟨_, rfl, ?_⟩ | refine Or.inr ⟨_, rfl, ?_⟩) | refine ⟨_, rfl, ?_⟩ | refine ⟨_, _, rfl, ?_⟩
  | (with_reducible show (_ = _ ∧ ∀ _, _) ∨ _; first | refine Or.inl ⟨rfl, fun a ha => ?_⟩ | refine Or.inr ⟨rfl, fun b hb hb' => ?_⟩)
  | (with_reducible show PyData.canLay0 _ = true ∧ _; refine And.intro (by first | rfl | assumption | decide +kernel) ?_)
  | (with_reducible show min _ _ ≤ 60 ∧ _; refine And.intro (by first | assumption | (simp [PyData.depth, PyData.depthAll]; done)) ?_)
  | refine ⟨rfl, ?_⟩
  | (refine And.intro ?side ?_; (case side => first | omega | exact Int.ediv_nonneg (by omega) (by omega) | exact Int.emod_nonneg _ (by omega) | exact Int.emod_lt_of_pos _ (by omega) | decide | exact ⟨by decide, by decide, by decide⟩ | exact ⟨by omega, by omega⟩ | exact Or.inl ⟨by omega, by omega⟩ | exact Or.inr ⟨by omega, by omega⟩ | (refine Nat.le_trans (Nat.le_of_eq (by rfl)) (show _ ≤ 1000 by decide)) | ((repeat' apply And.intro) <;> first | rfl | omega | decide | assumption) | (simp [PyData.depth]))))
def rowOk (r : List Int) : Bool := decide (2 ≤ r.length ∧ r.length ≤ 7 ∧ ∀ n ∈ r, -1000000000 ≤ n ∧ n ≤ 1000000000)
def badAt (w0 : Nat) (r : List Int) : Bool := decide (r.length ≠ w0) || !rowOk r
def dueT (rows : List (List Int)) : Option Int := if 2 ≤ rows.length ∧ rows.length ≤ 7 then (rows.findIdx? (badAt (rows.getD 0 []).length)).map fun i => (i : Int) else some (-1)
theorem due_at {rows : List (List Int)} {i : Nat} {r : List Int} (h : 2 ≤ rows.length ∧ rows.length ≤ 7) (hr : rows[i]? = some r) (b : badAt (rows.getD 0 []).length r = true) (pre : ∀ j : Nat, j < i → ∀ q, rows[j]? = some q → badAt (rows.getD 0 []).length q = false) : dueT rows = some (i : Int) := by
  unfold dueT
  rw [if_pos h]
  have hi : i < rows.length := (List.getElem?_eq_some_iff.mp hr).1
  have : rows.findIdx? (badAt (rows.getD 0 []).length) = some i := by
    rw [List.findIdx?_eq_some_iff_getElem]
    refine ⟨hi, ?_, fun j hj => ?_⟩
    · rw [(List.getElem?_eq_some_iff.mp hr).2]; exact b
    · rw [pre j hj _ (List.getElem?_eq_getElem (by omega))]; exact Bool.false_ne_true
  rw [this]
  rfl
theorem due_none {rows : List (List Int)} (h : 2 ≤ rows.length ∧ rows.length ≤ 7) (pre : ∀ j : Nat, j < rows.length → ∀ q, rows[j]? = some q → badAt (rows.getD 0 []).length q = false) : dueT rows = none := by
  unfold dueT
  rw [if_pos h]
  have : rows.findIdx? (badAt (rows.getD 0 []).length) = none := by
    rw [List.findIdx?_eq_none_iff]
    intro q hq
    obtain ⟨j, hj⟩ := List.getElem?_of_mem hq
    exact pre j (List.getElem?_eq_some_iff.mp hj).1 q hj
  rw [this]
  rfl
theorem ok_init_NoTable {P : Program} {w : World} {K : PySem.W.Frag} {mg : Str → Option Value} {base : Heap} {C f D : Addr} {fd : FuncData} (hfc : fieldCls K C f D "at" = true) (hD : mg "HeightError" = some (.ref D)) (F : Fun K "__init__" "NoTable.__init__" si_NoTable f fd) : InitOk P w K mg base 1 C "at" := by
  have T := FldC.of hfc
  refine ⟨f, D, fd, ["self", "at"], T, F.ok sc_init_NoTable (fun vs H Q E h => ?_) (fun cdv A outer s H vs Q E hr hs => ⟨_, pss_cons (ps_expr (pe_baseInit T rfl hD (pa_cons (pv 0) (pa_cons pe_str pa_nil)))) (pss_one (ps_fldX T (pv 0) (pv 1))), ?_⟩), F.binds (ps := ["self", "at"]) fun _ _ _ _ _ _ us hl => match us, hl with | [_, _], _ => rfl⟩
  · obtain ⟨a, y, rfl, _⟩ := h
    rfl
  · obtain ⟨a, y, rfl, hH, q⟩ := hs
    exact ⟨.ref a, rfl, a, _, rfl, by decide, hH, y, rfl, .ref a, rfl, a, rfl, hH, fun dx h1 h2 => q dx h1 h2⟩
section
variable {P : Program} {w : World} {K : PySem.W.Frag} {mg : Str → Option Value} {base : Heap} {k : Nat}
abbrev spFits (K : PySem.W.Frag) : Sp := spD K 1 (fun (c : List PyData) xs => xs = [.dat (.list c)]) fun c r => r = .bool (decide (2 ≤ c.length ∧ c.length ≤ 7))
abbrev spIsRow (K : PySem.W.Frag) : Sp := spD K 1 (fun (c : List Int) xs => xs = [.dat (.list (c.map .int))]) fun c r => r = .bool (decide (2 ≤ c.length ∧ c.length ≤ 7 ∧ ∀ n ∈ c, -1000000000 ≤ n ∧ n ≤ 1000000000))
abbrev spAskF (K : PySem.W.Frag) (C_NoTable : Addr) : Sp := spF K 1 (fun (c : List (List Int)) xs => xs = [.dat (tab c)]) (fun c r => r = .bool true ∧ dueT c = none) fun c Cv x => Cv = .ref C_NoTable ∧ ∃ i, dueT c = some i ∧ x = some (("at" : Str), PyData.int i)
theorem ok_askF {C_NoTable : Addr} (F : Def K mg "ask_table" s_ask_table ["rows"]) (m_len : mg "len" = none) (m_enumerate : mg "enumerate" = none) (m_NoTable : mg "NoTable" = some (.ref C_NoTable)) (I_NoTable : InitOk P w K mg base 1 C_NoTable "at")
    (G_fits : FnIn P w K mg base (k + 2) "fits" ["things"] (spFits K)) (G_is_row : FnIn P w K mg base (k + 2) "is_row" ["row"] (spIsRow K)) : FnInF P w K mg base (k + 3) "ask_table" ["rows"] (spAskF K C_NoTable) := by
  refine F.okF (k := k + 2) sc_ask_table rfl fun fa cdv A outer s H E hr => ⟨_, (pss_cons (ps_if (pt_not (pt_truK (K := K) rfl (pe_callI G_fits hr rfl (pa_cons (pv 0) pa_nil)) (fun _ => rfl))) (pss_one (ps_raiseC I_NoTable (hr.mono (by omega)) rfl m_NoTable (pa_cons (pe_un un_neg pe_int) pa_nil))) pss_nil) (pss_cons (ps_for PassesOwn.leaving rfl (pi_enumK (K := K) rfl rfl m_enumerate (pa_cons (pv 0) pa_nil)) (pg_tupK (K := K) (n := 2) rfl rfl (pgs_cons (pg_name (i := 1) sc_ask_table.nd rfl (Or.inl rfl) (Or.inr rfl)) (pgs_cons (pg_name (i := 2) sc_ask_table.nd rfl (Or.inl rfl) (Or.inr rfl)) pgs_nil))) (pss_one (ps_if (PW.pt (pw_or (pt_cmpR (op_neK (K := K) rfl hr.units) (pe_callB (call_lenK (K := K) rfl) rfl m_len PySem.boot_len (pa_cons (pv 2) pa_nil)) (pe_callB (call_lenK (K := K) rfl) rfl m_len PySem.boot_len (pa_cons (pe_ix (ix_listK (K := K) rfl) (pv 0) pe_int (fun _ _ => rfl)) pa_nil)) (nomark _)) (pw_or1 (pt_not (pt_truK (K := K) rfl (pe_callI G_is_row hr rfl (pa_cons (pv 2) pa_nil)) (fun _ => rfl)))))) (pss_one (ps_raiseC I_NoTable (hr.mono (by omega)) rfl m_NoTable (pa_cons (pv 1) pa_nil))) pss_nil))) (pss_one (ps_ret pe_bl)))), ?_⟩
  rintro f xs rows hl rfl
  try dsimp only [cxOf, cxComp]
  refine f_seq (f_if (t_not (t_tru (d_call (rows.map fun r => .list (r.map .int)) ?_))))
  repeat walk_at "dl"
  rintro _ rfl
  refine ⟨_, rfl, ?_⟩
  rw [List.length_map]
  by_cases h : 2 ≤ rows.length ∧ rows.length ≤ 7
  case neg =>
    rw [decide_eq_false h, Bool.not_false, if_pos rfl]
    refine f_raise (a_cons (d_neg ?_))
    repeat walk_at "dl"
    exact ⟨-1, by unfold dueT; rw [if_neg h], rfl⟩
  rw [decide_eq_true h, Bool.not_true, if_neg Bool.false_ne_true]
  refine f_stmt ?_
  repeat walk_at "dl"
  refine f_seq (f_for (i_enum ?_))
  repeat walk_at "dl"
  refine ⟨fun i ρ => (∃ a b, ρ = [some (.dat (tab rows)), a, b]) ∧ ∀ j : Nat, j < i → ∀ q, rows[j]? = some q → badAt (rows.getD 0 []).length q = false, ⟨⟨_, _, rfl⟩, fun j hj => absurd hj (Nat.not_lt_zero _)⟩, ?_, ?_⟩
  · rintro i d _ hd ⟨⟨a, b, rfl⟩, pre⟩
    unfold enumD at hd
    rw [List.getElem?_mapIdx, List.getElem?_map] at hd
    obtain ⟨r, er, rfl⟩ : ∃ r : List Int, rows[i]? = some r ∧ d = .tuple [.int (i : Int), .list (r.map .int)] := by
      cases er : rows[i]? with
      | none => rw [er] at hd; cases hd
      | some r => rw [er] at hd; cases hd; exact ⟨r, rfl, rfl⟩
    obtain ⟨r0, e0⟩ : ∃ r0, rows[0]? = some r0 := ⟨_, List.getElem?_eq_getElem (by omega)⟩
    have g0 : (rows.getD 0 []).length = r0.length := by rw [List.getD_eq_getElem?_getD, e0]; rfl
    rw [g0] at pre
    have at0 : atI (rows.map fun q => PyData.list (q.map .int)) 0 = some (.list (r0.map .int)) := atI_nat (j := 0) (by rw [List.getElem?_map, e0]; rfl)
    have bad : badAt r0.length r = true → dueT rows = some (i : Int) := fun z => due_at h er (by rw [g0]; exact z) (by rw [g0]; exact pre)
    have fine : badAt r0.length r = false → ∀ j : Nat, j < i + 1 → ∀ q, rows[j]? = some q → badAt (rows.getD 0 []).length q = false := fun z j hj q hq => by
      rw [g0]
      by_cases ej : j = i
      · subst ej; rw [er] at hq; cases hq; exact z
      · exact pre j (by omega) q hq
    refine g_tup rfl (gs_cons (g_name (gs_cons (g_name (gs_nil (f_if ?_))))))
    repeat walk_at "dl"
    refine ⟨_, at0, ?_⟩
    repeat walk_at "dl"
    rw [if_pos rfl, List.length_map, List.length_map]
    show (if (!(((r.length : Nat) : Int) == ((r0.length : Nat) : Int))) = true then _ else _)
    by_cases hw : r.length = r0.length
    · rw [hw, beq_self_eq_true, Bool.not_true, if_neg Bool.false_ne_true]
      refine t_not (t_tru (d_call r ?_))
      repeat walk_at "dl"
      rintro _ rfl
      refine ⟨_, rfl, ?_⟩
      show (if (!(rowOk r)) = true then _ else _)
      cases ro : rowOk r with
      | true =>
        rw [Bool.not_true, if_neg Bool.false_ne_true]
        refine f_stmt ?_
        repeat walk_at "dl"
        exact fine (by unfold badAt; rw [ro, hw]; simp)
      | false =>
        rw [Bool.not_false, if_pos rfl]
        refine f_raise ?_
        repeat walk_at "dl"
        exact ⟨_, bad (by unfold badAt; rw [ro]; simp), rfl⟩
    · rw [beq_eq_false_iff_ne.mpr (fun z => hw (by omega)), Bool.not_false, if_pos rfl, if_pos rfl]
      refine f_raise ?_
      repeat walk_at "dl"
      exact ⟨_, bad (by unfold badAt; simp [hw]), rfl⟩
  · rintro _ ⟨⟨a, b, rfl⟩, pre⟩
    refine f_stmt ?_
    repeat walk_at "dl"
    refine due_none h ?_
    unfold enumD at pre
    rw [List.length_mapIdx, List.length_map] at pre
    exact pre
end
open PySem PySem.Spec PyProof.Rows L2
abbrev TR := List (List Int) × Int × List DV
abbrev preR (c : TR) (xs : List DV) : Prop := xs = .dat (tab c.1) :: c.2.2 ∧ dueT c.1 = some c.2.1
abbrev excR (C : Addr) (c : TR) (Cv : Value) (x : XD) : Prop := Cv = .ref C ∧ x = some (("at" : Str), PyData.int c.2.1)
abbrev spR (K : PySem.W.Frag) (C : Addr) (n : Nat) : Sp := spF K n preR (fun _ _ => False) (excR C)
section
variable {P : Program} {w : World} {K : PySem.W.Frag} {mg : Str → Option Value} {base : Heap} {k : Nat}
theorem bad_first {C : Addr} {f : Fx} {E : XK} {ρ : DEnv} {D : DEnds} {c : TR} (h0 : ρ[0]? = some (some (.dat (tab c.1)))) (e : dueT c.1 = some c.2.1) : PSf K f E (tSeq (tDrop (tCall (spAskF K C) [] E (tCons (tVar 0) tNil))) tNever) ρ D (excR C c) := by
  refine f_seq (f_drop (f_call c.1 (a_cons (d_var h0 (a_nil ⟨rfl, rfl, ?_, ?_⟩)))))
  · rintro _ ⟨rfl, z⟩
    rw [e] at z
    cases z
  · rintro C x ⟨rfl, i', z, rfl⟩
    rw [e] at z
    cases z
    exact ⟨rfl, rfl⟩
theorem ok_turned {C_NoTable : Addr} (F : Def K mg "turned" s_turned ["rows"]) (G_ask_table : FnInF P w K mg base k "ask_table" ["rows"] (spAskF K C_NoTable)) : FnInF P w K mg base (k + 1) "turned" ["rows"] (spR K C_NoTable 1) := by
  refine F.okF sc_turned rfl fun fa cdv A outer s H E hr => ⟨_, (pss_cons (ps_expr (pe_callF G_ask_table hr rfl (pa_cons (pv 0) pa_nil))) pss_never), ?_⟩
  rintro f xs c hl ⟨rfl, e⟩
  exact bad_first rfl e
theorem ok_mirrored {C_NoTable : Addr} (F : Def K mg "mirrored" s_mirrored ["rows"]) (G_ask_table : FnInF P w K mg base k "ask_table" ["rows"] (spAskF K C_NoTable)) : FnInF P w K mg base (k + 1) "mirrored" ["rows"] (spR K C_NoTable 1) := by
  refine F.okF sc_mirrored rfl fun fa cdv A outer s H E hr => ⟨_, (pss_cons (ps_expr (pe_callF G_ask_table hr rfl (pa_cons (pv 0) pa_nil))) pss_never), ?_⟩
  rintro f xs c hl ⟨rfl, e⟩
  exact bad_first rfl e
theorem ok_span {C_NoTable : Addr} (F : Def K mg "span" s_span ["rows"]) (G_ask_table : FnInF P w K mg base k "ask_table" ["rows"] (spAskF K C_NoTable)) : FnInF P w K mg base (k + 1) "span" ["rows"] (spR K C_NoTable 1) := by
  refine F.okF sc_span rfl fun fa cdv A outer s H E hr => ⟨_, (pss_cons (ps_expr (pe_callF G_ask_table hr rfl (pa_cons (pv 0) pa_nil))) pss_never), ?_⟩
  rintro f xs c hl ⟨rfl, e⟩
  exact bad_first rfl e
theorem ok_tree {C_NoTable : Addr} (F : Def K mg "tree" s_tree ["rows"]) (G_ask_table : FnInF P w K mg base k "ask_table" ["rows"] (spAskF K C_NoTable)) : FnInF P w K mg base (k + 1) "tree" ["rows"] (spR K C_NoTable 1) := by
  refine F.okF sc_tree rfl fun fa cdv A outer s H E hr => ⟨_, (pss_cons (ps_expr (pe_callF G_ask_table hr rfl (pa_cons (pv 0) pa_nil))) pss_never), ?_⟩
  rintro f xs c hl ⟨rfl, e⟩
  exact bad_first rfl e
theorem ok_peaks {C_NoTable : Addr} (F : Def K mg "peaks" s_peaks ["rows"]) (G_ask_table : FnInF P w K mg base k "ask_table" ["rows"] (spAskF K C_NoTable)) : FnInF P w K mg base (k + 1) "peaks" ["rows"] (spR K C_NoTable 1) := by
  refine F.okF sc_peaks rfl fun fa cdv A outer s H E hr => ⟨_, (pss_cons (ps_expr (pe_callF G_ask_table hr rfl (pa_cons (pv 0) pa_nil))) pss_never), ?_⟩
  rintro f xs c hl ⟨rfl, e⟩
  exact bad_first rfl e
theorem ok_gates {C_NoTable : Addr} (F : Def K mg "gates" s_gates ["rows", "cut"]) (G_ask_table : FnInF P w K mg base k "ask_table" ["rows"] (spAskF K C_NoTable)) : FnInF P w K mg base (k + 1) "gates" ["rows", "cut"] (spR K C_NoTable 2) := by
  refine F.okF sc_gates rfl fun fa cdv A outer s H E hr => ⟨_, (pss_cons (ps_expr (pe_callF G_ask_table hr rfl (pa_cons (pv 0) pa_nil))) pss_never), ?_⟩
  rintro f xs c hl ⟨rfl, e⟩
  exact bad_first rfl e
theorem ok_lines {C_NoTable : Addr} (F : Def K mg "lines" s_lines ["rows", "cut"]) (G_ask_table : FnInF P w K mg base k "ask_table" ["rows"] (spAskF K C_NoTable)) : FnInF P w K mg base (k + 1) "lines" ["rows", "cut"] (spR K C_NoTable 2) := by
  refine F.okF sc_lines rfl fun fa cdv A outer s H E hr => ⟨_, (pss_cons (ps_expr (pe_callF G_ask_table hr rfl (pa_cons (pv 0) pa_nil))) pss_never), ?_⟩
  rintro f xs c hl ⟨rfl, e⟩
  exact bad_first rfl e
theorem ok_regions {C_NoTable : Addr} (F : Def K mg "regions" s_regions ["rows", "cut"]) (G_ask_table : FnInF P w K mg base k "ask_table" ["rows"] (spAskF K C_NoTable)) : FnInF P w K mg base (k + 1) "regions" ["rows", "cut"] (spR K C_NoTable 2) := by
  refine F.okF sc_regions rfl fun fa cdv A outer s H E hr => ⟨_, (pss_cons (ps_expr (pe_callF G_ask_table hr rfl (pa_cons (pv 0) pa_nil))) pss_never), ?_⟩
  rintro f xs c hl ⟨rfl, e⟩
  exact bad_first rfl e
theorem ok_sides {C_NoTable : Addr} (F : Def K mg "sides" s_sides ["rows", "cut"]) (G_ask_table : FnInF P w K mg base k "ask_table" ["rows"] (spAskF K C_NoTable)) : FnInF P w K mg base (k + 1) "sides" ["rows", "cut"] (spR K C_NoTable 2) := by
  refine F.okF sc_sides rfl fun fa cdv A outer s H E hr => ⟨_, (pss_cons (ps_expr (pe_callF G_ask_table hr rfl (pa_cons (pv 0) pa_nil))) pss_never), ?_⟩
  rintro f xs c hl ⟨rfl, e⟩
  exact bad_first rfl e
theorem ok_lies_in {C_NoTable : Addr} (F : Def K mg "lies_in" s_lies_in ["rows", "cut"]) (G_ask_table : FnInF P w K mg base k "ask_table" ["rows"] (spAskF K C_NoTable)) : FnInF P w K mg base (k + 1) "lies_in" ["rows", "cut"] (spR K C_NoTable 2) := by
  refine F.okF sc_lies_in rfl fun fa cdv A outer s H E hr => ⟨_, (pss_cons (ps_expr (pe_callF G_ask_table hr rfl (pa_cons (pv 0) pa_nil))) pss_never), ?_⟩
  rintro f xs c hl ⟨rfl, e⟩
  exact bad_first rfl e
theorem ok_region_areas {C_NoTable : Addr} (F : Def K mg "region_areas" s_region_areas ["rows", "cut"]) (G_ask_table : FnInF P w K mg base k "ask_table" ["rows"] (spAskF K C_NoTable)) : FnInF P w K mg base (k + 1) "region_areas" ["rows", "cut"] (spR K C_NoTable 2) := by
  refine F.okF sc_region_areas rfl fun fa cdv A outer s H E hr => ⟨_, (pss_cons (ps_expr (pe_callF G_ask_table hr rfl (pa_cons (pv 0) pa_nil))) pss_never), ?_⟩
  rintro f xs c hl ⟨rfl, e⟩
  exact bad_first rfl e
theorem ok_nodes_at {C_NoTable : Addr} (F : Def K mg "nodes_at" s_nodes_at ["rows", "height"]) (G_ask_table : FnInF P w K mg base k "ask_table" ["rows"] (spAskF K C_NoTable)) : FnInF P w K mg base (k + 1) "nodes_at" ["rows", "height"] (spR K C_NoTable 2) := by
  refine F.okF sc_nodes_at rfl fun fa cdv A outer s H E hr => ⟨_, (pss_cons (ps_expr (pe_callF G_ask_table hr rfl (pa_cons (pv 0) pa_nil))) pss_never), ?_⟩
  rintro f xs c hl ⟨rfl, e⟩
  exact bad_first rfl e
theorem ok_goes {C_NoTable : Addr} (F : Def K mg "goes" s_goes ["rows", "cut", "gate"]) (G_ask_table : FnInF P w K mg base k "ask_table" ["rows"] (spAskF K C_NoTable)) : FnInF P w K mg base (k + 1) "goes" ["rows", "cut", "gate"] (spR K C_NoTable 3) := by
  refine F.okF sc_goes rfl fun fa cdv A outer s H E hr => ⟨_, (pss_cons (ps_expr (pe_callF G_ask_table hr rfl (pa_cons (pv 0) pa_nil))) pss_never), ?_⟩
  rintro f xs c hl ⟨rfl, e⟩
  exact bad_first rfl e
theorem ok_line_at {C_NoTable : Addr} (F : Def K mg "line_at" s_line_at ["rows", "cut", "gate"]) (G_ask_table : FnInF P w K mg base k "ask_table" ["rows"] (spAskF K C_NoTable)) : FnInF P w K mg base (k + 1) "line_at" ["rows", "cut", "gate"] (spR K C_NoTable 3) := by
  refine F.okF sc_line_at rfl fun fa cdv A outer s H E hr => ⟨_, (pss_cons (ps_expr (pe_callF G_ask_table hr rfl (pa_cons (pv 0) pa_nil))) pss_never), ?_⟩
  rintro f xs c hl ⟨rfl, e⟩
  exact bad_first rfl e
theorem ok_place {C_NoTable : Addr} (F : Def K mg "place" s_place ["rows", "cut", "gate"]) (G_ask_table : FnInF P w K mg base k "ask_table" ["rows"] (spAskF K C_NoTable)) : FnInF P w K mg base (k + 1) "place" ["rows", "cut", "gate"] (spR K C_NoTable 3) := by
  refine F.okF sc_place rfl fun fa cdv A outer s H E hr => ⟨_, (pss_cons (ps_expr (pe_callF G_ask_table hr rfl (pa_cons (pv 0) pa_nil))) pss_never), ?_⟩
  rintro f xs c hl ⟨rfl, e⟩
  exact bad_first rfl e
theorem ok_is_high {C_NoTable : Addr} (F : Def K mg "is_high" s_is_high ["rows", "cut", "x", "y"]) (G_ask_table : FnInF P w K mg base k "ask_table" ["rows"] (spAskF K C_NoTable)) : FnInF P w K mg base (k + 1) "is_high" ["rows", "cut", "x", "y"] (spR K C_NoTable 4) := by
  refine F.okF sc_is_high rfl fun fa cdv A outer s H E hr => ⟨_, (pss_cons (ps_expr (pe_callF G_ask_table hr rfl (pa_cons (pv 0) pa_nil))) pss_never), ?_⟩
  rintro f xs c hl ⟨rfl, e⟩
  exact bad_first rfl e
theorem ok_ties {C_NoTable : Addr} (F : Def K mg "ties" s_ties ["rows", "cut", "x", "y"]) (G_ask_table : FnInF P w K mg base k "ask_table" ["rows"] (spAskF K C_NoTable)) : FnInF P w K mg base (k + 1) "ties" ["rows", "cut", "x", "y"] (spR K C_NoTable 4) := by
  refine F.okF sc_ties rfl fun fa cdv A outer s H E hr => ⟨_, (pss_cons (ps_expr (pe_callF G_ask_table hr rfl (pa_cons (pv 0) pa_nil))) pss_never), ?_⟩
  rintro f xs c hl ⟨rfl, e⟩
  exact bad_first rfl e
theorem ok_region_of {C_NoTable : Addr} (F : Def K mg "region_of" s_region_of ["rows", "cut", "x", "y"]) (G_ask_table : FnInF P w K mg base k "ask_table" ["rows"] (spAskF K C_NoTable)) : FnInF P w K mg base (k + 1) "region_of" ["rows", "cut", "x", "y"] (spR K C_NoTable 4) := by
  refine F.okF sc_region_of rfl fun fa cdv A outer s H E hr => ⟨_, (pss_cons (ps_expr (pe_callF G_ask_table hr rfl (pa_cons (pv 0) pa_nil))) pss_never), ?_⟩
  rintro f xs c hl ⟨rfl, e⟩
  exact bad_first rfl e
theorem ok_first_wrong {C_NoTable : Addr} (F : Def K mg "first_wrong" s_first_wrong ["rows", "cut", "some"]) (G_ask_table : FnInF P w K mg base k "ask_table" ["rows"] (spAskF K C_NoTable)) : FnInF P w K mg base (k + 1) "first_wrong" ["rows", "cut", "some"] (spR K C_NoTable 3) := by
  refine F.okF sc_first_wrong rfl fun fa cdv A outer s H E hr => ⟨_, (pss_cons (ps_expr (pe_callF G_ask_table hr rfl (pa_cons (pv 0) pa_nil))) pss_never), ?_⟩
  rintro f xs c hl ⟨rfl, e⟩
  exact bad_first rfl e
theorem ok_ring_area {C_NoTable : Addr} (F : Def K mg "ring_area" s_ring_area ["rows", "cut", "line"]) (G_ask_table : FnInF P w K mg base k "ask_table" ["rows"] (spAskF K C_NoTable)) : FnInF P w K mg base (k + 1) "ring_area" ["rows", "cut", "line"] (spR K C_NoTable 3) := by
  refine F.okF sc_ring_area rfl fun fa cdv A outer s H E hr => ⟨_, (pss_cons (ps_expr (pe_callF G_ask_table hr rfl (pa_cons (pv 0) pa_nil))) pss_never), ?_⟩
  rintro f xs c hl ⟨rfl, e⟩
  exact bad_first rfl e
theorem ok_raised {C_NoTable : Addr} (F : Def K mg "raised" s_raised ["rows", "by"]) (G_ask_table : FnInF P w K mg base k "ask_table" ["rows"] (spAskF K C_NoTable)) : FnInF P w K mg base (k + 1) "raised" ["rows", "by"] (spR K C_NoTable 2) := by
  refine F.okF sc_raised rfl fun fa cdv A outer s H E hr => ⟨_, (pss_cons (ps_expr (pe_callF G_ask_table hr rfl (pa_cons (pv 0) pa_nil))) pss_never), ?_⟩
  rintro f xs c hl ⟨rfl, e⟩
  exact bad_first rfl e
end
open PySem PySem.Spec PyProof.Rows L2
abbrev scr (ns : List Int) : PyData := .list (ns.map .int)
theorem scr_rep {K : PySem.W.Frag} {H : Hp} {a : Addr} {ns : List Int} (h : SqL K H a (ns.map V.int)) : Rep K (hide H L2.f0) (scr ns) (.ref a) := by
  rw [hide_none]
  exact rep_list.mpr ⟨a, _, rfl, h, Reps.ints' ns⟩
theorem rep_scr {K : PySem.W.Frag} {H : Hp} {v : V} {ns : List Int} (h : Rep K (hide H L2.f0) (scr ns) v) : ∃ a, v = .ref a ∧ SqL K H a (ns.map V.int) := by
  rw [hide_none] at h
  obtain ⟨a, xs, rfl, h1, h2⟩ := rep_list.mp h
  rw [h2.ints] at h1
  exact ⟨a, rfl, h1⟩
def spFeed (K : PySem.W.Frag) : Sp := fun vs H Q _ => ∃ (a : Addr) (ns : List Int) (i : Int), vs = [.ref a, .int i] ∧ SqL K H a (ns.map V.int) ∧ ns.length ≤ 63 ∧ 0 ≤ i ∧ i ≤ 63 ∧
  ∀ (p : Addr) (x y : Int) (H' : Hp), Same H H' → H p = none → H' p = some (.lst [.int x, .int y]) → 0 ≤ x → 0 ≤ y → y < 2147483647 → Q (.ref p) H'
def spLaw (K : PySem.W.Frag) : Sp := fun vs H Q _ => ∃ (a : Addr) (ns : List Int), vs = [.ref a] ∧ SqL K H a (ns.map V.int) ∧ ns.length ≤ 63 ∧ ∀ H', Q (.bl true) H'
theorem pad_imp {K : PySem.W.Frag} {f : Fx} {t : TA} {ρ : DEnv} {R R' : List DV → Prop} (h : PAd K f t ρ R) (i : ∀ xs, R xs → R' xs) : PAd K f t ρ R' := fun σ H Q e q => h σ H Q e fun xs vs H' g r p => q xs vs H' g r (i xs p)
theorem e_feed {K : PySem.W.Frag} {ρ : DEnv} {ns : List Int} {i : Int} {E2 : XK} (h0 : ρ[0]? = some (some (.dat (scr ns)))) (h1 : ρ[1]? = some (some (.dat (.int i)))) (hl : ns.length ≤ 63) (i0 : 0 ≤ i) (i1 : i ≤ 63) :
    ∀ (σ : L2.St) (H : Hp) (Q : VK), EnvOk K L2.f0 ρ σ H → (∀ (p : Addr) (x y : Int) (H' : Hp), Same H H' → H p = none → H' p = some (.lst [.int x, .int y]) → 0 ≤ x → 0 ≤ y → y < 2147483647 → Q (.ref p) H') → tCall (spFeed K) [] E2 (tCons (tVar 0) (tCons (tVar 1) tNil)) σ H Q := by
  intro σ H Q e q
  obtain ⟨v0, hv0, r0⟩ := e.get 0 _ h0
  obtain ⟨v1, hv1, r1⟩ := e.get 1 _ h1
  obtain ⟨a, rfl, hS⟩ := rep_scr r0
  have e1 : v1 = .int i := rep_int.mp (show Rep K (hide H L2.f0) (.int i) v1 from r1)
  subst e1
  exact ⟨_, hv0, _, hv1, a, ns, i, rfl, hS, hl, i0, i1, q⟩
theorem d_keep {K : PySem.W.Frag} {f : Fx} {ρ : DEnv} {P : PyData → Prop} {i : Nat} {rows : List (List Int)} (hi : ρ[i]? = some (some (.dat (tab rows)))) (hl : rows.length ≤ 1000) (p : P (tab rows)) :
    PEd K f (tComp (iList K (tVar i)) 1 [] (gName 0) tYes fun D => tEmit D (tCB (fun xs H Q => ∃ p ys, xs = [V.ref p] ∧ (SqL K H p ys ∨ SqT K H p ys) ∧ ∀ l, H l = none → Q (V.ref l) (upd H l (HO.lst ys))) (tCons (tVar 0) tNil))) ρ P := by
  refine PEdO.ped (c_map (A := fun r : List Int => PyData.list (r.map .int)) (B := fun r : List Int => PyData.list (r.map .int)) rows (i_list (d_var hi ⟨_, rfl, rfl, hl, ?_, p⟩)))
  rintro D r ρ' es hr ho hes
  obtain ⟨u, rfl⟩ := ho.one
  refine g_name (t_yes ?_)
  rw [if_pos rfl]
  exact b_emit hes (d_listof (a_cons (d_var rfl (a_nil (.inl ⟨_, rfl, .mk1, rfl⟩)))))
section
variable {P : Program} {w : World} {K : PySem.W.Frag} {mg : Str → Option Value} {base : Heap} {k : Nat}
theorem ok_feed (F : Def K mg "_law_feed" s_law_feed ["_law_script", "_law_k"]) (m_len : mg "len" = none) (m_abs : mg "abs" = none) : FnIn P w K mg base (k + 1) "_law_feed" ["_law_script", "_law_k"] (spFeed K) := by
  refine F.raw sc_law_feed (fun vs H Q E h => ?_) fun fa cdv A outer s H vs Q E hr hs => ⟨_, (pss_cons (ps_set (i := 2) sc_law_feed.nd rfl (Or.inl rfl) pe_int) (pss_cons (ps_if (pt_cmpR op_gt (pe_callB (call_lenK (K := K) rfl) rfl m_len PySem.boot_len (pa_cons (pv 0) pa_nil)) pe_int (nomark _)) (pss_one (ps_set (i := 2) sc_law_feed.nd rfl (Or.inl rfl) (pe_ix (ix_listK (K := K) rfl) (pv 0) (pe_op op_mod (pv 1) (pe_callB (call_lenK (K := K) rfl) rfl m_len PySem.boot_len (pa_cons (pv 0) pa_nil))) (fun _ _ => rfl)))) pss_nil) (pss_one (ps_ret (pe_lst (pa_cons (pe_callB (call_abs) rfl m_abs PyProof.Rows.boot_abs (pa_cons (pv 2) pa_nil)) (pa_cons (pe_op op_add (pe_op op_mul pe_int (pv 1)) pe_int) pa_nil))))))), ?_⟩
  · obtain ⟨a, ns, i, rfl, _⟩ := h
    rfl
  obtain ⟨a, ns, i, rfl, hS, h63, i0, i1, q⟩ := hs
  have e0 : EnvOk K L2.f0 (startV N_law_feed [.dat (scr ns), .dat (.int i)]) (start N_law_feed [.ref a, .int i]) H := startV_ok (.cons (scr_rep hS) (.cons (show RepV K L2.f0 H (.dat (.int i)) (.int i) from (rep_int (K := K) (H := hide H L2.f0)).mpr rfl) .nil)) (L2.fok0 H)
  refine s_then (D := { nx := fun ρ => ρ = [some (.dat (scr ns)), some (.dat (.int i)), some (.dat (.int 0))], rt := fun _ => False }) ?_ e0 ?_ (fun _ _ _ _ _ z => z.elim) (fun _ z => z) (fun _ z => z)
  · repeat walk_at "dl"
    rfl
  rintro _ σ1 H1 g1 e1 rfl
  refine s_then (D := { nx := fun ρ => ∃ c : Int, ρ = [some (.dat (scr ns)), some (.dat (.int i)), some (.dat (.int c))], rt := fun _ => False }) ?_ e1 ?_ (fun _ _ _ _ _ z => z.elim) (fun _ z => z) (fun _ z => z)
  · repeat walk_at "dl"
    rw [List.length_map]
    by_cases h : 0 < ns.length
    · rw [if_pos (by simpa using h)]
      repeat walk_at "dl"
      rw [List.length_map]
      have z0 := Int.emod_nonneg i (b := (ns.length : Int)) (by omega)
      have z1 := Int.emod_lt_of_pos i (b := (ns.length : Int)) (by omega)
      refine ⟨by omega, _, rfl, _, atI_map (j := (i % (ns.length : Int)).toNat) (by omega) (by omega), ?_⟩
      repeat walk_at "dl"
      exact ⟨_, rfl⟩
    · rw [if_neg (by simpa using h)]
      repeat walk_at "dl"
      exact ⟨_, rfl⟩
  rintro _ σ2 H2 g2 e2 ⟨c, rfl⟩
  unfold tRet
  have ss : Same H H2 := (L2.same0 g1).trans (L2.same0 g2)
  refine new_list (R := fun ds => ∃ x y : Int, ds = [.int x, .int y] ∧ 0 ≤ x ∧ 0 ≤ y ∧ y < 2147483647) ?_ e2 ?_
  · repeat walk_at "dl"
    omega
  · rintro p ds vs H3 g3 hn rs ⟨x, y, rfl, hx, hy, hy'⟩
    have sf : Same H H3 := ss.trans (L2.same0 g3)
    have ev : vs = [.int x, .int y] := Reps.ints (ns := [x, y]) rs
    subst ev
    exact q p x y _ (sf.trans (same_new hn _)) (sf.free hn) upd_same hx hy hy'
end
open PySem PySem.Spec PyProof.Rows L2
theorem ite_b {b : Bool} {p q : Prop} (h1 : b = true → p) (h2 : b = false → q) : if b = true then p else q := by
  cases b with
  | true => rw [if_pos rfl]; exact h1 rfl
  | false => rw [if_neg Bool.false_ne_true]; exact h2 rfl
theorem eqv_int (a b : Int) : PyData.eqv (.int a) (.int b) = decide (a = b) := rfl
theorem pick {as : List Addr} {sp : Sp} {q : Int} (h0 : 0 ≤ q) (h1 : q < as.length) : ∃ a, atI (as.map V.ref) q = some (.ref a) ∧ (a, sp) ∈ as.map fun a => (a, sp) := by
  have hq : q.toNat < as.length := by omega
  refine ⟨as[q.toNat], ?_, List.mem_map.mpr ⟨_, List.getElem_mem hq, rfl⟩⟩
  have := atI_nat (j := q.toNat) (show (as.map V.ref)[q.toNat]? = some (.ref as[q.toNat]) by rw [List.getElem?_map, List.getElem?_eq_getElem hq]; rfl)
  rw [Int.toNat_of_nonneg h0] at this
  exact this
section
variable {P : Program} {w : World} {K : PySem.W.Frag} {mg : Str → Option Value} {base : Heap} {k : Nat}
abbrev TS3 := List (List Int) × Int × Int
abbrev spLot (K : PySem.W.Frag) (C : Addr) (m : Int) : Sp := spF K 2 (fun (c : TS3) xs => xs = [.dat (tab c.1), .dat (.int c.2.1)] ∧ dueT c.1 = some c.2.2 ∧ 0 ≤ c.2.1 ∧ c.2.1 < m) (fun _ _ => False) fun c Cv x => Cv = .ref C ∧ x = some (("at" : Str), PyData.int c.2.2)
theorem ask_bad {C : Addr} {f : Fx} {E : XK} {ρ : DEnv} {i : Int} {rows : List (List Int)} {B : PyData → Prop} (h0 : ρ[0]? = some (some (.dat (tab rows)))) (e : dueT rows = some i) : PEf K f E (tCall (spAskF K C) [] E (tCons (tVar 0) tNil)) ρ B fun Cv x => Cv = .ref C ∧ x = some (("at" : Str), PyData.int i) := by
  refine f_call rows (a_cons (d_var h0 (a_nil ⟨rfl, rfl, ?_, ?_⟩)))
  · rintro _ ⟨rfl, z⟩
    rw [e] at z
    cases z
  · rintro C x ⟨rfl, i', z, rfl⟩
    rw [e] at z
    cases z
    exact ⟨rfl, rfl⟩
theorem ok_some {C_NoTable : Addr} (F : Def K mg "_law_some" s_law_some ["_law_rows", "_law_way"]) (G_ask_table : FnInF P w K mg base k "ask_table" ["rows"] (spAskF K C_NoTable)) (G_turned : FnInF P w K mg base k "turned" ["rows"] (spR K C_NoTable 1)) (G_mirrored : FnInF P w K mg base k "mirrored" ["rows"] (spR K C_NoTable 1)) (G_span : FnInF P w K mg base k "span" ["rows"] (spR K C_NoTable 1)) (G_tree : FnInF P w K mg base k "tree" ["rows"] (spR K C_NoTable 1)) (G_peaks : FnInF P w K mg base k "peaks" ["rows"] (spR K C_NoTable 1)) : FnInF P w K mg base (k + 1) "_law_some" ["_law_rows", "_law_way"] (spLot K C_NoTable 6) := by
  obtain ⟨a_turned, d_turned, X1_turned, X2_turned, X3_turned, X4_turned⟩ := G_turned.ex
  obtain ⟨a_mirrored, d_mirrored, X1_mirrored, X2_mirrored, X3_mirrored, X4_mirrored⟩ := G_mirrored.ex
  obtain ⟨a_span, d_span, X1_span, X2_span, X3_span, X4_span⟩ := G_span.ex
  obtain ⟨a_tree, d_tree, X1_tree, X2_tree, X3_tree, X4_tree⟩ := G_tree.ex
  obtain ⟨a_peaks, d_peaks, X1_peaks, X2_peaks, X3_peaks, X4_peaks⟩ := G_peaks.ex
  refine F.okF sc_law_some rfl fun fa cdv A outer s H E hr => ⟨_, (pss_cons (ps_if (pt_cmpR (op_eqK (K := K) rfl hr.units) (pv 1) pe_int (nomark _)) (pss_one (ps_ret (pe_callF G_ask_table hr rfl (pa_cons (pv 0) pa_nil)))) pss_nil) (pss_one (ps_ret (pe_callE (fns := [(a_turned, (spR K C_NoTable 1)), (a_mirrored, (spR K C_NoTable 1)), (a_span, (spR K C_NoTable 1)), (a_tree, (spR K C_NoTable 1)), (a_peaks, (spR K C_NoTable 1))]) (pe_ix (ix_listK (K := K) rfl) (pe_lst (pa_cons (pe_glob (v := .ref a_turned) rfl X2_turned rfl) (pa_cons (pe_glob (v := .ref a_mirrored) rfl X2_mirrored rfl) (pa_cons (pe_glob (v := .ref a_span) rfl X2_span rfl) (pa_cons (pe_glob (v := .ref a_tree) rfl X2_tree rfl) (pa_cons (pe_glob (v := .ref a_peaks) rfl X2_peaks rfl) pa_nil)))))) (pe_op op_sub (pv 1) pe_int) (fun _ _ => rfl)) (fnat_cons X1_turned X3_turned X4_turned (fnat_cons X1_mirrored X3_mirrored X4_mirrored (fnat_cons X1_span X3_span X4_span (fnat_cons X1_tree X3_tree X4_tree (fnat_cons X1_peaks X3_peaks X4_peaks fnat_nil))))) hr passF (pa_cons (pv 0) pa_nil))))), ?_⟩
  rintro f xs ⟨rows, way, i⟩ hl ⟨rfl, e, v0, v1⟩
  try dsimp only [cxOf, cxComp]
  dsimp only at *
  refine f_seq (f_if ?_)
  repeat walk_at "dl"
  refine ite_b (fun h => f_ret (ask_bad rfl e)) fun h => f_stmt (s_nil ?_)
  have nz : way ≠ 0 := by
    rw [if_neg Bool.false_ne_true] at h
    exact of_decide_eq_false h
  obtain ⟨a, ha, hm⟩ := pick (as := [a_turned, a_mirrored, a_span, a_tree, a_peaks]) (sp := spR K C_NoTable 1) (q := way - 1) (by omega) (by show way - 1 < 5; omega)
  refine f_ret (f_callX (n := 1) (pre := preR) (post := fun _ _ => False) (exc := excR C_NoTable) (as := [a_turned, a_mirrored, a_span, a_tree, a_peaks]) (Nat.le_of_ble_eq_true rfl) ((rows, i, []) : TR) ?_)
  repeat walk_at "dl"
  exact ⟨_, a, rfl, ha, hm, a_cons (d_var rfl (a_nil ⟨rfl, ⟨rfl, e⟩, fun _ z => z.elim, fun C x z => z⟩))⟩
theorem ok_other {C_NoTable : Addr} (F : Def K mg "_law_other" s_law_other ["_law_rows", "_law_way"]) (G_gates : FnInF P w K mg base k "gates" ["rows", "cut"] (spR K C_NoTable 2)) (G_lines : FnInF P w K mg base k "lines" ["rows", "cut"] (spR K C_NoTable 2)) (G_regions : FnInF P w K mg base k "regions" ["rows", "cut"] (spR K C_NoTable 2)) (G_sides : FnInF P w K mg base k "sides" ["rows", "cut"] (spR K C_NoTable 2)) (G_lies_in : FnInF P w K mg base k "lies_in" ["rows", "cut"] (spR K C_NoTable 2)) (G_region_areas : FnInF P w K mg base k "region_areas" ["rows", "cut"] (spR K C_NoTable 2)) (G_nodes_at : FnInF P w K mg base k "nodes_at" ["rows", "height"] (spR K C_NoTable 2)) (G_goes : FnInF P w K mg base k "goes" ["rows", "cut", "gate"] (spR K C_NoTable 3)) (G_line_at : FnInF P w K mg base k "line_at" ["rows", "cut", "gate"] (spR K C_NoTable 3)) (G_place : FnInF P w K mg base k "place" ["rows", "cut", "gate"] (spR K C_NoTable 3)) (G_is_high : FnInF P w K mg base k "is_high" ["rows", "cut", "x", "y"] (spR K C_NoTable 4)) (G_ties : FnInF P w K mg base k "ties" ["rows", "cut", "x", "y"] (spR K C_NoTable 4)) (G_region_of : FnInF P w K mg base k "region_of" ["rows", "cut", "x", "y"] (spR K C_NoTable 4)) (G_first_wrong : FnInF P w K mg base k "first_wrong" ["rows", "cut", "some"] (spR K C_NoTable 3)) (G_ring_area : FnInF P w K mg base k "ring_area" ["rows", "cut", "line"] (spR K C_NoTable 3)) (G_raised : FnInF P w K mg base k "raised" ["rows", "by"] (spR K C_NoTable 2)) : FnInF P w K mg base (k + 1) "_law_other" ["_law_rows", "_law_way"] (spLot K C_NoTable 16) := by
  obtain ⟨a_gates, d_gates, X1_gates, X2_gates, X3_gates, X4_gates⟩ := G_gates.ex
  obtain ⟨a_lines, d_lines, X1_lines, X2_lines, X3_lines, X4_lines⟩ := G_lines.ex
  obtain ⟨a_regions, d_regions, X1_regions, X2_regions, X3_regions, X4_regions⟩ := G_regions.ex
  obtain ⟨a_sides, d_sides, X1_sides, X2_sides, X3_sides, X4_sides⟩ := G_sides.ex
  obtain ⟨a_lies_in, d_lies_in, X1_lies_in, X2_lies_in, X3_lies_in, X4_lies_in⟩ := G_lies_in.ex
  obtain ⟨a_region_areas, d_region_areas, X1_region_areas, X2_region_areas, X3_region_areas, X4_region_areas⟩ := G_region_areas.ex
  obtain ⟨a_nodes_at, d_nodes_at, X1_nodes_at, X2_nodes_at, X3_nodes_at, X4_nodes_at⟩ := G_nodes_at.ex
  obtain ⟨a_goes, d_goes, X1_goes, X2_goes, X3_goes, X4_goes⟩ := G_goes.ex
  obtain ⟨a_line_at, d_line_at, X1_line_at, X2_line_at, X3_line_at, X4_line_at⟩ := G_line_at.ex
  obtain ⟨a_place, d_place, X1_place, X2_place, X3_place, X4_place⟩ := G_place.ex
  obtain ⟨a_is_high, d_is_high, X1_is_high, X2_is_high, X3_is_high, X4_is_high⟩ := G_is_high.ex
  obtain ⟨a_ties, d_ties, X1_ties, X2_ties, X3_ties, X4_ties⟩ := G_ties.ex
  obtain ⟨a_region_of, d_region_of, X1_region_of, X2_region_of, X3_region_of, X4_region_of⟩ := G_region_of.ex
  obtain ⟨a_first_wrong, d_first_wrong, X1_first_wrong, X2_first_wrong, X3_first_wrong, X4_first_wrong⟩ := G_first_wrong.ex
  obtain ⟨a_ring_area, d_ring_area, X1_ring_area, X2_ring_area, X3_ring_area, X4_ring_area⟩ := G_ring_area.ex
  obtain ⟨a_raised, d_raised, X1_raised, X2_raised, X3_raised, X4_raised⟩ := G_raised.ex
  refine F.okF sc_law_other rfl fun fa cdv A outer s H E hr => ⟨_, (pss_cons (ps_if (pt_cmpR op_lt (pv 1) pe_int (nomark _)) (pss_one (ps_ret (pe_callE (fns := [(a_gates, (spR K C_NoTable 2)), (a_lines, (spR K C_NoTable 2)), (a_regions, (spR K C_NoTable 2)), (a_sides, (spR K C_NoTable 2))]) (pe_ix (ix_listK (K := K) rfl) (pe_lst (pa_cons (pe_glob (v := .ref a_gates) rfl X2_gates rfl) (pa_cons (pe_glob (v := .ref a_lines) rfl X2_lines rfl) (pa_cons (pe_glob (v := .ref a_regions) rfl X2_regions rfl) (pa_cons (pe_glob (v := .ref a_sides) rfl X2_sides rfl) pa_nil))))) (pv 1) (fun _ _ => rfl)) (fnat_cons X1_gates X3_gates X4_gates (fnat_cons X1_lines X3_lines X4_lines (fnat_cons X1_regions X3_regions X4_regions (fnat_cons X1_sides X3_sides X4_sides fnat_nil)))) hr passF (pa_cons (pv 0) (pa_cons pe_int pa_nil))))) pss_nil) (pss_cons (ps_if (pt_cmpR op_lt (pv 1) pe_int (nomark _)) (pss_one (ps_ret (pe_callE (fns := [(a_lies_in, (spR K C_NoTable 2)), (a_region_areas, (spR K C_NoTable 2)), (a_nodes_at, (spR K C_NoTable 2))]) (pe_ix (ix_listK (K := K) rfl) (pe_lst (pa_cons (pe_glob (v := .ref a_lies_in) rfl X2_lies_in rfl) (pa_cons (pe_glob (v := .ref a_region_areas) rfl X2_region_areas rfl) (pa_cons (pe_glob (v := .ref a_nodes_at) rfl X2_nodes_at rfl) pa_nil)))) (pe_op op_sub (pv 1) pe_int) (fun _ _ => rfl)) (fnat_cons X1_lies_in X3_lies_in X4_lies_in (fnat_cons X1_region_areas X3_region_areas X4_region_areas (fnat_cons X1_nodes_at X3_nodes_at X4_nodes_at fnat_nil))) hr passF (pa_cons (pv 0) (pa_cons (pe_op op_pow pe_int pe_int) pa_nil))))) pss_nil) (pss_cons (ps_if (pt_cmpR op_lt (pv 1) pe_int (nomark _)) (pss_one (ps_ret (pe_callE (fns := [(a_goes, (spR K C_NoTable 3)), (a_line_at, (spR K C_NoTable 3)), (a_place, (spR K C_NoTable 3))]) (pe_ix (ix_listK (K := K) rfl) (pe_lst (pa_cons (pe_glob (v := .ref a_goes) rfl X2_goes rfl) (pa_cons (pe_glob (v := .ref a_line_at) rfl X2_line_at rfl) (pa_cons (pe_glob (v := .ref a_place) rfl X2_place rfl) pa_nil)))) (pe_op op_sub (pv 1) pe_int) (fun _ _ => rfl)) (fnat_cons X1_goes X3_goes X4_goes (fnat_cons X1_line_at X3_line_at X4_line_at (fnat_cons X1_place X3_place X4_place fnat_nil))) hr passF (pa_cons (pv 0) (pa_cons pe_int (pa_cons (pe_tup (pa_cons (pe_op op_pow pe_int pe_int) (pa_cons pe_int (pa_cons pe_int pa_nil)))) pa_nil)))))) pss_nil) (pss_cons (ps_if (pt_cmpR op_lt (pv 1) pe_int (nomark _)) (pss_one (ps_ret (pe_callE (fns := [(a_is_high, (spR K C_NoTable 4)), (a_ties, (spR K C_NoTable 4)), (a_region_of, (spR K C_NoTable 4))]) (pe_ix (ix_listK (K := K) rfl) (pe_lst (pa_cons (pe_glob (v := .ref a_is_high) rfl X2_is_high rfl) (pa_cons (pe_glob (v := .ref a_ties) rfl X2_ties rfl) (pa_cons (pe_glob (v := .ref a_region_of) rfl X2_region_of rfl) pa_nil)))) (pe_op op_sub (pv 1) pe_int) (fun _ _ => rfl)) (fnat_cons X1_is_high X3_is_high X4_is_high (fnat_cons X1_ties X3_ties X4_ties (fnat_cons X1_region_of X3_region_of X4_region_of fnat_nil))) hr passF (pa_cons (pv 0) (pa_cons pe_int (pa_cons (pe_op op_sub pe_int pe_int) (pa_cons pe_int pa_nil))))))) pss_nil) (pss_cons (ps_if (pt_cmpR (op_eqK (K := K) rfl hr.units) (pv 1) pe_int (nomark _)) (pss_one (ps_ret (pe_callF G_first_wrong hr rfl (pa_cons (pv 0) (pa_cons pe_int (pa_cons (pe_lst (pa_cons (pe_tup (pa_cons pe_str (pa_cons (pe_tup pa_nil) pa_nil))) pa_nil)) pa_nil)))))) pss_nil) (pss_cons (ps_if (pt_cmpR (op_eqK (K := K) rfl hr.units) (pv 1) pe_int (nomark _)) (pss_one (ps_ret (pe_callF G_ring_area hr rfl (pa_cons (pv 0) (pa_cons pe_int (pa_cons (pe_tup (pa_cons pe_str (pa_cons (pe_tup pa_nil) pa_nil))) pa_nil)))))) pss_nil) (pss_one (ps_ret (pe_callF G_raised hr rfl (pa_cons (pv 0) (pa_cons pe_int pa_nil))))))))))), ?_⟩
  rintro f xs ⟨rows, way, i⟩ hl ⟨rfl, e, v0, v1⟩
  try dsimp only [cxOf, cxComp]
  dsimp only at *
  refine f_seq (f_if ?_)
  repeat walk_at "dl"
  refine ite_b (fun h => ?_) fun h => f_stmt (s_nil ?_)
  · have h := of_decide_eq_true h
    obtain ⟨a, ha, hm⟩ := pick (as := [a_gates, a_lines, a_regions, a_sides]) (sp := spR K C_NoTable 2) (q := way - 0) (by omega) (by show way - 0 < 4; omega)
    refine f_ret (f_callX (n := 2) (pre := preR) (post := fun _ _ => False) (exc := excR C_NoTable) (as := [a_gates, a_lines, a_regions, a_sides]) (Nat.le_of_ble_eq_true rfl) ((rows, i, [.dat (.int 0)]) : TR) ?_)
    repeat walk_at "dl"
    rw [Int.sub_zero] at ha
    refine ⟨_, a, rfl, ha, hm, ?_⟩
    repeat walk_at "dl"
    first | exact ⟨⟨rfl, e⟩, fun _ z => z.elim, fun C x z => z⟩ | exact ⟨fun _ z => z.elim, fun C x z => z⟩ | exact fun C x z => z
  have h4 := of_decide_eq_false h
  clear h
  refine f_seq (f_if ?_)
  repeat walk_at "dl"
  refine ite_b (fun h => ?_) fun h => f_stmt (s_nil ?_)
  · have h := of_decide_eq_true h
    obtain ⟨a, ha, hm⟩ := pick (as := [a_lies_in, a_region_areas, a_nodes_at]) (sp := spR K C_NoTable 2) (q := way - 4) (by omega) (by show way - 4 < 3; omega)
    refine f_ret (f_callX (n := 2) (pre := preR) (post := fun _ _ => False) (exc := excR C_NoTable) (as := [a_lies_in, a_region_areas, a_nodes_at]) (Nat.le_of_ble_eq_true rfl) ((rows, i, [.dat (.int (10 ^ Int.toNat 9))]) : TR) ?_)
    repeat walk_at "dl"
    refine ⟨_, a, rfl, ha, hm, ?_⟩
    repeat walk_at "dl"
    first | exact ⟨⟨rfl, e⟩, fun _ z => z.elim, fun C x z => z⟩ | exact ⟨fun _ z => z.elim, fun C x z => z⟩ | exact fun C x z => z
  have h7 := of_decide_eq_false h
  clear h
  refine f_seq (f_if ?_)
  repeat walk_at "dl"
  refine ite_b (fun h => ?_) fun h => f_stmt (s_nil ?_)
  · have h := of_decide_eq_true h
    obtain ⟨a, ha, hm⟩ := pick (as := [a_goes, a_line_at, a_place]) (sp := spR K C_NoTable 3) (q := way - 7) (by omega) (by show way - 7 < 3; omega)
    refine f_ret (f_callX (n := 3) (pre := preR) (post := fun _ _ => False) (exc := excR C_NoTable) (as := [a_goes, a_line_at, a_place]) (Nat.le_of_ble_eq_true rfl) ((rows, i, [.dat (.int 0), .dat (.tuple [.int (10 ^ Int.toNat 9), .int 9, .int 5])]) : TR) ?_)
    repeat walk_at "dl"
    refine ⟨_, a, rfl, ha, hm, ?_⟩
    repeat walk_at "dl"
    first | exact ⟨⟨rfl, e⟩, fun _ z => z.elim, fun C x z => z⟩ | exact ⟨fun _ z => z.elim, fun C x z => z⟩ | exact fun C x z => z
  have h10 := of_decide_eq_false h
  clear h
  refine f_seq (f_if ?_)
  repeat walk_at "dl"
  refine ite_b (fun h => ?_) fun h => f_stmt (s_nil ?_)
  · have h := of_decide_eq_true h
    obtain ⟨a, ha, hm⟩ := pick (as := [a_is_high, a_ties, a_region_of]) (sp := spR K C_NoTable 4) (q := way - 10) (by omega) (by show way - 10 < 3; omega)
    refine f_ret (f_callX (n := 4) (pre := preR) (post := fun _ _ => False) (exc := excR C_NoTable) (as := [a_is_high, a_ties, a_region_of]) (Nat.le_of_ble_eq_true rfl) ((rows, i, [.dat (.int 0), .dat (.int (0 - 1)), .dat (.int 99)]) : TR) ?_)
    repeat walk_at "dl"
    refine ⟨_, a, rfl, ha, hm, ?_⟩
    repeat walk_at "dl"
    first | exact ⟨⟨rfl, e⟩, fun _ z => z.elim, fun C x z => z⟩ | exact ⟨fun _ z => z.elim, fun C x z => z⟩ | exact fun C x z => z
  have h13 := of_decide_eq_false h
  clear h
  refine f_seq (f_if ?_)
  repeat walk_at "dl"
  refine ite_b (fun h => f_ret ?_) fun h => f_stmt (s_nil ?_)
  · refine f_call ((rows, i, [.dat (.int 0), .dat (.list [.tuple [.str "", .tuple []]])]) : TR) ?_
    repeat walk_at "dl"
    first | exact ⟨⟨rfl, e⟩, fun _ z => z.elim, fun C x z => z⟩ | exact ⟨fun _ z => z.elim, fun C x z => z⟩ | exact fun C x z => z
  refine f_seq (f_if ?_)
  repeat walk_at "dl"
  refine ite_b (fun h => f_ret ?_) fun h => f_stmt (s_nil ?_)
  · refine f_call ((rows, i, [.dat (.int 0), .dat (.tuple [.str "run", .tuple []])]) : TR) ?_
    repeat walk_at "dl"
    first | exact ⟨⟨rfl, e⟩, fun _ z => z.elim, fun C x z => z⟩ | exact ⟨fun _ z => z.elim, fun C x z => z⟩ | exact fun C x z => z
  refine f_ret (f_call ((rows, i, [.dat (.int 5)]) : TR) ?_)
  repeat walk_at "dl"
  first | exact ⟨⟨rfl, e⟩, fun _ z => z.elim, fun C x z => z⟩ | exact ⟨fun _ z => z.elim, fun C x z => z⟩ | exact fun C x z => z
end
open PySem PySem.Spec PyProof.Rows L2
section
variable {P : Program} {w : World} {K : PySem.W.Frag} {mg : Str → Option Value} {base : Heap} {k : Nat}
abbrev lotMost (lot : Int) : Int := if lot = 0 then 6 else 16
abbrev spTold (K : PySem.W.Frag) : Sp := spD K 3 (fun (c : List (List Int) × Int × Int × Int) xs => xs = [.dat (tab c.1), .dat (.int c.2.1), .dat (.int c.2.2.1)] ∧ dueT c.1 = some c.2.2.2 ∧ (c.2.1 = 0 ∨ c.2.1 = 1) ∧ 0 ≤ c.2.2.1 ∧ c.2.2.1 < lotMost c.2.1) fun c r => r = .tuple [.str "no table", .int c.2.2.2]
theorem ok_told {C_NoTable C_HeightError : Addr} (F : Def K mg "_law_told" s_law_told ["_law_rows", "_law_lot", "_law_way"]) (m_isinstance : mg "isinstance" = none) (m_HeightError : mg "HeightError" = some (.ref C_HeightError)) (m_NoTable : mg "NoTable" = some (.ref C_NoTable)) (I_NoTable : InitOk P w K mg base 1 C_NoTable "at") (w_NoTable : excWays K C_NoTable = true) (eh : PySem.W.exmOne K (.ref C_NoTable) (.ref C_HeightError) = some true) (kt0 : PySem.W.kitOne K (.ref C_NoTable) (.ref C_NoTable) = some true)
    (G__law_some : FnInF P w K mg base k "_law_some" ["_law_rows", "_law_way"] (spLot K C_NoTable 6)) (G__law_other : FnInF P w K mg base k "_law_other" ["_law_rows", "_law_way"] (spLot K C_NoTable 16)) : FnIn P w K mg base (k + 1) "_law_told" ["_law_rows", "_law_lot", "_law_way"] (spTold K) := by
  obtain ⟨fT, dT, T⟩ := I_NoTable.fld
  have W := ways_of w_NoTable
  obtain ⟨a__law_some, d__law_some, X1__law_some, X2__law_some, X3__law_some, X4__law_some⟩ := G__law_some.ex
  obtain ⟨a__law_other, d__law_other, X1__law_other, X2__law_other, X3__law_other, X4__law_other⟩ := G__law_other.ex
  refine F.ok sc_law_told rfl fun fa cdv A outer s H E hr => ⟨_, (pss_cons (ps_tryF (j := 4) (by_setX (i := 3) (fns := [(a__law_some, (spLot K C_NoTable 6)), (a__law_other, (spLot K C_NoTable 16))]) (pe_ix (ix_listK (K := K) rfl) (pe_lst (pa_cons (pe_glob (v := .ref a__law_some) rfl X2__law_some rfl) (pa_cons (pe_glob (v := .ref a__law_other) rfl X2__law_other rfl) pa_nil))) (pv 1) (fun _ _ => rfl)) (fnat_cons X1__law_some X3__law_some X4__law_some (fnat_cons X1__law_other X3__law_other X4__law_other fnat_nil)) hr (pa_cons (pv 0) (pa_cons (pv 2) pa_nil)) sc_law_told.nd rfl (Or.inl rfl) (Or.inl rfl) (pss_one (ps_set (i := 3) sc_law_told.nd rfl (Or.inl rfl) (pe_tup (pa_cons pe_str (pa_cons pe_int pa_nil)))))) sc_law_told.nd rfl rfl rfl rfl rfl m_HeightError (fun _ => (pss_cons (ps_set (i := 3) sc_law_told.nd rfl (Or.inl rfl) (pe_tup (pa_cons pe_str (pa_cons pe_int pa_nil)))) (pss_one (ps_if (pt_truK (K := K) rfl (pe_callB (call_isF (K := K) rfl) rfl m_isinstance boot_isinstance (pa_cons (pv 4) (pa_cons (pe_glob (v := .ref C_NoTable) rfl m_NoTable rfl) pa_nil))) (fun _ => rfl)) (pss_one (ps_set (i := 3) sc_law_told.nd rfl (Or.inl rfl) (pe_tup (pa_cons pe_str (pa_cons (pe_excFld (K := K) rfl (pv 4)) pa_nil))))) pss_nil))))) (pss_one (ps_ret (pv 3)))), ?_⟩
  rintro f xs ⟨rows, lot, way, i⟩ hl ⟨rfl, e, hl2, v0, v1⟩
  try dsimp only [cxOf, cxComp]
  dsimp only at *
  rcases hl2 with rfl | rfl
  · refine s_seq (s_tryF (b_setX (n := 2) (γ := TS3) (pre := fun (c : TS3) xs => xs = [.dat (tab c.1), .dat (.int c.2.1)] ∧ dueT c.1 = some c.2.2 ∧ 0 ≤ c.2.1 ∧ c.2.1 < 6) (post := fun _ _ => False) (exc := fun c Cv x => Cv = .ref C_NoTable ∧ x = some (("at" : Str), PyData.int c.2.2)) (as := [a__law_some, a__law_other]) (Nat.le_of_ble_eq_true rfl) (rows, way, i) (d_var rfl ⟨0, a__law_some, rfl, rfl, List.mem_cons_self .., a_cons (d_var rfl (a_cons (d_var rfl (a_nil ⟨rfl, ⟨rfl, e, v0, v1⟩, fun _ z => z.elim, ?_⟩))))⟩)))
    rintro _ _ ⟨rfl, rfl⟩
    refine ⟨eh, fun a => ?_⟩
    refine s_mid (fun ρ => ∃ u, ρ = [some (.dat (tab rows)), some (.dat (.int 0)), some (.dat (.int way)), u, some (.mon (Caught K a (.ref C_NoTable) (some (("at" : Str), PyData.int i))))]) ?_ ?_
    · repeat walk_at "dl"
      exact ⟨_, rfl⟩
    rintro _ ⟨u, rfl⟩
    refine s_if (t_tru (d_isF rfl W (.inr ⟨_, rfl, kt0⟩) ⟨true, rfl, ?_⟩))
    rw [if_pos rfl]
    refine s_asg (d_tup (a_cons (d_str (a_cons (d_excFld rfl T W (a_nil ⟨_, rfl, Nat.le_of_ble_eq_true rfl, ?_⟩))))))
    exact g_name (s_ret (d_var rfl rfl))
  · refine s_seq (s_tryF (b_setX (n := 2) (γ := TS3) (pre := fun (c : TS3) xs => xs = [.dat (tab c.1), .dat (.int c.2.1)] ∧ dueT c.1 = some c.2.2 ∧ 0 ≤ c.2.1 ∧ c.2.1 < 16) (post := fun _ _ => False) (exc := fun c Cv x => Cv = .ref C_NoTable ∧ x = some (("at" : Str), PyData.int c.2.2)) (as := [a__law_some, a__law_other]) (Nat.le_of_ble_eq_true rfl) (rows, way, i) (d_var rfl ⟨1, a__law_other, rfl, rfl, List.mem_cons_of_mem _ (List.mem_cons_self ..), a_cons (d_var rfl (a_cons (d_var rfl (a_nil ⟨rfl, ⟨rfl, e, v0, v1⟩, fun _ z => z.elim, ?_⟩))))⟩)))
    rintro _ _ ⟨rfl, rfl⟩
    refine ⟨eh, fun a => ?_⟩
    refine s_mid (fun ρ => ∃ u, ρ = [some (.dat (tab rows)), some (.dat (.int 1)), some (.dat (.int way)), u, some (.mon (Caught K a (.ref C_NoTable) (some (("at" : Str), PyData.int i))))]) ?_ ?_
    · repeat walk_at "dl"
      exact ⟨_, rfl⟩
    rintro _ ⟨u, rfl⟩
    refine s_if (t_tru (d_isF rfl W (.inr ⟨_, rfl, kt0⟩) ⟨true, rfl, ?_⟩))
    rw [if_pos rfl]
    refine s_asg (d_tup (a_cons (d_str (a_cons (d_excFld rfl T W (a_nil ⟨_, rfl, Nat.le_of_ble_eq_true rfl, ?_⟩))))))
    exact g_name (s_ret (d_var rfl rfl))
def dueD (rows : List (List Int)) : PyData := match dueT rows with
  | none => .none
  | some i => .int i
theorem range_at {n i : Nat} {d : PyData} (h : (rangeD n)[i]? = some d) : i < n ∧ d = .int (i : Int) := by
  unfold rangeD at h
  rw [List.getElem?_map] at h
  by_cases hi : i < n
  · rw [List.getElem?_range hi] at h
    cases h
    exact ⟨hi, rfl⟩
  · rw [List.getElem?_eq_none (by rw [List.length_range]; omega)] at h
    cases h
theorem range_len (n : Nat) : (rangeD n).length = n := by unfold rangeD; simp
abbrev spDue (K : PySem.W.Frag) : Sp := spD K 1 (fun (c : List (List Int)) xs => xs = [.dat (tab c)] ∧ ∀ r ∈ c, r.length ≤ 8) fun c r => r = dueD c
theorem ok_due (F : Def K mg "_law_due" s_law_due ["_law_rows"]) (m_len : mg "len" = none) (m_range : mg "range" = none) (m_max : mg "max" = none) (m_min : mg "min" = none) : FnIn P w K mg base (k + 1) "_law_due" ["_law_rows"] (spDue K) := by
  refine F.ok sc_law_due rfl fun fa cdv A outer s H E hr => ⟨_, (pss_cons (ps_if (PW.pt (pw_or (pt_cmpR op_lt (pe_callB (call_lenK (K := K) rfl) rfl m_len PySem.boot_len (pa_cons (pv 0) pa_nil)) pe_int (nomark _)) (pw_or1 (pt_cmpR op_gt (pe_callB (call_lenK (K := K) rfl) rfl m_len PySem.boot_len (pa_cons (pv 0) pa_nil)) pe_int (nomark _))))) (pss_one (ps_ret (pe_un un_neg pe_int))) pss_nil) (pss_cons (ps_for PassesOwn.never rfl (pi_range1 rfl m_range (pa_cons (pe_callB (call_lenK (K := K) rfl) rfl m_len PySem.boot_len (pa_cons (pv 0) pa_nil)) pa_nil)) (pg_name (i := 1) sc_law_due.nd rfl (Or.inl rfl) (Or.inr rfl)) (pss_cons (ps_set (i := 2) sc_law_due.nd rfl (Or.inl rfl) (pe_callB (call_lenK (K := K) rfl) rfl m_len PySem.boot_len (pa_cons (pe_ix (ix_listK (K := K) rfl) (pv 0) (pv 1) (fun _ _ => rfl)) pa_nil))) (pss_cons (ps_if (PW.pt (pw_or (pt_cmpR (op_neK (K := K) rfl hr.units) (pv 2) (pe_callB (call_lenK (K := K) rfl) rfl m_len PySem.boot_len (pa_cons (pe_ix (ix_listK (K := K) rfl) (pv 0) pe_int (fun _ _ => rfl)) pa_nil)) (nomark _)) (pw_or (pt_cmpR op_lt (pv 2) pe_int (nomark _)) (pw_or (pt_cmpR op_gt (pv 2) pe_int (nomark _)) (pw_or1 (pt_cmpR op_gt (pe_callB (call_maxK (K := K) rfl rfl) rfl m_max boot_max (pa_cons (pe_op (op_catLK (K := K) rfl) (pe_ix (ix_listK (K := K) rfl) (pv 0) (pv 1) (fun _ _ => rfl)) (pe_lst (pa_cons pe_int pa_nil))) pa_nil)) (pe_op op_pow pe_int pe_int) (nomark _))))))) (pss_one (ps_ret (pv 1))) pss_nil) (pss_one (ps_if (pt_cmpR op_lt (pe_callB (call_minK (K := K) rfl rfl) rfl m_min boot_min (pa_cons (pe_op (op_catLK (K := K) rfl) (pe_ix (ix_listK (K := K) rfl) (pv 0) (pv 1) (fun _ _ => rfl)) (pe_lst (pa_cons pe_int pa_nil))) pa_nil)) (pe_op op_sub pe_int (pe_op op_pow pe_int pe_int)) (nomark _)) (pss_one (ps_ret (pv 1))) pss_nil))))) (pss_one (ps_ret pe_non)))), ?_⟩
  rintro f xs rows hl ⟨rfl, h8⟩
  try dsimp only [cxOf, cxComp]
  have ml : (rows.map fun r => PyData.list (r.map .int)).length = rows.length := List.length_map _
  refine s_seq (s_ifB (¬ (2 ≤ rows.length ∧ rows.length ≤ 7)) ?_ ?_ ?_)
  · repeat walk_at "dl"
    rw [ml]
    split <;> rename_i z <;> simp at z
    · symm; simp; omega
    · repeat walk_at "dl"
      rw [ml]
      rw [decide_eq_decide]
      omega
  · intro h
    have dd : dueD rows = .int (-1) := by unfold dueD dueT; rw [if_neg h]
    refine s_ret (d_neg ?_)
    repeat walk_at "dl"
    exact dd.symm
  intro h
  have h : 2 ≤ rows.length ∧ rows.length ≤ 7 := Decidable.not_not.mp h
  obtain ⟨r0, e0⟩ : ∃ r0, rows[0]? = some r0 := ⟨_, List.getElem?_eq_getElem (by omega)⟩
  have g0 : (rows.getD 0 []).length = r0.length := by rw [List.getD_eq_getElem?_getD, e0]; rfl
  have at0 : atI (rows.map fun q => PyData.list (q.map .int)) 0 = some (.list (r0.map .int)) := atI_nat (j := 0) (by rw [List.getElem?_map, e0]; rfl)
  have e9 : (10 : Int) ^ Int.toNat 9 = 1000000000 := by decide
  refine s_nil (s_seq (s_for (i_range (pad_to [.dat (.int rows.length)] ?_ ?_))))
  · repeat walk_at "dl"
    rw [ml]
  refine ⟨_, rfl, by omega, by omega, fun i ρ => (∃ a b, ρ = [some (.dat (tab rows)), a, b]) ∧ ∀ j : Nat, j < i → ∀ q, rows[j]? = some q → badAt (rows.getD 0 []).length q = false, ⟨⟨_, _, rfl⟩, fun j hj => absurd hj (Nat.not_lt_zero _)⟩, ?_, ?_⟩
  · rintro i d _ hd ⟨⟨a, b, rfl⟩, pre⟩
    obtain ⟨hi, rfl⟩ := range_at hd
    rw [Int.toNat_natCast] at hi
    obtain ⟨r, er⟩ : ∃ r, rows[i]? = some r := ⟨_, List.getElem?_eq_getElem hi⟩
    have r8 := h8 r (List.mem_of_getElem? er)
    have ati : atI (rows.map fun q => PyData.list (q.map .int)) (i : Int) = some (.list (r.map .int)) := atI_nat (by rw [List.getElem?_map, er]; rfl)
    have bad : badAt r0.length r = true → PyData.int (i : Int) = dueD rows := fun z => by
      unfold dueD
      rw [due_at h er (by rw [g0]; exact z) pre]
    have lr : (r.map PyData.int).length = r.length := List.length_map _
    have lr0 : (r0.map PyData.int).length = r0.length := List.length_map _
    have m0 : r.map PyData.int ++ [PyData.int 0] = (r ++ [0]).map PyData.int := by rw [List.map_append]; rfl
    refine g_name (s_mid (fun ρ => ρ = [some (.dat (tab rows)), some (.dat (.int i)), some (.dat (.int r.length))]) ?_ ?_)
    · repeat walk_at "dl"
      refine ⟨_, ati, ?_⟩
      repeat walk_at "dl"
      rw [lr]
      rfl
    rintro _ rfl
    refine s_seq (s_ifB (¬ (r.length = r0.length ∧ 2 ≤ r.length ∧ r.length ≤ 7 ∧ ∀ n ∈ r, n ≤ 1000000000)) ?_ ?_ ?_)
    · repeat walk_at "dl"
      refine ⟨_, at0, ?_⟩
      repeat walk_at "dl"
      rw [lr0, if_pos rfl]
      show (if (!(((r.length : Nat) : Int) == ((r0.length : Nat) : Int))) = true then _ else _)
      split <;> rename_i z
      · symm
        rw [decide_eq_true_eq]
        exact fun q => by have := q.1; simp at z; omega
      · have z : (r.length : Int) = r0.length := by simpa using z
        repeat walk_at "dl"
        split <;> rename_i z2 <;> simp at z2
        · symm
          rw [decide_eq_true_eq]
          exact fun q => by have := q.2.1; omega
        · repeat walk_at "dl"
          split <;> rename_i z3 <;> simp at z3
          · symm
            rw [decide_eq_true_eq]
            exact fun q => by have := q.2.2.1; omega
          · refine t_test (d_opB (d_maxL (a_cons (d_catL (d_ixL (d_var rfl ⟨_, rfl, d_var rfl ⟨_, rfl, _, ati, ⟨_, rfl, d_lst (a_cons (d_int (a_nil ⟨_, rfl, Nat.le_of_ble_eq_true rfl, ⟨_, rfl, by rw [lr]; show r.length + 1 ≤ 1000; omega, a_nil ⟨r ++ [0], by rw [m0], by simp, fun M hM hM' => ?_⟩⟩⟩)))⟩⟩⟩))))))
            repeat walk_at "dl"
            rw [e9, decide_eq_decide]
            constructor
            · intro q y
              rcases List.mem_append.mp hM with hm | hm
              · have := y.2.2.2 M hm
                omega
              · have := List.mem_singleton.mp hm
                omega
            · intro q
              refine Decidable.byContradiction fun y => q ⟨by omega, by omega, by omega, fun n hn => ?_⟩
              have := hM' n (List.mem_append_left _ hn)
              omega
    · intro hb
      refine s_ret (d_var rfl (bad ?_))
      unfold badAt rowOk
      by_cases hw : r.length = r0.length
      · rw [Bool.or_eq_true]
        refine .inr ?_
        rw [Bool.not_eq_true', decide_eq_false_iff_not]
        exact fun z => hb ⟨hw, z.1, z.2.1, fun n hn => (z.2.2 n hn).2⟩
      · simp [hw]
    · intro hb
      have hb := Decidable.not_not.mp hb
      refine s_nil (s_ifB (¬ ∀ n ∈ r, -1000000000 ≤ n) ?_ ?_ ?_)
      · refine t_test (d_opB (d_minL (a_cons (d_catL (d_ixL (d_var rfl ⟨_, rfl, d_var rfl ⟨_, rfl, _, ati, ⟨_, rfl, d_lst (a_cons (d_int (a_nil ⟨_, rfl, Nat.le_of_ble_eq_true rfl, ⟨_, rfl, by rw [lr]; show r.length + 1 ≤ 1000; omega, a_nil ⟨r ++ [0], by rw [m0], by simp, fun M hM hM' => ?_⟩⟩⟩)))⟩⟩⟩))))))
        repeat walk_at "dl"
        rw [e9, decide_eq_decide]
        constructor
        · intro q y
          rcases List.mem_append.mp hM with hm | hm
          · have := y M hm
            omega
          · have := List.mem_singleton.mp hm
            omega
        · intro q
          refine Decidable.byContradiction fun y => q fun n hn => ?_
          have := hM' n (List.mem_append_left _ hn)
          omega
      · intro hn
        refine s_ret (d_var rfl (bad ?_))
        unfold badAt rowOk
        rw [Bool.or_eq_true]
        refine .inr ?_
        rw [Bool.not_eq_true', decide_eq_false_iff_not]
        exact fun z => hn fun n hn => (z.2.2 n hn).1
      · intro hn
        have hn := Decidable.not_not.mp hn
        refine s_nil ⟨⟨_, _, rfl⟩, fun j hj q hq => ?_⟩
        by_cases ej : j = i
        · subst ej
          rw [er] at hq
          cases hq
          unfold badAt rowOk
          rw [g0, decide_eq_true (⟨hb.2.1, hb.2.2.1, fun n hm => ⟨hn n hm, hb.2.2.2 n hm⟩⟩ : 2 ≤ r.length ∧ r.length ≤ 7 ∧ ∀ n ∈ r, -1000000000 ≤ n ∧ n ≤ 1000000000), hb.1]
          simp
        · exact pre j (by omega) q hq
  · rintro _ ⟨⟨a, b, rfl⟩, pre⟩
    rw [range_len, Int.toNat_natCast] at pre
    refine s_ret (d_non ?_)
    show PyData.none = dueD rows
    unfold dueD
    rw [due_none h pre]
end
open PySem PySem.Spec PyProof.Rows L2
theorem menu {ds : List PyData} {i n : Int} (h0 : 0 ≤ i) (h1 : i < n) (hn : n = (ds.length : Int)) : ∃ d, atI ds i = some d ∧ d ∈ ds := by
  have hi : i.toNat < ds.length := by omega
  have e : i = ((i.toNat : Nat) : Int) := by omega
  have q := atI_nat (List.getElem?_eq_getElem hi)
  rw [← e] at q
  exact ⟨_, q, List.getElem_mem hi⟩
theorem of_ints : ∀ {es : List PyData} {p : Int → Prop}, (∀ (i : Nat) e, es[i]? = some e → ∃ n : Int, e = .int n ∧ p n) → ∃ ns : List Int, es = ns.map .int ∧ ∀ n ∈ ns, p n
  | [], p, _ => ⟨[], rfl, fun n h => by cases h⟩
  | e :: es, p, h => by
    obtain ⟨n, rfl, hn⟩ := h 0 e rfl
    obtain ⟨ns, rfl, hs⟩ := of_ints (es := es) (p := p) fun i e' he => h (i + 1) e' (by simpa using he)
    exact ⟨n :: ns, rfl, fun m hm => by
      rcases List.mem_cons.mp hm with rfl | hm
      · exact hn
      · exact hs m hm⟩
section
variable {P : Program} {w : World} {K : PySem.W.Frag} {mg : Str → Option Value} {base : Heap} {k : Nat}
abbrev spTableT (K : PySem.W.Frag) : Sp := spTT K 1 (fun (_ : Unit) xs => xs = [.feed]) (fun _ rows => ∃ wd, Good wd rows) (fun _ _ => False) fun _ _ _ => False
theorem ok_table (F : Def K mg "_law_table" s_law_table ["_law_feed_here"]) (m_range : mg "range" = none) (G__law_draw : FnIn P w K mg base k "_law_draw" ["_law_feed_here", "_law_many"] (spDraw K)) (G__law_height : FnIn P w K mg base k "_law_height" ["_law_feed_here", "_law_far", "_law_base"] (spHeight K)) :
    FnIn P w K mg base (k + 1) "_law_table" ["_law_feed_here"] (spTableT K) := by
  refine F.okG0 sc_law_table rfl fun fa cdv A outer s H E hr => ⟨_, (pss_cons (ps_set (i := 1) sc_law_table.nd rfl (Or.inr rfl) (pe_op op_add pe_int (pe_callI G__law_draw hr rfl (pa_cons (pv 0) (pa_cons pe_int pa_nil))))) (pss_cons (ps_set (i := 2) sc_law_table.nd rfl (Or.inl rfl) (pe_op op_add pe_int (pe_callI G__law_draw hr rfl (pa_cons (pv 0) (pa_cons pe_int pa_nil))))) (pss_cons (ps_set (i := 3) sc_law_table.nd rfl (Or.inr rfl) (pe_ix (ix_listK (K := K) rfl) (pe_lst (pa_cons pe_int (pa_cons pe_int (pa_cons pe_int (pa_cons pe_int (pa_cons pe_int (pa_cons pe_int (pa_cons pe_int pa_nil)))))))) (pe_callI G__law_draw hr rfl (pa_cons (pv 0) (pa_cons pe_int pa_nil))) (fun _ _ => rfl))) (pss_cons (ps_set (i := 4) sc_law_table.nd rfl (Or.inr rfl) (pe_ix (ix_listK (K := K) rfl) (pe_lst (pa_cons pe_int (pa_cons (pe_op op_sub pe_int pe_int) (pa_cons (pe_op op_sub (pe_op op_pow pe_int pe_int) pe_int) (pa_cons (pe_op op_sub pe_int (pe_op op_pow pe_int pe_int)) pa_nil))))) (pe_callI G__law_draw hr rfl (pa_cons (pv 0) (pa_cons pe_int pa_nil))) (fun _ _ => rfl))) (pss_one (ps_ret (pe_comp1 (N := ["_law_y", "_law_feed_here", "_law_wide", "_law_far", "_law_base"]) (own := 1) (fr := [0, 1, 3, 4]) ⟨rfl, by decide +kernel, of_decide_eq_true (by kernel_rfl), of_decide_eq_true (by kernel_rfl), of_decide_eq_true (by kernel_rfl), rfl⟩ rfl (pi_range1 rfl m_range (pa_cons (pv 2) pa_nil)) (fun _ _ _ _ => (pg_name (i := 0) (show (["_law_y", "_law_feed_here", "_law_wide", "_law_far", "_law_base"] : List Str).Nodup by decide +kernel) rfl (Or.inl rfl) (Or.inr rfl))) (fun _ _ _ _ => pts_nil) (fun _ _ _ _ => (pe_comp1 (N := ["_law_x", "_law_feed_here", "_law_far", "_law_base"]) (own := 1) (fr := [1, 3, 4]) ⟨rfl, by decide +kernel, of_decide_eq_true (by kernel_rfl), of_decide_eq_true (by kernel_rfl), of_decide_eq_true (by kernel_rfl), rfl⟩ rfl (pi_range1 rfl m_range (pa_cons (pv 2) pa_nil)) (fun _ _ _ _ => (pg_name (i := 0) (show (["_law_x", "_law_feed_here", "_law_far", "_law_base"] : List Str).Nodup by decide +kernel) rfl (Or.inl rfl) (Or.inr rfl))) (fun _ _ _ _ => pts_nil) (fun _ _ _ _ => (pe_callI G__law_height hr rfl (pa_cons (pv 1) (pa_cons (pv 2) (pa_cons (pv 3) pa_nil))))) rfl rfl (fun _ => rfl))) rfl rfl (fun _ => rfl)))))))), ?_⟩
  rintro f xs ⟨⟩ hl rfl
  try dsimp only [cxOf, cxComp]
  refine g_seq (f_stmt (s_asg ?_))
  repeat walk_at "dl"
  refine d_call 6 ?_
  repeat walk_at "dl"
  rintro r ⟨i1, rfl, h1, h2⟩
  repeat walk_at "dl"
  refine g_seq (f_stmt (s_asg ?_))
  repeat walk_at "dl"
  refine d_call 6 ?_
  repeat walk_at "dl"
  rintro r ⟨i2, rfl, h3, h4⟩
  repeat walk_at "dl"
  refine g_seq (f_stmt (s_asg ?_))
  repeat walk_at "dl"
  refine d_call 7 ?_
  repeat walk_at "dl"
  rintro r ⟨i3, rfl, h5, h6⟩
  refine ⟨_, rfl, ?_⟩
  obtain ⟨d3, e3, m3⟩ := menu (ds := [.int 2, .int 3, .int 5, .int 10, .int 2, .int 3, .int 0]) h5 h6 (by simp)
  obtain ⟨far, rfl, f0, f1⟩ : ∃ n : Int, d3 = .int n ∧ 0 ≤ n ∧ n ≤ 10 := by
    simp only [List.mem_cons, List.not_mem_nil, or_false] at m3
    rcases m3 with rfl | rfl | rfl | rfl | rfl | rfl | rfl <;> exact ⟨_, rfl, by decide, by decide⟩
  refine ⟨_, e3, g_name ?_⟩
  refine g_seq (f_stmt (s_asg ?_))
  repeat walk_at "dl"
  refine d_call 4 ?_
  repeat walk_at "dl"
  rintro r ⟨i4, rfl, h7, h8⟩
  refine ⟨_, rfl, ?_⟩
  obtain ⟨d4, e4, m4⟩ := menu (ds := [.int 0, .int (0 - 3), .int (10 ^ Int.toNat 9 - 9), .int (0 - 10 ^ Int.toNat 9)]) h7 h8 (by simp)
  obtain ⟨bs, rfl, b0, b1⟩ : ∃ n : Int, d4 = .int n ∧ -1000000000 ≤ n ∧ n ≤ 999999991 := by
    simp only [List.mem_cons, List.not_mem_nil, or_false] at m4
    rcases m4 with rfl | rfl | rfl | rfl <;> exact ⟨_, rfl, by decide, by decide⟩
  refine ⟨_, e4, g_name ?_⟩
  refine g_ret (t_range ?_)
  repeat walk_at "dl"
  refine ⟨fun _ r => r.length = (2 + i1).toNat ∧ ∀ n ∈ r, -1000000000 ≤ n ∧ n ≤ 1000000000, fun D i hi => ?_, fun rows hes hR => ?_⟩
  · refine c_rangeL1 ?_
    repeat walk_at "dl"
    refine ⟨fun _ e => ∃ n : Int, e = .int n ∧ -1000000000 ≤ n ∧ n ≤ 1000000000, fun D' i' hi' => ?_, fun es hes hR => ?_⟩
    · refine d_call (far, bs) ?_
      repeat walk_at "dl"
      rintro r ⟨n, rfl, n0, n1⟩
      exact ⟨n, rfl, n0, n1⟩
    · obtain ⟨ns, rfl, hs⟩ := of_ints (p := fun n => -1000000000 ≤ n ∧ n ≤ 1000000000) hR
      exact ⟨ns, rfl, by rw [List.length_map] at hes; exact hes, hs⟩
  · refine ⟨(2 + i1).toNat, by omega, by omega, by omega, by omega, fun r hr => ?_, fun r hr => ?_⟩
    · obtain ⟨j, hj⟩ := List.getElem?_of_mem hr
      exact (hR j r hj).1
    · obtain ⟨j, hj⟩ := List.getElem?_of_mem hr
      exact (hR j r hj).2
structure OkL (rows : List (List Int)) : Prop where
  h1 : 2 ≤ rows.length
  h2 : rows.length ≤ 7
  row : ∀ r ∈ rows, r.length ≤ 8
theorem OkL.set {rows : List (List Int)} (o : OkL rows) {y : Nat} {r' : List Int} (h : r'.length ≤ 8) : OkL (rows.set y r') where
  h1 := by rw [List.length_set]; exact o.h1
  h2 := by rw [List.length_set]; exact o.h2
  row := fun r hr => (List.mem_or_eq_of_mem_set hr).elim (o.row r) fun e => e ▸ h
abbrev spSpoil (K : PySem.W.Frag) : Sp := spW K (fun rows => ∃ wd, Good wd rows) fun d => ∃ bad : List (List Int), d = tab bad ∧ bad.length ≤ 8 ∧ ∀ r ∈ bad, r.length ≤ 8
theorem ok_spoil (F : Def K mg "_law_spoiled" s_law_spoiled ["_law_feed_here", "_law_rows"]) (m_len : mg "len" = none) (m_range : mg "range" = none) (m_list : mg "list" = none) (G__law_draw : FnIn P w K mg base k "_law_draw" ["_law_feed_here", "_law_many"] (spDraw K)) : FnIn P w K mg base (k + 1) "_law_spoiled" ["_law_feed_here", "_law_rows"] (spSpoil K) := by
  refine F.okW sc_law_spoiled rfl fun fa cdv A outer s H E hr => ⟨_, (pss_cons (ps_set (i := 2) sc_law_spoiled.nd rfl (Or.inl rfl) (pe_callI G__law_draw hr rfl (pa_cons (pv 0) (pa_cons pe_int pa_nil)))) (pss_cons (ps_set (i := 3) sc_law_spoiled.nd rfl (Or.inl rfl) (pe_callI G__law_draw hr rfl (pa_cons (pv 0) (pa_cons (pe_callB (call_lenK (K := K) rfl) rfl m_len PySem.boot_len (pa_cons (pv 1) pa_nil)) pa_nil)))) (pss_cons (ps_if (pt_cmpR op_lt (pv 2) pe_int (nomark _)) (pss_cons (ps_set (i := 4) sc_law_spoiled.nd rfl (Or.inl rfl) (pe_lst (pa_cons (pe_op op_add (pe_op op_pow pe_int pe_int) pe_int) (pa_cons (pe_op op_sub (pe_op op_sub pe_int (pe_op op_pow pe_int pe_int)) pe_int) (pa_cons (pe_op op_pow pe_int pe_int) (pa_cons (pe_op op_sub pe_int (pe_op op_pow pe_int pe_int)) pa_nil)))))) (pss_one (ps_asg (pe_ix (ix_listK (K := K) rfl) (pv 4) (pe_callI G__law_draw hr rfl (pa_cons (pv 0) (pa_cons pe_int pa_nil))) (fun _ _ => rfl)) (pg_sub (pe_ix (ix_listK (K := K) rfl) (pv 1) (pv 3) (fun _ _ => rfl)) (pe_callI G__law_draw hr rfl (pa_cons (pv 0) (pa_cons (pe_callB (call_lenK (K := K) rfl) rfl m_len PySem.boot_len (pa_cons (pe_ix (ix_listK (K := K) rfl) (pv 1) (pv 3) (fun _ _ => rfl)) pa_nil)) pa_nil))) set_list)))) pss_nil) (pss_cons (ps_if (pt_cmpR (op_eqK (K := K) rfl hr.units) (pv 2) pe_int (nomark _)) (pss_one (ps_expr (pe_bm0 PySem.F.plainAttrs_list PySem.F.slot_list_pop PySem.F.type_list_pop mt_pop (pe_ix (ix_listK (K := K) rfl) (pv 1) (pv 3) (fun _ _ => rfl))))) pss_nil) (pss_cons (ps_if (pt_cmpR (op_eqK (K := K) rfl hr.units) (pv 2) pe_int (nomark _)) (pss_one (ps_expr (pe_bm PySem.F.plainAttrs_list PySem.F.slot_list_append PySem.F.type_list_append mt_append (pe_ix (ix_listK (K := K) rfl) (pv 1) (pv 3) (fun _ _ => rfl)) (pa_cons pe_int pa_nil)))) pss_nil) (pss_cons (ps_if (pt_cmpR (op_eqK (K := K) rfl hr.units) (pv 2) pe_int (nomark _)) (pss_one (ps_set (i := 1) sc_law_spoiled.nd rfl (Or.inr rfl) (pe_op (op_catLK (K := K) rfl) (pv 1) (pe_comp1 (N := ["_law_k", "_law_rows"]) (own := 1) (fr := [1]) ⟨rfl, by decide +kernel, of_decide_eq_true (by kernel_rfl), of_decide_eq_true (by kernel_rfl), of_decide_eq_true (by kernel_rfl), rfl⟩ rfl (pi_range1 rfl m_range (pa_cons (pe_op op_sub pe_int (pe_callB (call_lenK (K := K) rfl) rfl m_len PySem.boot_len (pa_cons (pv 1) pa_nil))) pa_nil)) (fun _ _ _ _ => (pg_name (i := 0) (show (["_law_k", "_law_rows"] : List Str).Nodup by decide +kernel) rfl (Or.inl rfl) (Or.inr rfl))) (fun _ _ _ _ => pts_nil) (fun _ _ _ _ => (pe_callTy (call_listK (K := K) rfl) rfl m_list PyProof.Rows.boot_list (pa_cons (pe_ix (ix_listK (K := K) rfl) (pv 1) pe_int (fun _ _ => rfl)) pa_nil))) rfl rfl (fun _ => rfl))))) pss_nil) (pss_cons (ps_if (pt_cmpR (op_eqK (K := K) rfl hr.units) (pv 2) pe_int (nomark _)) (pss_one (ps_set (i := 1) sc_law_spoiled.nd rfl (Or.inr rfl) (pe_slice (sl_listK (K := K) rfl) (pv 1) po_none (po_some (pe_callI G__law_draw hr rfl (pa_cons (pv 0) (pa_cons pe_int pa_nil))))))) pss_nil) (pss_one (ps_ret (pv 1)))))))))), ?_⟩
  rintro f a as rows ⟨wd, g⟩
  try dsimp only [cxOf, cxComp]
  have g1 := g.h1
  have g2 := g.h2
  have w1 := g.w1
  have w2 := g.w2
  have ml : (rows.map fun r => PyData.list (r.map .int)).length = rows.length := List.length_map _
  refine w_seq (u_asgR (i := 1) rfl (d_call 6 ?_))
  repeat walk_at "dl"
  rintro _ ⟨way, rfl, v0, v1⟩
  refine ⟨_, rfl, w_seq (u_asgR (i := 1) rfl (d_call (rows.length : Int) ?_))⟩
  repeat walk_at "dl"
  refine ⟨⟨by rw [ml], by omega, by omega⟩, ?_⟩
  rintro _ ⟨y, rfl, y0, y1⟩
  obtain ⟨yn, rfl⟩ : ∃ n : Nat, y = n := ⟨y.toNat, by omega⟩
  obtain ⟨row, hrow⟩ : ∃ r, rows[yn]? = some r := ⟨_, List.getElem?_eq_getElem (by omega)⟩
  have rl := g.row row (List.mem_of_getElem? hrow)
  have ok0 : OkL rows := ⟨g1, g2, fun r hr => by rw [g.row r hr]; omega⟩
  have aty : atI (rows.map fun r => PyData.list (r.map .int)) (yn : Int) = some (.list (row.map .int)) := atI_nat (by rw [List.getElem?_map, hrow]; rfl)
  refine ⟨_, rfl, ?_⟩
  refine w_mid (fun ρ' R' => ∃ rows' x4, ρ' = [some .feed, some (.own f.M.length), some (.dat (.int way)), some (.dat (.int yn)), x4] ∧ R' = some rows' ∧ OkL rows' ∧ (2 ≤ way → rows' = rows)) (u_ifO ?_) ?_
  · repeat walk_at "dl"
    refine ite_b (fun h => ?_) fun h => ?_
    · have h := of_decide_eq_true h
      refine u_seq (u_lift (s_asg (d_lst ?_)))
      repeat walk_at "dl"
      refine u_setR (i := 1) rfl (d_ixL (d_var rfl ⟨_, rfl, d_call 4 ?_⟩))
      repeat walk_at "dl"
      rintro _ ⟨q, rfl, q0, q1⟩
      obtain ⟨d, ed, md⟩ := menu (ds := [.int (10 ^ Int.toNat 9 + 1), .int (0 - 10 ^ Int.toNat 9 - 1), .int (10 ^ Int.toNat 30), .int (0 - 10 ^ Int.toNat 30)]) q0 q1 (by simp)
      obtain ⟨v, rfl⟩ : ∃ n : Int, d = .int n := by
        simp only [List.mem_cons, List.not_mem_nil, or_false] at md
        rcases md with rfl | rfl | rfl | rfl <;> exact ⟨_, rfl⟩
      refine ⟨_, rfl, _, ed, v, rfl, d_var rfl ⟨_, rfl, yn, rfl, row, hrow, d_call (wd : Int) ?_⟩⟩
      repeat walk_at "dl"
      refine ⟨_, aty, ?_⟩
      repeat walk_at "dl"
      refine ⟨⟨by rw [List.length_map, rl], by omega, by omega⟩, ?_⟩
      rintro _ ⟨x, rfl, x0, x1⟩
      exact ⟨_, rfl, x.toNat, by omega, by omega, _, _, rfl, rfl, ok0.set (by rw [List.length_set]; omega), fun z => by omega⟩
    · exact u_next ⟨rows, _, rfl, rfl, ok0, fun _ => rfl⟩
  rintro _ _ ⟨rows1, x4, rfl, rfl, ok1, e1⟩
  refine w_mid (fun ρ' R' => ∃ rows' x4, ρ' = [some .feed, some (.own f.M.length), some (.dat (.int way)), some (.dat (.int yn)), x4] ∧ R' = some rows' ∧ OkL rows' ∧ (3 ≤ way → rows' = rows)) (u_ifO ?_) ?_
  · repeat walk_at "dl"
    rw [if_neg Bool.false_ne_true, eqv_int]
    refine ite_b (fun h => ?_) fun h => ?_
    · have h := of_decide_eq_true h
      have := e1 (by omega)
      subst this
      refine u_popRow (i := 1) rfl (d_var rfl ⟨_, rfl, yn, rfl, row, hrow, by rintro rfl; simp at rl; omega, _, _, rfl, rfl, ok0.set (by rw [List.length_dropLast]; omega), fun z => by omega⟩)
    · exact u_next ⟨rows1, _, rfl, rfl, ok1, fun z => e1 (by omega)⟩
  rintro _ _ ⟨rows2, x4, rfl, rfl, ok2, e2⟩
  refine w_mid (fun ρ' R' => ∃ rows' x4, ρ' = [some .feed, some (.own f.M.length), some (.dat (.int way)), some (.dat (.int yn)), x4] ∧ R' = some rows' ∧ OkL rows') (u_ifO ?_) ?_
  · repeat walk_at "dl"
    rw [if_neg Bool.false_ne_true, eqv_int]
    refine ite_b (fun h => ?_) fun h => ?_
    · have h := of_decide_eq_true h
      have := e2 (by omega)
      subst this
      refine u_app (i := 1) rfl (d_var rfl ⟨yn, rfl, row, hrow, by omega, d_int ⟨0, rfl, _, _, rfl, rfl, ok0.set (by rw [List.length_append]; show row.length + 1 ≤ 8; omega)⟩⟩)
    · exact u_next ⟨rows2, _, rfl, rfl, ok2⟩
  rintro _ _ ⟨rows3, x4, rfl, rfl, ok3⟩
  have l1 := ok3.h1
  have l2 := ok3.h2
  have ml3 : (rows3.map fun r => PyData.list (r.map .int)).length = rows3.length := List.length_map _
  obtain ⟨r0, hr0⟩ : ∃ r0, rows3[0]? = some r0 := ⟨_, List.getElem?_eq_getElem (by omega)⟩
  have at0 : atI (rows3.map fun r => PyData.list (r.map .int)) 0 = some (.list (r0.map .int)) := atI_nat (j := 0) (by rw [List.getElem?_map, hr0]; rfl)
  have r08 := ok3.row r0 (List.mem_of_getElem? hr0)
  refine w_free (i := 1) rfl ?_
  refine s_mid (fun ρ => ∃ rows' x4, ρ = [some .feed, some (.dat (tab rows')), some (.dat (.int way)), some (.dat (.int yn)), x4] ∧ rows'.length ≤ 8 ∧ ∀ r ∈ rows', r.length ≤ 8) (s_if ?_) ?_
  · repeat walk_at "dl"
    refine ite_b (fun h => ?_) fun h => s_nil ⟨rows3, _, rfl, by omega, ok3.row⟩
    refine s_asg (d_catL (d_var rfl ⟨_, rfl, PEdT.ped (t_range (pad_to [.dat (.int (8 - (rows3.length : Int)))] ?_ ?_))⟩))
    · repeat walk_at "dl"
      rw [ml3]
    refine ⟨_, rfl, by omega, by omega, fun _ r => r = r0, fun D i hi => ?_, fun rs hl hR => ?_⟩
    · refine l_copy (d_ixL (d_var rfl ⟨_, rfl, d_int ⟨_, rfl, _, at0, _, rfl, r0, rfl, rfl⟩⟩))
    · have rs8 : ∀ r ∈ rs, r.length ≤ 8 := fun r hr => by
        obtain ⟨j, hj⟩ := List.getElem?_of_mem hr
        rw [hR j r hj]
        exact r08
      refine ⟨_, rfl, by rw [List.length_map, List.length_map]; omega, g_name ⟨rows3 ++ rs, dropOwn f.M.length x4, ?_, by rw [List.length_append]; omega, fun r hr => (List.mem_append.mp hr).elim (ok3.row r) (rs8 r)⟩⟩
      rw [← List.map_append]
      rfl
  rintro _ ⟨rows4, x4, rfl, l4, ok4⟩
  refine s_mid (fun ρ => ∃ rows' x4, ρ = [some .feed, some (.dat (tab rows')), some (.dat (.int way)), some (.dat (.int yn)), x4] ∧ rows'.length ≤ 8 ∧ ∀ r ∈ rows', r.length ≤ 8) (s_if ?_) ?_
  · repeat walk_at "dl"
    refine ite_b (fun h => ?_) fun h => s_nil ⟨rows4, _, rfl, l4, ok4⟩
    refine s_asg (d_cut (d_var rfl ⟨_, rfl, po_no (po_at (d_call 2 ?_))⟩))
    repeat walk_at "dl"
    rintro _ ⟨q, rfl, q0, q1⟩
    refine ⟨_, rfl, g_name ⟨rows4.take (HT.sIx rows4.length rows4.length (some q)), x4, ?_, by rw [List.length_take]; omega, fun r hr => ok4 r (List.mem_of_mem_take hr)⟩⟩
    show [_, some (DV.dat (.list (L2.cutD (rows4.map fun r => .list (r.map .int)) none (some q)))), _, _, _] = _
    unfold L2.cutD
    rw [List.length_map, HT.sIx_none, List.drop_zero, Nat.sub_zero, ← List.map_take]
    rfl
  rintro _ ⟨rows5, x4, rfl, l5, ok5⟩
  exact s_ret (d_var rfl ⟨rows5, rfl, l5, ok5⟩)
end
open PySem PySem.Spec PyProof.Rows L2
theorem ints_lay : ∀ r : List Int, PyData.canLayAll0 (r.map .int) = true ∧ PyData.depthAll (r.map PyData.int) = 0
  | [] => ⟨rfl, rfl⟩
  | n :: r => ⟨(ints_lay r).1, by
    show max 0 (PyData.depthAll (r.map PyData.int)) = 0
    rw [(ints_lay r).2]
    rfl⟩
theorem rows_lay : ∀ rows : List (List Int), PyData.canLayAll0 (rows.map fun r => PyData.list (r.map .int)) = true ∧ PyData.depthAll (rows.map fun r => PyData.list (r.map .int)) ≤ 1
  | [] => ⟨rfl, by decide⟩
  | r :: rows => ⟨by
    show ((PyData.list (r.map .int)).canLay0 && PyData.canLayAll0 (rows.map fun r => PyData.list (r.map .int))) = true
    rw [(rows_lay rows).1, Bool.and_true]
    exact (ints_lay r).1, by
    show max (PyData.depthAll (r.map PyData.int) + 1) (PyData.depthAll (rows.map fun r => PyData.list (r.map .int))) ≤ 1
    rw [(ints_lay r).2]
    exact Nat.max_le.mpr ⟨by decide, (rows_lay rows).2⟩⟩
theorem tab_lay (rows : List (List Int)) : (tab rows).canLay0 = true := (rows_lay rows).1
theorem tab_deep (rows : List (List Int)) : (tab rows).depth ≤ 2 := Nat.succ_le_succ (rows_lay rows).2
section
variable {P : Program} {w : World} {K : PySem.W.Frag} {mg : Str → Option Value} {base : Heap} {k : Nat}
theorem ok_law {f : Addr} {fd : FuncData} (F : Fun K "law" "law" s_law f fd) (m_len : mg "len" = none) (m_range : mg "range" = none) (m_max : mg "max" = none) (m_min : mg "min" = none) (m_list : mg "list" = none)
    (G__law_feed : FnIn P w K mg base k "_law_feed" ["_law_script", "_law_k"] (spFeed K)) (G__law_table : FnIn P w K mg base k "_law_table" ["_law_feed_here"] (spTableT K)) (G__law_spoiled : FnIn P w K mg base k "_law_spoiled" ["_law_feed_here", "_law_rows"] (spSpoil K)) (G__law_due : FnIn P w K mg base k "_law_due" ["_law_rows"] (spDue K)) (G__law_told : FnIn P w K mg base k "_law_told" ["_law_rows", "_law_lot", "_law_way"] (spTold K)) :
    FnOk P w K mg base CX0 (k + 1) f fd ["_law_script"] (spLaw K) := by
  refine F.ok sc_law (fun vs H Q E h => ?_) fun cdv A outer s H vs Q E hr hs => ⟨_, (pss_cons (ps_for PassesOwn.never rfl (pi_range1 rfl m_range (pa_cons (pe_callB (call_max2 rfl) rfl m_max boot_max (pa_cons pe_int (pa_cons (pe_callB (call_min2 rfl) rfl m_min boot_min (pa_cons pe_int (pa_cons (pe_callB (call_lenK (K := K) rfl) rfl m_len PySem.boot_len (pa_cons (pv 0) pa_nil)) pa_nil))) pa_nil))) pa_nil)) (pg_name (i := 1) sc_law.nd rfl (Or.inl rfl) (Or.inr rfl)) (pss_cons (ps_set (i := 2) sc_law.nd rfl (Or.inl rfl) (pe_callI G__law_feed hr rfl (pa_cons (pv 0) (pa_cons (pv 1) pa_nil)))) (pss_cons (ps_set (i := 3) sc_law.nd rfl (Or.inl rfl) (pe_callI G__law_spoiled hr rfl (pa_cons (pv 2) (pa_cons (pe_callI G__law_table hr rfl (pa_cons (pv 2) pa_nil)) pa_nil)))) (pss_cons (ps_setComp1 (i := 4) (N := ["_law_row"]) (own := 1) (fr := []) ⟨rfl, by decide +kernel, of_decide_eq_true (by kernel_rfl), of_decide_eq_true (by kernel_rfl), of_decide_eq_true (by kernel_rfl), rfl⟩ rfl sc_law.nd rfl (Or.inl rfl) (pi_listK (K := K) rfl (pv 3)) (fun _ _ _ _ => (pg_name (i := 0) (show (["_law_row"] : List Str).Nodup by decide +kernel) rfl (Or.inl rfl) (Or.inr rfl))) (fun _ _ _ _ => pts_nil) (fun _ _ _ _ => (pe_callTy (call_listK (K := K) rfl) rfl m_list PyProof.Rows.boot_list (pa_cons (pv 0) pa_nil))) rfl rfl (fun _ => rfl) (Or.inl rfl) rfl) (pss_cons (ps_set (i := 5) sc_law.nd rfl (Or.inl rfl) (pe_callI G__law_due hr rfl (pa_cons (pv 4) pa_nil))) (pss_one (ps_if (pt_cmpR op_notN (pv 5) pe_non (nomark _)) (pss_one (ps_for PassesOwn.never rfl (pi_range1 rfl m_range (pa_cons pe_int pa_nil)) (pg_name (i := 6) sc_law.nd rfl (Or.inl rfl) (Or.inr rfl)) (pss_one (ps_for PassesOwn.never rfl (pi_range1 rfl m_range (pa_cons (pe_ix (ix_listK (K := K) rfl) (pe_lst (pa_cons pe_int (pa_cons pe_int pa_nil))) (pv 6) (fun _ _ => rfl)) pa_nil)) (pg_name (i := 7) sc_law.nd rfl (Or.inl rfl) (Or.inr rfl)) (pss_one (ps_if (PW.pt (pw_or (pt_cmpR (op_neK (K := K) rfl hr.units) (pe_callI G__law_told hr rfl (pa_cons (pv 3) (pa_cons (pv 6) (pa_cons (pv 7) pa_nil)))) (pe_tup (pa_cons pe_str (pa_cons (pv 5) pa_nil))) (nomark _)) (pw_or1 (pt_cmpR (op_neK (K := K) rfl hr.units) (pv 3) (pv 4) (nomark _))))) (pss_one (ps_ret pe_bl)) pss_nil)))))) pss_nil))))))) (pss_one (ps_ret pe_bl))), ?_⟩
  · obtain ⟨a, ns, rfl, _⟩ := h
    rfl
  obtain ⟨a, ns, rfl, hS, h63, q⟩ := hs
  have e0 : EnvOk K L2.f0 (startV N_law [.dat (scr ns)]) (start N_law [.ref a]) H := startV_ok (.cons (scr_rep hS) .nil) (L2.fok0 H)
  suffices h : PSd K L2.f0 _ (startV N_law [.dat (scr ns)]) { nx := fun _ => False, rt := fun d => d = .bool true } from
    h _ H _ e0 (fun _ _ _ _ _ z => z.elim) (fun d v H' _ r z => by
      subst z
      rw [rep_bool.mp r]
      exact q H') (fun _ _ _ _ _ z => z) (fun _ _ _ _ _ z => z)
  refine s_seq (s_for (i_range (pad_imp (R := fun xs => ∃ j : Int, xs = [.dat (.int j)] ∧ 0 ≤ j ∧ j ≤ 63) ?_ ?_)))
  · repeat walk_at "dl"
    rw [List.length_map]
    split <;> split <;> omega
  rintro _ ⟨j, rfl, j0, j1⟩
  refine ⟨j, rfl, by omega, by omega, fun i ρ => ∃ x1 x2 x3 x4 x5 x6 x7, ρ = [some (.dat (scr ns)), x1, x2, x3, x4, x5, x6, x7], ⟨_, _, _, _, _, _, _, rfl⟩, ?_, ?_⟩
  · rintro i d _ hi ⟨x1, x2, x3, x4, x5, x6, x7, rfl⟩
    obtain ⟨hi, rfl⟩ := range_at hi
    refine g_name (s_feed (e_feed rfl rfl h63 (by omega) (by omega)) fun p => ?_)
    refine s_seq (s_asg (d_callW rfl (t_callTT () (a_feed rfl (a_nil ⟨rfl, rfl, fun rows h => ⟨h, ?_⟩, fun _ z => z, fun _ _ z => z⟩)))))
    rintro _ ⟨bad, rfl, b8, r8⟩
    refine g_name (s_seq (s_asg (d_keep (i := 3) rfl (by omega) (g_name ?_))))
    have ct := tab_lay bad
    have dt := tab_deep bad
    refine s_seq (s_asg (d_call bad (a_cons (d_var rfl (a_nil ⟨rfl, ⟨rfl, r8⟩, ?_⟩)))))
    rintro _ rfl
    refine g_name ?_
    cases e : dueT bad with
    | none =>
      have dd : dueD bad = .none := by unfold dueD; rw [e]
      rw [dd]
      refine s_if (t_test (d_noNo (d_var rfl ⟨true, rfl, false, rfl, ?_⟩)))
      rw [if_neg Bool.false_ne_true]
      exact s_nil ⟨_, _, _, _, _, _, _, rfl⟩
    | some q2 =>
      have dd : dueD bad = .int q2 := by unfold dueD; rw [e]
      rw [dd]
      refine s_if (t_test (d_noNo (d_var rfl ⟨false, rfl, true, rfl, ?_⟩)))
      rw [if_pos rfl]
      refine s_for (i_range (a_cons (d_int (a_nil ⟨2, rfl, by decide, by decide, fun n ρ => ∃ x6 x7, ρ = [some (.dat (scr ns)), some (.dat (.int i)), some .feed, some (.dat (tab bad)), some (.dat (tab bad)), some (.dat (.int q2)), x6, x7], ⟨_, _, rfl⟩, ?_, ?_⟩))))
      · rintro l d _ hd ⟨y6, y7, rfl⟩
        obtain ⟨hl, rfl⟩ := range_at hd
        have hl : l < 2 := hl
        refine g_name (s_for (i_range (pad_to [.dat (.int (lotMost l))] ?_ ?_)))
        · refine a_cons (d_ixL (d_lst (a_cons (d_int (a_cons (d_int (a_nil ⟨_, rfl, Nat.le_of_ble_eq_true rfl, _, rfl, d_var rfl ⟨_, rfl, .int (lotMost l), ?_, a_nil ?_⟩⟩)))))))
          · have : l = 0 ∨ l = 1 := by omega
            rcases this with rfl | rfl <;> rfl
          · rfl
        have lm : 0 ≤ lotMost l ∧ lotMost l ≤ 16 := by
          unfold lotMost
          split <;> omega
        refine ⟨_, rfl, by omega, by omega, fun n ρ => ∃ x7, ρ = [some (.dat (scr ns)), some (.dat (.int i)), some .feed, some (.dat (tab bad)), some (.dat (tab bad)), some (.dat (.int q2)), some (.dat (.int l)), x7], ⟨_, rfl⟩, ?_, ?_⟩
        · rintro wy d _ hd ⟨y7, rfl⟩
          obtain ⟨hw, rfl⟩ := range_at hd
          refine g_name (s_ifB False ?_ (fun z => z.elim) fun _ => s_nil ⟨_, rfl⟩)
          refine t_or (t_test (d_eqD (d_call (bad, (l : Int), (wy : Int), q2) (a_cons (d_var rfl (a_cons (d_var rfl (a_cons (d_var rfl (a_nil ⟨rfl, ⟨rfl, e, by dsimp only; omega, by dsimp only; omega, by dsimp only; omega⟩, ?_⟩))))))))))
          rintro _ rfl
          have cs : (PyData.str "no table").canLay0 = true := by decide +kernel
          have cl : (PyData.tuple [.str "no table", .int q2]).canLay0 = true := by
            show ((PyData.str "no table").canLay0 && ((PyData.int q2).canLay0 && true)) = true
            rw [cs]
            rfl
          refine d_tup (a_cons (d_str (a_cons (d_var rfl (a_nil ⟨_, rfl, Nat.le_of_ble_eq_true rfl, cl, cl, Nat.le_trans (Nat.min_le_left _ _) (show (PyData.tuple [.str "no table", .int q2]).depth ≤ 60 from Nat.le_of_ble_eq_true rfl), false, ?_, ?_⟩)))))
          · rw [if_pos rfl]
            show PyData.bool (!PyData.eqv (.tuple [.str "no table", .int q2]) (.tuple [.str "no table", .int q2])) = _
            rw [SeqAt.eqv_refl _ cl]
            rfl
          · rw [if_neg Bool.false_ne_true]
            refine t_test (d_eqD (d_var rfl (d_var rfl ⟨ct, ct, Nat.le_trans (Nat.min_le_left _ _) (by omega), _, rfl, ?_⟩)))
            rw [if_pos rfl, SeqAt.eqv_refl _ ct]
            rfl
        · rintro _ ⟨y7, rfl⟩
          exact ⟨_, _, rfl⟩
      · rintro _ ⟨y6, y7, rfl⟩
        exact ⟨_, _, _, _, _, _, _, rfl⟩
  · rintro _ ⟨x1, x2, x3, x4, x5, x6, x7, rfl⟩
    exact s_ret (d_bl rfl)
end
open PySem PySem.Spec PyProof.Rows L2
theorem all_mk {l : PySem.W.OpenLaw} {w : World} {K : PySem.W.Frag} {h : Heap} {mg : Str → Option Value} {fa : Addr} (X : K.In h) (G : h.Ns mainGlobals mg) (hfa : mg "law" = some (.ref fa))
    {f9 : Addr} {od9 an9 : Option Addr} {sl9 : Array (Option Value)} {oc9 kV9 dc9 pm9 cd9 ct9 : Value}
    (a9 : PySem.W.nsIn K mainGlobals "ask_table" = some (some (.ref f9))) (l9 : K.lookup f9 = some ⟨oc9, od9, .func (PySem.W.fnOf "ask_table" "ask_table" (defArgs s_ask_table) (defBody s_ask_table) (defScope s_ask_table) .none kV9 dc9 pm9 an9 cd9 ct9), sl9⟩) (c9 : PySem.W.codeIn K cd9 "ask_table" = true) (k9 : PySem.W.keepIn K (.ref f9) = true)
    {f10 : Addr} {od10 an10 : Option Addr} {sl10 : Array (Option Value)} {oc10 kV10 dc10 pm10 cd10 ct10 : Value}
    (a10 : PySem.W.nsIn K mainGlobals "fits" = some (some (.ref f10))) (l10 : K.lookup f10 = some ⟨oc10, od10, .func (PySem.W.fnOf "fits" "fits" (defArgs s_fits) (defBody s_fits) (defScope s_fits) .none kV10 dc10 pm10 an10 cd10 ct10), sl10⟩) (c10 : PySem.W.codeIn K cd10 "fits" = true) (k10 : PySem.W.keepIn K (.ref f10) = true)
    {f11 : Addr} {od11 an11 : Option Addr} {sl11 : Array (Option Value)} {oc11 kV11 dc11 pm11 cd11 ct11 : Value}
    (a11 : PySem.W.nsIn K mainGlobals "is_row" = some (some (.ref f11))) (l11 : K.lookup f11 = some ⟨oc11, od11, .func (PySem.W.fnOf "is_row" "is_row" (defArgs s_is_row) (defBody s_is_row) (defScope s_is_row) .none kV11 dc11 pm11 an11 cd11 ct11), sl11⟩) (c11 : PySem.W.codeIn K cd11 "is_row" = true) (k11 : PySem.W.keepIn K (.ref f11) = true)
    {f12 : Addr} {od12 an12 : Option Addr} {sl12 : Array (Option Value)} {oc12 kV12 dc12 pm12 cd12 ct12 : Value}
    (a12 : PySem.W.nsIn K mainGlobals "turned" = some (some (.ref f12))) (l12 : K.lookup f12 = some ⟨oc12, od12, .func (PySem.W.fnOf "turned" "turned" (defArgs s_turned) (defBody s_turned) (defScope s_turned) .none kV12 dc12 pm12 an12 cd12 ct12), sl12⟩) (c12 : PySem.W.codeIn K cd12 "turned" = true) (k12 : PySem.W.keepIn K (.ref f12) = true)
    {f13 : Addr} {od13 an13 : Option Addr} {sl13 : Array (Option Value)} {oc13 kV13 dc13 pm13 cd13 ct13 : Value}
    (a13 : PySem.W.nsIn K mainGlobals "mirrored" = some (some (.ref f13))) (l13 : K.lookup f13 = some ⟨oc13, od13, .func (PySem.W.fnOf "mirrored" "mirrored" (defArgs s_mirrored) (defBody s_mirrored) (defScope s_mirrored) .none kV13 dc13 pm13 an13 cd13 ct13), sl13⟩) (c13 : PySem.W.codeIn K cd13 "mirrored" = true) (k13 : PySem.W.keepIn K (.ref f13) = true)
    {f14 : Addr} {od14 an14 : Option Addr} {sl14 : Array (Option Value)} {oc14 kV14 dc14 pm14 cd14 ct14 : Value}
    (a14 : PySem.W.nsIn K mainGlobals "raised" = some (some (.ref f14))) (l14 : K.lookup f14 = some ⟨oc14, od14, .func (PySem.W.fnOf "raised" "raised" (defArgs s_raised) (defBody s_raised) (defScope s_raised) .none kV14 dc14 pm14 an14 cd14 ct14), sl14⟩) (c14 : PySem.W.codeIn K cd14 "raised" = true) (k14 : PySem.W.keepIn K (.ref f14) = true)
    {f15 : Addr} {od15 an15 : Option Addr} {sl15 : Array (Option Value)} {oc15 kV15 dc15 pm15 cd15 ct15 : Value}
    (a15 : PySem.W.nsIn K mainGlobals "span" = some (some (.ref f15))) (l15 : K.lookup f15 = some ⟨oc15, od15, .func (PySem.W.fnOf "span" "span" (defArgs s_span) (defBody s_span) (defScope s_span) .none kV15 dc15 pm15 an15 cd15 ct15), sl15⟩) (c15 : PySem.W.codeIn K cd15 "span" = true) (k15 : PySem.W.keepIn K (.ref f15) = true)
    {f19 : Addr} {od19 an19 : Option Addr} {sl19 : Array (Option Value)} {oc19 kV19 dc19 pm19 cd19 ct19 : Value}
    (a19 : PySem.W.nsIn K mainGlobals "is_high" = some (some (.ref f19))) (l19 : K.lookup f19 = some ⟨oc19, od19, .func (PySem.W.fnOf "is_high" "is_high" (defArgs s_is_high) (defBody s_is_high) (defScope s_is_high) .none kV19 dc19 pm19 an19 cd19 ct19), sl19⟩) (c19 : PySem.W.codeIn K cd19 "is_high" = true) (k19 : PySem.W.keepIn K (.ref f19) = true)
    {f20 : Addr} {od20 an20 : Option Addr} {sl20 : Array (Option Value)} {oc20 kV20 dc20 pm20 cd20 ct20 : Value}
    (a20 : PySem.W.nsIn K mainGlobals "gates" = some (some (.ref f20))) (l20 : K.lookup f20 = some ⟨oc20, od20, .func (PySem.W.fnOf "gates" "gates" (defArgs s_gates) (defBody s_gates) (defScope s_gates) .none kV20 dc20 pm20 an20 cd20 ct20), sl20⟩) (c20 : PySem.W.codeIn K cd20 "gates" = true) (k20 : PySem.W.keepIn K (.ref f20) = true)
    {f21 : Addr} {od21 an21 : Option Addr} {sl21 : Array (Option Value)} {oc21 kV21 dc21 pm21 cd21 ct21 : Value}
    (a21 : PySem.W.nsIn K mainGlobals "ties" = some (some (.ref f21))) (l21 : K.lookup f21 = some ⟨oc21, od21, .func (PySem.W.fnOf "ties" "ties" (defArgs s_ties) (defBody s_ties) (defScope s_ties) .none kV21 dc21 pm21 an21 cd21 ct21), sl21⟩) (c21 : PySem.W.codeIn K cd21 "ties" = true) (k21 : PySem.W.keepIn K (.ref f21) = true)
    {f22 : Addr} {od22 an22 : Option Addr} {sl22 : Array (Option Value)} {oc22 kV22 dc22 pm22 cd22 ct22 : Value}
    (a22 : PySem.W.nsIn K mainGlobals "goes" = some (some (.ref f22))) (l22 : K.lookup f22 = some ⟨oc22, od22, .func (PySem.W.fnOf "goes" "goes" (defArgs s_goes) (defBody s_goes) (defScope s_goes) .none kV22 dc22 pm22 an22 cd22 ct22), sl22⟩) (c22 : PySem.W.codeIn K cd22 "goes" = true) (k22 : PySem.W.keepIn K (.ref f22) = true)
    {f38 : Addr} {od38 an38 : Option Addr} {sl38 : Array (Option Value)} {oc38 kV38 dc38 pm38 cd38 ct38 : Value}
    (a38 : PySem.W.nsIn K mainGlobals "place" = some (some (.ref f38))) (l38 : K.lookup f38 = some ⟨oc38, od38, .func (PySem.W.fnOf "place" "place" (defArgs s_place) (defBody s_place) (defScope s_place) .none kV38 dc38 pm38 an38 cd38 ct38), sl38⟩) (c38 : PySem.W.codeIn K cd38 "place" = true) (k38 : PySem.W.keepIn K (.ref f38) = true)
    {f41 : Addr} {od41 an41 : Option Addr} {sl41 : Array (Option Value)} {oc41 kV41 dc41 pm41 cd41 ct41 : Value}
    (a41 : PySem.W.nsIn K mainGlobals "lines" = some (some (.ref f41))) (l41 : K.lookup f41 = some ⟨oc41, od41, .func (PySem.W.fnOf "lines" "lines" (defArgs s_lines) (defBody s_lines) (defScope s_lines) .none kV41 dc41 pm41 an41 cd41 ct41), sl41⟩) (c41 : PySem.W.codeIn K cd41 "lines" = true) (k41 : PySem.W.keepIn K (.ref f41) = true)
    {f43 : Addr} {od43 an43 : Option Addr} {sl43 : Array (Option Value)} {oc43 kV43 dc43 pm43 cd43 ct43 : Value}
    (a43 : PySem.W.nsIn K mainGlobals "line_at" = some (some (.ref f43))) (l43 : K.lookup f43 = some ⟨oc43, od43, .func (PySem.W.fnOf "line_at" "line_at" (defArgs s_line_at) (defBody s_line_at) (defScope s_line_at) .none kV43 dc43 pm43 an43 cd43 ct43), sl43⟩) (c43 : PySem.W.codeIn K cd43 "line_at" = true) (k43 : PySem.W.keepIn K (.ref f43) = true)
    {f44 : Addr} {od44 an44 : Option Addr} {sl44 : Array (Option Value)} {oc44 kV44 dc44 pm44 cd44 ct44 : Value}
    (a44 : PySem.W.nsIn K mainGlobals "regions" = some (some (.ref f44))) (l44 : K.lookup f44 = some ⟨oc44, od44, .func (PySem.W.fnOf "regions" "regions" (defArgs s_regions) (defBody s_regions) (defScope s_regions) .none kV44 dc44 pm44 an44 cd44 ct44), sl44⟩) (c44 : PySem.W.codeIn K cd44 "regions" = true) (k44 : PySem.W.keepIn K (.ref f44) = true)
    {f45 : Addr} {od45 an45 : Option Addr} {sl45 : Array (Option Value)} {oc45 kV45 dc45 pm45 cd45 ct45 : Value}
    (a45 : PySem.W.nsIn K mainGlobals "region_of" = some (some (.ref f45))) (l45 : K.lookup f45 = some ⟨oc45, od45, .func (PySem.W.fnOf "region_of" "region_of" (defArgs s_region_of) (defBody s_region_of) (defScope s_region_of) .none kV45 dc45 pm45 an45 cd45 ct45), sl45⟩) (c45 : PySem.W.codeIn K cd45 "region_of" = true) (k45 : PySem.W.keepIn K (.ref f45) = true)
    {f46 : Addr} {od46 an46 : Option Addr} {sl46 : Array (Option Value)} {oc46 kV46 dc46 pm46 cd46 ct46 : Value}
    (a46 : PySem.W.nsIn K mainGlobals "sides" = some (some (.ref f46))) (l46 : K.lookup f46 = some ⟨oc46, od46, .func (PySem.W.fnOf "sides" "sides" (defArgs s_sides) (defBody s_sides) (defScope s_sides) .none kV46 dc46 pm46 an46 cd46 ct46), sl46⟩) (c46 : PySem.W.codeIn K cd46 "sides" = true) (k46 : PySem.W.keepIn K (.ref f46) = true)
    {f50 : Addr} {od50 an50 : Option Addr} {sl50 : Array (Option Value)} {oc50 kV50 dc50 pm50 cd50 ct50 : Value}
    (a50 : PySem.W.nsIn K mainGlobals "region_areas" = some (some (.ref f50))) (l50 : K.lookup f50 = some ⟨oc50, od50, .func (PySem.W.fnOf "region_areas" "region_areas" (defArgs s_region_areas) (defBody s_region_areas) (defScope s_region_areas) .none kV50 dc50 pm50 an50 cd50 ct50), sl50⟩) (c50 : PySem.W.codeIn K cd50 "region_areas" = true) (k50 : PySem.W.keepIn K (.ref f50) = true)
    {f51 : Addr} {od51 an51 : Option Addr} {sl51 : Array (Option Value)} {oc51 kV51 dc51 pm51 cd51 ct51 : Value}
    (a51 : PySem.W.nsIn K mainGlobals "ring_area" = some (some (.ref f51))) (l51 : K.lookup f51 = some ⟨oc51, od51, .func (PySem.W.fnOf "ring_area" "ring_area" (defArgs s_ring_area) (defBody s_ring_area) (defScope s_ring_area) .none kV51 dc51 pm51 an51 cd51 ct51), sl51⟩) (c51 : PySem.W.codeIn K cd51 "ring_area" = true) (k51 : PySem.W.keepIn K (.ref f51) = true)
    {f55 : Addr} {od55 an55 : Option Addr} {sl55 : Array (Option Value)} {oc55 kV55 dc55 pm55 cd55 ct55 : Value}
    (a55 : PySem.W.nsIn K mainGlobals "nodes_at" = some (some (.ref f55))) (l55 : K.lookup f55 = some ⟨oc55, od55, .func (PySem.W.fnOf "nodes_at" "nodes_at" (defArgs s_nodes_at) (defBody s_nodes_at) (defScope s_nodes_at) .none kV55 dc55 pm55 an55 cd55 ct55), sl55⟩) (c55 : PySem.W.codeIn K cd55 "nodes_at" = true) (k55 : PySem.W.keepIn K (.ref f55) = true)
    {f56 : Addr} {od56 an56 : Option Addr} {sl56 : Array (Option Value)} {oc56 kV56 dc56 pm56 cd56 ct56 : Value}
    (a56 : PySem.W.nsIn K mainGlobals "tree" = some (some (.ref f56))) (l56 : K.lookup f56 = some ⟨oc56, od56, .func (PySem.W.fnOf "tree" "tree" (defArgs s_tree) (defBody s_tree) (defScope s_tree) .none kV56 dc56 pm56 an56 cd56 ct56), sl56⟩) (c56 : PySem.W.codeIn K cd56 "tree" = true) (k56 : PySem.W.keepIn K (.ref f56) = true)
    {f66 : Addr} {od66 an66 : Option Addr} {sl66 : Array (Option Value)} {oc66 kV66 dc66 pm66 cd66 ct66 : Value}
    (a66 : PySem.W.nsIn K mainGlobals "first_wrong" = some (some (.ref f66))) (l66 : K.lookup f66 = some ⟨oc66, od66, .func (PySem.W.fnOf "first_wrong" "first_wrong" (defArgs s_first_wrong) (defBody s_first_wrong) (defScope s_first_wrong) .none kV66 dc66 pm66 an66 cd66 ct66), sl66⟩) (c66 : PySem.W.codeIn K cd66 "first_wrong" = true) (k66 : PySem.W.keepIn K (.ref f66) = true)
    {f73 : Addr} {od73 an73 : Option Addr} {sl73 : Array (Option Value)} {oc73 kV73 dc73 pm73 cd73 ct73 : Value}
    (a73 : PySem.W.nsIn K mainGlobals "peaks" = some (some (.ref f73))) (l73 : K.lookup f73 = some ⟨oc73, od73, .func (PySem.W.fnOf "peaks" "peaks" (defArgs s_peaks) (defBody s_peaks) (defScope s_peaks) .none kV73 dc73 pm73 an73 cd73 ct73), sl73⟩) (c73 : PySem.W.codeIn K cd73 "peaks" = true) (k73 : PySem.W.keepIn K (.ref f73) = true)
    {f77 : Addr} {od77 an77 : Option Addr} {sl77 : Array (Option Value)} {oc77 kV77 dc77 pm77 cd77 ct77 : Value}
    (a77 : PySem.W.nsIn K mainGlobals "lies_in" = some (some (.ref f77))) (l77 : K.lookup f77 = some ⟨oc77, od77, .func (PySem.W.fnOf "lies_in" "lies_in" (defArgs s_lies_in) (defBody s_lies_in) (defScope s_lies_in) .none kV77 dc77 pm77 an77 cd77 ct77), sl77⟩) (c77 : PySem.W.codeIn K cd77 "lies_in" = true) (k77 : PySem.W.keepIn K (.ref f77) = true)
    {f79 : Addr} {od79 an79 : Option Addr} {sl79 : Array (Option Value)} {oc79 kV79 dc79 pm79 cd79 ct79 : Value}
    (a79 : PySem.W.nsIn K mainGlobals "_law_feed" = some (some (.ref f79))) (l79 : K.lookup f79 = some ⟨oc79, od79, .func (PySem.W.fnOf "_law_feed" "_law_feed" (defArgs s_law_feed) (defBody s_law_feed) (defScope s_law_feed) .none kV79 dc79 pm79 an79 cd79 ct79), sl79⟩) (c79 : PySem.W.codeIn K cd79 "_law_feed" = true) (k79 : PySem.W.keepIn K (.ref f79) = true)
    {f80 : Addr} {od80 an80 : Option Addr} {sl80 : Array (Option Value)} {oc80 kV80 dc80 pm80 cd80 ct80 : Value}
    (a80 : PySem.W.nsIn K mainGlobals "_law_draw" = some (some (.ref f80))) (l80 : K.lookup f80 = some ⟨oc80, od80, .func (PySem.W.fnOf "_law_draw" "_law_draw" (defArgs s_law_draw) (defBody s_law_draw) (defScope s_law_draw) .none kV80 dc80 pm80 an80 cd80 ct80), sl80⟩) (c80 : PySem.W.codeIn K cd80 "_law_draw" = true) (k80 : PySem.W.keepIn K (.ref f80) = true)
    {f81 : Addr} {od81 an81 : Option Addr} {sl81 : Array (Option Value)} {oc81 kV81 dc81 pm81 cd81 ct81 : Value}
    (a81 : PySem.W.nsIn K mainGlobals "_law_height" = some (some (.ref f81))) (l81 : K.lookup f81 = some ⟨oc81, od81, .func (PySem.W.fnOf "_law_height" "_law_height" (defArgs s_law_height) (defBody s_law_height) (defScope s_law_height) .none kV81 dc81 pm81 an81 cd81 ct81), sl81⟩) (c81 : PySem.W.codeIn K cd81 "_law_height" = true) (k81 : PySem.W.keepIn K (.ref f81) = true)
    {f82 : Addr} {od82 an82 : Option Addr} {sl82 : Array (Option Value)} {oc82 kV82 dc82 pm82 cd82 ct82 : Value}
    (a82 : PySem.W.nsIn K mainGlobals "_law_table" = some (some (.ref f82))) (l82 : K.lookup f82 = some ⟨oc82, od82, .func (PySem.W.fnOf "_law_table" "_law_table" (defArgs s_law_table) (defBody s_law_table) (defScope s_law_table) .none kV82 dc82 pm82 an82 cd82 ct82), sl82⟩) (c82 : PySem.W.codeIn K cd82 "_law_table" = true) (k82 : PySem.W.keepIn K (.ref f82) = true)
    {f84 : Addr} {od84 an84 : Option Addr} {sl84 : Array (Option Value)} {oc84 kV84 dc84 pm84 cd84 ct84 : Value}
    (a84 : PySem.W.nsIn K mainGlobals "_law_spoiled" = some (some (.ref f84))) (l84 : K.lookup f84 = some ⟨oc84, od84, .func (PySem.W.fnOf "_law_spoiled" "_law_spoiled" (defArgs s_law_spoiled) (defBody s_law_spoiled) (defScope s_law_spoiled) .none kV84 dc84 pm84 an84 cd84 ct84), sl84⟩) (c84 : PySem.W.codeIn K cd84 "_law_spoiled" = true) (k84 : PySem.W.keepIn K (.ref f84) = true)
    {f85 : Addr} {od85 an85 : Option Addr} {sl85 : Array (Option Value)} {oc85 kV85 dc85 pm85 cd85 ct85 : Value}
    (a85 : PySem.W.nsIn K mainGlobals "_law_due" = some (some (.ref f85))) (l85 : K.lookup f85 = some ⟨oc85, od85, .func (PySem.W.fnOf "_law_due" "_law_due" (defArgs s_law_due) (defBody s_law_due) (defScope s_law_due) .none kV85 dc85 pm85 an85 cd85 ct85), sl85⟩) (c85 : PySem.W.codeIn K cd85 "_law_due" = true) (k85 : PySem.W.keepIn K (.ref f85) = true)
    {f86 : Addr} {od86 an86 : Option Addr} {sl86 : Array (Option Value)} {oc86 kV86 dc86 pm86 cd86 ct86 : Value}
    (a86 : PySem.W.nsIn K mainGlobals "_law_some" = some (some (.ref f86))) (l86 : K.lookup f86 = some ⟨oc86, od86, .func (PySem.W.fnOf "_law_some" "_law_some" (defArgs s_law_some) (defBody s_law_some) (defScope s_law_some) .none kV86 dc86 pm86 an86 cd86 ct86), sl86⟩) (c86 : PySem.W.codeIn K cd86 "_law_some" = true) (k86 : PySem.W.keepIn K (.ref f86) = true)
    {f87 : Addr} {od87 an87 : Option Addr} {sl87 : Array (Option Value)} {oc87 kV87 dc87 pm87 cd87 ct87 : Value}
    (a87 : PySem.W.nsIn K mainGlobals "_law_other" = some (some (.ref f87))) (l87 : K.lookup f87 = some ⟨oc87, od87, .func (PySem.W.fnOf "_law_other" "_law_other" (defArgs s_law_other) (defBody s_law_other) (defScope s_law_other) .none kV87 dc87 pm87 an87 cd87 ct87), sl87⟩) (c87 : PySem.W.codeIn K cd87 "_law_other" = true) (k87 : PySem.W.keepIn K (.ref f87) = true)
    {f88 : Addr} {od88 an88 : Option Addr} {sl88 : Array (Option Value)} {oc88 kV88 dc88 pm88 cd88 ct88 : Value}
    (a88 : PySem.W.nsIn K mainGlobals "_law_told" = some (some (.ref f88))) (l88 : K.lookup f88 = some ⟨oc88, od88, .func (PySem.W.fnOf "_law_told" "_law_told" (defArgs s_law_told) (defBody s_law_told) (defScope s_law_told) .none kV88 dc88 pm88 an88 cd88 ct88), sl88⟩) (c88 : PySem.W.codeIn K cd88 "_law_told" = true) (k88 : PySem.W.keepIn K (.ref f88) = true)
    {f89 : Addr} {od89 an89 : Option Addr} {sl89 : Array (Option Value)} {oc89 kV89 dc89 pm89 cd89 ct89 : Value}
    (a89 : PySem.W.nsIn K mainGlobals "law" = some (some (.ref f89))) (l89 : K.lookup f89 = some ⟨oc89, od89, .func (PySem.W.fnOf "law" "law" (defArgs s_law) (defBody s_law) (defScope s_law) .none kV89 dc89 pm89 an89 cd89 ct89), sl89⟩) (c89 : PySem.W.codeIn K cd89 "law" = true) (k89 : PySem.W.keepIn K (.ref f89) = true)
    {tk_FEWEST : Tok} (g_FEWEST : PySem.W.nsIn K mainGlobals "FEWEST" = some (some (.int (2) tk_FEWEST)))
    {tk_MOST : Tok} (g_MOST : PySem.W.nsIn K mainGlobals "MOST" = some (some (.int (7) tk_MOST)))
    {tk_LEAST : Tok} (g_LEAST : PySem.W.nsIn K mainGlobals "LEAST" = some (some (.int (-1000000000) tk_LEAST)))
    {tk_GREATEST : Tok} (g_GREATEST : PySem.W.nsIn K mainGlobals "GREATEST" = some (some (.int (1000000000) tk_GREATEST)))
    (z_len : PySem.W.nsIn K mainGlobals "len" = some none)
    (z_min : PySem.W.nsIn K mainGlobals "min" = some none)
    (z_max : PySem.W.nsIn K mainGlobals "max" = some none)
    (z_enumerate : PySem.W.nsIn K mainGlobals "enumerate" = some none)
    (z_abs : PySem.W.nsIn K mainGlobals "abs" = some none)
    (z_isinstance : PySem.W.nsIn K mainGlobals "isinstance" = some none)
    (z_range : PySem.W.nsIn K mainGlobals "range" = some none)
    (z_list : PySem.W.nsIn K mainGlobals "list" = some none)
    {C_NoTable : Addr} (cG_NoTable : PySem.W.nsIn K mainGlobals "NoTable" = some (some (.ref C_NoTable)))
    {C_HeightError : Addr} (cG_HeightError : PySem.W.nsIn K mainGlobals "HeightError" = some (some (.ref C_HeightError)))
    {fI_NoTable : Addr} {odI_NoTable anI_NoTable : Option Addr} {slI_NoTable : Array (Option Value)} {ocI_NoTable kVI_NoTable dcI_NoTable pmI_NoTable cdI_NoTable ctI_NoTable : Value} (ii_NoTable : PySem.W.findIn K (.ref C_NoTable) "__init__" = some (some (.ref fI_NoTable)))
    (li_NoTable : K.lookup fI_NoTable = some ⟨ocI_NoTable, odI_NoTable, .func (PySem.W.fnOf "__init__" "NoTable.__init__" (defArgs si_NoTable) (defBody si_NoTable) (defScope si_NoTable) .none kVI_NoTable dcI_NoTable pmI_NoTable anI_NoTable cdI_NoTable ctI_NoTable), slI_NoTable⟩) (ci_NoTable : PySem.W.codeIn K cdI_NoTable "NoTable.__init__" = true) (ki_NoTable : PySem.W.keepIn K (.ref fI_NoTable) = true) (fi_NoTable : fieldCls K C_NoTable fI_NoTable C_HeightError "at" = true)
    (w_NoTable : excWays K C_NoTable = true)
    (eh : PySem.W.exmOne K (.ref C_NoTable) (.ref C_HeightError) = some true)
    (kt0 : PySem.W.kitOne K (.ref C_NoTable) (.ref C_NoTable) = some true) :
    ∃ fd : FuncData, (∀ (s : Shared) (v : Value), BindsTo s fd ⟨[v], []⟩ [("_law_script", v)]) ∧ ∀ base : Heap, K.In base → base.Ns mainGlobals mg → FnOk l.prog w K mg base CX0 9 fa fd ["_law_script"] (spLaw K) := by
  have F_ask_table : Def K mg "ask_table" s_ask_table ["rows"] := ⟨f9, _, fun_mk (st := s_ask_table) l9 c9 k9, (fun_mk (st := s_ask_table) l9 c9 k9).binds (ps := ["rows"]) fun _ _ _ _ _ _ us hl => match us, hl with | [_], _ => rfl, PySem.W.mg_of X G a9⟩
  have F_fits : Def K mg "fits" s_fits ["things"] := ⟨f10, _, fun_mk (st := s_fits) l10 c10 k10, (fun_mk (st := s_fits) l10 c10 k10).binds (ps := ["things"]) fun _ _ _ _ _ _ us hl => match us, hl with | [_], _ => rfl, PySem.W.mg_of X G a10⟩
  have F_is_row : Def K mg "is_row" s_is_row ["row"] := ⟨f11, _, fun_mk (st := s_is_row) l11 c11 k11, (fun_mk (st := s_is_row) l11 c11 k11).binds (ps := ["row"]) fun _ _ _ _ _ _ us hl => match us, hl with | [_], _ => rfl, PySem.W.mg_of X G a11⟩
  have F_turned : Def K mg "turned" s_turned ["rows"] := ⟨f12, _, fun_mk (st := s_turned) l12 c12 k12, (fun_mk (st := s_turned) l12 c12 k12).binds (ps := ["rows"]) fun _ _ _ _ _ _ us hl => match us, hl with | [_], _ => rfl, PySem.W.mg_of X G a12⟩
  have F_mirrored : Def K mg "mirrored" s_mirrored ["rows"] := ⟨f13, _, fun_mk (st := s_mirrored) l13 c13 k13, (fun_mk (st := s_mirrored) l13 c13 k13).binds (ps := ["rows"]) fun _ _ _ _ _ _ us hl => match us, hl with | [_], _ => rfl, PySem.W.mg_of X G a13⟩
  have F_raised : Def K mg "raised" s_raised ["rows", "by"] := ⟨f14, _, fun_mk (st := s_raised) l14 c14 k14, (fun_mk (st := s_raised) l14 c14 k14).binds (ps := ["rows", "by"]) fun _ _ _ _ _ _ us hl => match us, hl with | [_, _], _ => rfl, PySem.W.mg_of X G a14⟩
  have F_span : Def K mg "span" s_span ["rows"] := ⟨f15, _, fun_mk (st := s_span) l15 c15 k15, (fun_mk (st := s_span) l15 c15 k15).binds (ps := ["rows"]) fun _ _ _ _ _ _ us hl => match us, hl with | [_], _ => rfl, PySem.W.mg_of X G a15⟩
  have F_is_high : Def K mg "is_high" s_is_high ["rows", "cut", "x", "y"] := ⟨f19, _, fun_mk (st := s_is_high) l19 c19 k19, (fun_mk (st := s_is_high) l19 c19 k19).binds (ps := ["rows", "cut", "x", "y"]) fun _ _ _ _ _ _ us hl => match us, hl with | [_, _, _, _], _ => rfl, PySem.W.mg_of X G a19⟩
  have F_gates : Def K mg "gates" s_gates ["rows", "cut"] := ⟨f20, _, fun_mk (st := s_gates) l20 c20 k20, (fun_mk (st := s_gates) l20 c20 k20).binds (ps := ["rows", "cut"]) fun _ _ _ _ _ _ us hl => match us, hl with | [_, _], _ => rfl, PySem.W.mg_of X G a20⟩
  have F_ties : Def K mg "ties" s_ties ["rows", "cut", "x", "y"] := ⟨f21, _, fun_mk (st := s_ties) l21 c21 k21, (fun_mk (st := s_ties) l21 c21 k21).binds (ps := ["rows", "cut", "x", "y"]) fun _ _ _ _ _ _ us hl => match us, hl with | [_, _, _, _], _ => rfl, PySem.W.mg_of X G a21⟩
  have F_goes : Def K mg "goes" s_goes ["rows", "cut", "gate"] := ⟨f22, _, fun_mk (st := s_goes) l22 c22 k22, (fun_mk (st := s_goes) l22 c22 k22).binds (ps := ["rows", "cut", "gate"]) fun _ _ _ _ _ _ us hl => match us, hl with | [_, _, _], _ => rfl, PySem.W.mg_of X G a22⟩
  have F_place : Def K mg "place" s_place ["rows", "cut", "gate"] := ⟨f38, _, fun_mk (st := s_place) l38 c38 k38, (fun_mk (st := s_place) l38 c38 k38).binds (ps := ["rows", "cut", "gate"]) fun _ _ _ _ _ _ us hl => match us, hl with | [_, _, _], _ => rfl, PySem.W.mg_of X G a38⟩
  have F_lines : Def K mg "lines" s_lines ["rows", "cut"] := ⟨f41, _, fun_mk (st := s_lines) l41 c41 k41, (fun_mk (st := s_lines) l41 c41 k41).binds (ps := ["rows", "cut"]) fun _ _ _ _ _ _ us hl => match us, hl with | [_, _], _ => rfl, PySem.W.mg_of X G a41⟩
  have F_line_at : Def K mg "line_at" s_line_at ["rows", "cut", "gate"] := ⟨f43, _, fun_mk (st := s_line_at) l43 c43 k43, (fun_mk (st := s_line_at) l43 c43 k43).binds (ps := ["rows", "cut", "gate"]) fun _ _ _ _ _ _ us hl => match us, hl with | [_, _, _], _ => rfl, PySem.W.mg_of X G a43⟩
  have F_regions : Def K mg "regions" s_regions ["rows", "cut"] := ⟨f44, _, fun_mk (st := s_regions) l44 c44 k44, (fun_mk (st := s_regions) l44 c44 k44).binds (ps := ["rows", "cut"]) fun _ _ _ _ _ _ us hl => match us, hl with | [_, _], _ => rfl, PySem.W.mg_of X G a44⟩
  have F_region_of : Def K mg "region_of" s_region_of ["rows", "cut", "x", "y"] := ⟨f45, _, fun_mk (st := s_region_of) l45 c45 k45, (fun_mk (st := s_region_of) l45 c45 k45).binds (ps := ["rows", "cut", "x", "y"]) fun _ _ _ _ _ _ us hl => match us, hl with | [_, _, _, _], _ => rfl, PySem.W.mg_of X G a45⟩
  have F_sides : Def K mg "sides" s_sides ["rows", "cut"] := ⟨f46, _, fun_mk (st := s_sides) l46 c46 k46, (fun_mk (st := s_sides) l46 c46 k46).binds (ps := ["rows", "cut"]) fun _ _ _ _ _ _ us hl => match us, hl with | [_, _], _ => rfl, PySem.W.mg_of X G a46⟩
  have F_region_areas : Def K mg "region_areas" s_region_areas ["rows", "cut"] := ⟨f50, _, fun_mk (st := s_region_areas) l50 c50 k50, (fun_mk (st := s_region_areas) l50 c50 k50).binds (ps := ["rows", "cut"]) fun _ _ _ _ _ _ us hl => match us, hl with | [_, _], _ => rfl, PySem.W.mg_of X G a50⟩
  have F_ring_area : Def K mg "ring_area" s_ring_area ["rows", "cut", "line"] := ⟨f51, _, fun_mk (st := s_ring_area) l51 c51 k51, (fun_mk (st := s_ring_area) l51 c51 k51).binds (ps := ["rows", "cut", "line"]) fun _ _ _ _ _ _ us hl => match us, hl with | [_, _, _], _ => rfl, PySem.W.mg_of X G a51⟩
  have F_nodes_at : Def K mg "nodes_at" s_nodes_at ["rows", "height"] := ⟨f55, _, fun_mk (st := s_nodes_at) l55 c55 k55, (fun_mk (st := s_nodes_at) l55 c55 k55).binds (ps := ["rows", "height"]) fun _ _ _ _ _ _ us hl => match us, hl with | [_, _], _ => rfl, PySem.W.mg_of X G a55⟩
  have F_tree : Def K mg "tree" s_tree ["rows"] := ⟨f56, _, fun_mk (st := s_tree) l56 c56 k56, (fun_mk (st := s_tree) l56 c56 k56).binds (ps := ["rows"]) fun _ _ _ _ _ _ us hl => match us, hl with | [_], _ => rfl, PySem.W.mg_of X G a56⟩
  have F_first_wrong : Def K mg "first_wrong" s_first_wrong ["rows", "cut", "some"] := ⟨f66, _, fun_mk (st := s_first_wrong) l66 c66 k66, (fun_mk (st := s_first_wrong) l66 c66 k66).binds (ps := ["rows", "cut", "some"]) fun _ _ _ _ _ _ us hl => match us, hl with | [_, _, _], _ => rfl, PySem.W.mg_of X G a66⟩
  have F_peaks : Def K mg "peaks" s_peaks ["rows"] := ⟨f73, _, fun_mk (st := s_peaks) l73 c73 k73, (fun_mk (st := s_peaks) l73 c73 k73).binds (ps := ["rows"]) fun _ _ _ _ _ _ us hl => match us, hl with | [_], _ => rfl, PySem.W.mg_of X G a73⟩
  have F_lies_in : Def K mg "lies_in" s_lies_in ["rows", "cut"] := ⟨f77, _, fun_mk (st := s_lies_in) l77 c77 k77, (fun_mk (st := s_lies_in) l77 c77 k77).binds (ps := ["rows", "cut"]) fun _ _ _ _ _ _ us hl => match us, hl with | [_, _], _ => rfl, PySem.W.mg_of X G a77⟩
  have F_law_feed : Def K mg "_law_feed" s_law_feed ["_law_script", "_law_k"] := ⟨f79, _, fun_mk (st := s_law_feed) l79 c79 k79, (fun_mk (st := s_law_feed) l79 c79 k79).binds (ps := ["_law_script", "_law_k"]) fun _ _ _ _ _ _ us hl => match us, hl with | [_, _], _ => rfl, PySem.W.mg_of X G a79⟩
  have F_law_draw : Def K mg "_law_draw" s_law_draw ["_law_feed_here", "_law_many"] := ⟨f80, _, fun_mk (st := s_law_draw) l80 c80 k80, (fun_mk (st := s_law_draw) l80 c80 k80).binds (ps := ["_law_feed_here", "_law_many"]) fun _ _ _ _ _ _ us hl => match us, hl with | [_, _], _ => rfl, PySem.W.mg_of X G a80⟩
  have F_law_height : Def K mg "_law_height" s_law_height ["_law_feed_here", "_law_far", "_law_base"] := ⟨f81, _, fun_mk (st := s_law_height) l81 c81 k81, (fun_mk (st := s_law_height) l81 c81 k81).binds (ps := ["_law_feed_here", "_law_far", "_law_base"]) fun _ _ _ _ _ _ us hl => match us, hl with | [_, _, _], _ => rfl, PySem.W.mg_of X G a81⟩
  have F_law_table : Def K mg "_law_table" s_law_table ["_law_feed_here"] := ⟨f82, _, fun_mk (st := s_law_table) l82 c82 k82, (fun_mk (st := s_law_table) l82 c82 k82).binds (ps := ["_law_feed_here"]) fun _ _ _ _ _ _ us hl => match us, hl with | [_], _ => rfl, PySem.W.mg_of X G a82⟩
  have F_law_spoiled : Def K mg "_law_spoiled" s_law_spoiled ["_law_feed_here", "_law_rows"] := ⟨f84, _, fun_mk (st := s_law_spoiled) l84 c84 k84, (fun_mk (st := s_law_spoiled) l84 c84 k84).binds (ps := ["_law_feed_here", "_law_rows"]) fun _ _ _ _ _ _ us hl => match us, hl with | [_, _], _ => rfl, PySem.W.mg_of X G a84⟩
  have F_law_due : Def K mg "_law_due" s_law_due ["_law_rows"] := ⟨f85, _, fun_mk (st := s_law_due) l85 c85 k85, (fun_mk (st := s_law_due) l85 c85 k85).binds (ps := ["_law_rows"]) fun _ _ _ _ _ _ us hl => match us, hl with | [_], _ => rfl, PySem.W.mg_of X G a85⟩
  have F_law_some : Def K mg "_law_some" s_law_some ["_law_rows", "_law_way"] := ⟨f86, _, fun_mk (st := s_law_some) l86 c86 k86, (fun_mk (st := s_law_some) l86 c86 k86).binds (ps := ["_law_rows", "_law_way"]) fun _ _ _ _ _ _ us hl => match us, hl with | [_, _], _ => rfl, PySem.W.mg_of X G a86⟩
  have F_law_other : Def K mg "_law_other" s_law_other ["_law_rows", "_law_way"] := ⟨f87, _, fun_mk (st := s_law_other) l87 c87 k87, (fun_mk (st := s_law_other) l87 c87 k87).binds (ps := ["_law_rows", "_law_way"]) fun _ _ _ _ _ _ us hl => match us, hl with | [_, _], _ => rfl, PySem.W.mg_of X G a87⟩
  have F_law_told : Def K mg "_law_told" s_law_told ["_law_rows", "_law_lot", "_law_way"] := ⟨f88, _, fun_mk (st := s_law_told) l88 c88 k88, (fun_mk (st := s_law_told) l88 c88 k88).binds (ps := ["_law_rows", "_law_lot", "_law_way"]) fun _ _ _ _ _ _ us hl => match us, hl with | [_, _, _], _ => rfl, PySem.W.mg_of X G a88⟩
  have F_law : Def K mg "law" s_law ["_law_script"] := ⟨f89, _, fun_mk (st := s_law) l89 c89 k89, (fun_mk (st := s_law) l89 c89 k89).binds (ps := ["_law_script"]) fun _ _ _ _ _ _ us hl => match us, hl with | [_], _ => rfl, PySem.W.mg_of X G a89⟩
  have m_FEWEST := PySem.W.mg_of X G g_FEWEST
  have m_MOST := PySem.W.mg_of X G g_MOST
  have m_LEAST := PySem.W.mg_of X G g_LEAST
  have m_GREATEST := PySem.W.mg_of X G g_GREATEST
  have m_len := PySem.W.mg_none_of X G z_len
  have m_min := PySem.W.mg_none_of X G z_min
  have m_max := PySem.W.mg_none_of X G z_max
  have m_enumerate := PySem.W.mg_none_of X G z_enumerate
  have m_abs := PySem.W.mg_none_of X G z_abs
  have m_isinstance := PySem.W.mg_none_of X G z_isinstance
  have m_range := PySem.W.mg_none_of X G z_range
  have m_list := PySem.W.mg_none_of X G z_list
  have m_NoTable := PySem.W.mg_of X G cG_NoTable
  have m_HeightError := PySem.W.mg_of X G cG_HeightError
  have e := hfa.symm.trans (PySem.W.mg_of X G a89)
  cases e
  have F0 := fun_mk (st := s_law) l89 c89 k89
  refine ⟨PySem.W.fnOf "law" "law" (defArgs s_law) (defBody s_law) (defScope s_law) .none kV89 dc89 pm89 an89 cd89 ct89, fun s v => .of_eq rfl, fun base _ _ => ?_⟩
  have I_NoTable := ok_init_NoTable (P := l.prog) (w := w) (base := base) fi_NoTable m_HeightError (fun_mk (st := si_NoTable) li_NoTable ci_NoTable ki_NoTable)
  have H0 := ok_feed (P := l.prog) (w := w) (base := base) (k := 0) F_law_feed m_len m_abs
  have H1 := ok_draw (P := l.prog) (w := w) (base := base) (k := 0) F_law_draw
  have H2 := ok_due (P := l.prog) (w := w) (base := base) (k := 0) F_law_due m_len m_range m_max m_min
  have H3 := ok_fits (P := l.prog) (w := w) (base := base) (k := 0) F_fits m_len ⟨_, m_FEWEST⟩ ⟨_, m_MOST⟩
  have H4 := ok_height (P := l.prog) (w := w) (base := base) (k := 1) F_law_height m_min (H1.mono (by decide))
  have H5 := ok_spoil (P := l.prog) (w := w) (base := base) (k := 1) F_law_spoiled m_len m_range m_list (H1.mono (by decide))
  have H6 := ok_is_row (P := l.prog) (w := w) (base := base) (k := 1) F_is_row m_min m_max ⟨_, m_LEAST⟩ ⟨_, m_GREATEST⟩ (H3.mono (by decide))
  have H7 := ok_table (P := l.prog) (w := w) (base := base) (k := 2) F_law_table m_range (H1.mono (by decide)) (H4.mono (by decide))
  have H8 := ok_askF (P := l.prog) (w := w) (base := base) (k := 2) F_ask_table m_len m_enumerate m_NoTable I_NoTable (H3.mono (by decide)) (H6.mono (by decide))
  have H9 := ok_turned (P := l.prog) (w := w) (base := base) (k := 5) F_turned (H8.mono (by decide))
  have H10 := ok_mirrored (P := l.prog) (w := w) (base := base) (k := 5) F_mirrored (H8.mono (by decide))
  have H11 := ok_span (P := l.prog) (w := w) (base := base) (k := 5) F_span (H8.mono (by decide))
  have H12 := ok_tree (P := l.prog) (w := w) (base := base) (k := 5) F_tree (H8.mono (by decide))
  have H13 := ok_peaks (P := l.prog) (w := w) (base := base) (k := 5) F_peaks (H8.mono (by decide))
  have H14 := ok_gates (P := l.prog) (w := w) (base := base) (k := 5) F_gates (H8.mono (by decide))
  have H15 := ok_lines (P := l.prog) (w := w) (base := base) (k := 5) F_lines (H8.mono (by decide))
  have H16 := ok_regions (P := l.prog) (w := w) (base := base) (k := 5) F_regions (H8.mono (by decide))
  have H17 := ok_sides (P := l.prog) (w := w) (base := base) (k := 5) F_sides (H8.mono (by decide))
  have H18 := ok_lies_in (P := l.prog) (w := w) (base := base) (k := 5) F_lies_in (H8.mono (by decide))
  have H19 := ok_region_areas (P := l.prog) (w := w) (base := base) (k := 5) F_region_areas (H8.mono (by decide))
  have H20 := ok_nodes_at (P := l.prog) (w := w) (base := base) (k := 5) F_nodes_at (H8.mono (by decide))
  have H21 := ok_goes (P := l.prog) (w := w) (base := base) (k := 5) F_goes (H8.mono (by decide))
  have H22 := ok_line_at (P := l.prog) (w := w) (base := base) (k := 5) F_line_at (H8.mono (by decide))
  have H23 := ok_place (P := l.prog) (w := w) (base := base) (k := 5) F_place (H8.mono (by decide))
  have H24 := ok_is_high (P := l.prog) (w := w) (base := base) (k := 5) F_is_high (H8.mono (by decide))
  have H25 := ok_ties (P := l.prog) (w := w) (base := base) (k := 5) F_ties (H8.mono (by decide))
  have H26 := ok_region_of (P := l.prog) (w := w) (base := base) (k := 5) F_region_of (H8.mono (by decide))
  have H27 := ok_first_wrong (P := l.prog) (w := w) (base := base) (k := 5) F_first_wrong (H8.mono (by decide))
  have H28 := ok_ring_area (P := l.prog) (w := w) (base := base) (k := 5) F_ring_area (H8.mono (by decide))
  have H29 := ok_raised (P := l.prog) (w := w) (base := base) (k := 5) F_raised (H8.mono (by decide))
  have H30 := ok_some (P := l.prog) (w := w) (base := base) (k := 6) F_law_some (H8.mono (by decide)) (H9.mono (by decide)) (H10.mono (by decide)) (H11.mono (by decide)) (H12.mono (by decide)) (H13.mono (by decide))
  have H31 := ok_other (P := l.prog) (w := w) (base := base) (k := 6) F_law_other (H14.mono (by decide)) (H15.mono (by decide)) (H16.mono (by decide)) (H17.mono (by decide)) (H18.mono (by decide)) (H19.mono (by decide)) (H20.mono (by decide)) (H21.mono (by decide)) (H22.mono (by decide)) (H23.mono (by decide)) (H24.mono (by decide)) (H25.mono (by decide)) (H26.mono (by decide)) (H27.mono (by decide)) (H28.mono (by decide)) (H29.mono (by decide))
  have H32 := ok_told (P := l.prog) (w := w) (base := base) (k := 7) F_law_told m_isinstance m_HeightError m_NoTable I_NoTable w_NoTable eh kt0 (H30.mono (by decide)) (H31.mono (by decide))
  exact ok_law (P := l.prog) (w := w) (base := base) (k := 8) F0 m_len m_range m_max m_min m_list (H0.mono (by decide)) (H7.mono (by decide)) (H5.mono (by decide)) (H2.mono (by decide)) (H32.mono (by decide))
theorem walk {l : PySem.W.OpenLaw} {q : Program} {loose : List Str} {XP : (Str → Option Value) → Heap → Prop} {YP : World → Heap → Prop} {d : DefRec} {K : Params → PySem.W.Frag} (hn : l.most = some 63) (hdf : d.params.defaults = [])
    (hY : ∀ (w : World) (h : Heap), YP w h → (K w.params).In h)
    (F : ∀ (w : World) (mg : Str → Option Value) (fa : Addr) (h : Heap), (K w.params).In h → h.Ns mainGlobals mg → mg d.name = some (.ref fa) →
      ∃ fd : FuncData, (∀ (s : Shared) (u : Value), BindsTo s fd ⟨[u], []⟩ [("_law_script", u)]) ∧ ∀ base : Heap, (K w.params).In base → base.Ns mainGlobals mg → FnOk l.prog w (K w.params) mg base CX0 9 fa fd ["_law_script"] (spLaw (K w.params))) :
    PySem.W.WalkO q loose XP YP l.row.toRowW d [] (fun f vs => PySem.call f vs) :=
  L2.walk_of (n := 63) (k := 9) (x := "_law_script") (CX := fun _ => CX0) (sp := fun w => spLaw (K w.params)) hn (by decide) hdf ⟨rfl, by decide, by decide⟩ hY F (fun _ _ a ns hl _ hS => ⟨a, ns, rfl, hS, hl, fun _ => rfl⟩) fun _ _ _ _ _ z => z
end My
def PySem.W.Fast.tw7663107268923243709 : Nat := 0
def PySem.W.Fast.tw7988869072981231468 : Nat := 0
def PySem.W.Fast.tw15219568614675030017 : Nat := 0
def PySem.W.Fast.tw13894341927501963376 : Nat := 0
def PySem.W.Fast.tw117882854359446179 : Nat := 0
def PySem.W.Fast.tw2353131285876803843 : Nat := 0
def PySem.W.Fast.tw6506690483808647427 : Nat := 0
def PySem.W.Fast.tw13129078662934742537 : Nat := 0
def PySem.W.Fast.tw6242834566205925200 : Nat := 0
def PySem.W.Fast.tw8931742796798722901 : Nat := 0
def PySem.W.Fast.tw5920797338796827400 : Nat := 0
def PySem.W.Fast.tw4700260151688988217 : Nat := 0
def PySem.W.Fast.tw5549407262222552325 : Nat := 0
def PySem.W.Fast.tw6355672113808918804 : Nat := 0
def PySem.W.Fast.tw6344076898249149918 : Nat := 0
def PySem.W.Fast.tw15792733118056781301 : Nat := 0
def PySem.W.Fast.tw1021170632977079236 : Nat := 0
def PySem.W.Fast.tw3327356656870064814 : Nat := 0
def PySem.W.Fast.tw3516160411740984841 : Nat := 0
def PySem.W.Fast.tw10286906491184144213 : Nat := 0
def PySem.W.Fast.tw8937413991553218795 : Nat := 0
def PySem.W.Fast.tw11479617496730397671 : Nat := 0
def PySem.W.Fast.tw8783580227713038187 : Nat := 0
def PySem.W.Fast.tw12734060791891530251 : Nat := 0
def PySem.W.Fast.tw17531681028120738864 : Nat := 0
def PySem.W.Fast.tw5586317313028657979 : Nat := 0
def PySem.W.Fast.tw9237671370142867468 : Nat := 0
def PySem.W.Fast.tw13175047866264876457 : Nat := 0
def PySem.W.Fast.tw664001443095577424 : Nat := 0
def PySem.W.Fast.tw3743180876714311722 : Nat := 0
def PySem.W.Fast.tw8011268322203689561 : Nat := 0
def PySem.W.Fast.tw15503112186242435014 : Nat := 0
def PySem.W.Fast.tw116160873596533034 : Nat := 0
def PySem.W.Fast.tw12231372180995596381 : Nat := 0
def PySem.W.Fast.tw13521211519432794642 : Nat := 0
def PySem.W.Fast.tw7532988276738766773 : Nat := 0
def PySem.W.Fast.tw171659724449440139 : Nat := 0
def PySem.W.Fast.tw5627756638307795078 : Nat := 0
def PySem.W.Fast.tw10094467369235648462 : Nat := 0
def PySem.W.Fast.tw14152546028178278087 : Nat := 0
def PySem.W.Fast.tw12924520057818076207 : Nat := 0
def PySem.W.Fast.tw6772005744356753324 : Nat := 0
def PySem.W.Fast.tw419901011025970202 : Nat := 0
def PySem.W.Fast.tw14471872730162662847 : Nat := 0
def PySem.W.Fast.tw18238245016035257474 : Nat := 0
def PySem.W.Fast.tw14605379970318657438 : Nat := 0
def PySem.W.Fast.tw8922001744415832123 : Nat := 0
def PySem.W.Fast.tw4292415339984257081 : Nat := 0
def PySem.W.Fast.tw12275777963979332418 : Nat := 0
def PySem.W.Fast.tw16475143827781682892 : Nat := 0
def PySem.W.Fast.tw18095657228918758374 : Nat := 0
def PySem.W.Fast.tw16997890124009181401 : Nat := 0
def PySem.W.Fast.tw2296240371331376032 : Nat := 0
def PySem.W.Fast.tw4465762357158499325 : Nat := 0
def PySem.W.Fast.tw18156575029327415706 : Nat := 0
def PySem.W.Fast.tw12480692121300261324 : Nat := 0
def PySem.W.Fast.tw2474658965034821381 : Nat := 0
def PySem.W.Fast.tw4950003956826973414 : Nat := 0
def PySem.W.Fast.tw507789367879123865 : Nat := 0
def PySem.W.Fast.tw935930211426042768 : Nat := 0
def PySem.W.Fast.tw1931502728468474731 : Nat := 0
def PySem.W.Fast.tw11738984464476812413 : Nat := 0
def PySem.W.Fast.tw12237709337881173542 : Nat := 0
def PySem.W.Fast.tw8826895834146054173 : Nat := 0
def PySem.W.Fast.tw12511976098751251279 : Nat := 0
def PySem.W.Fast.tw8517596163447725563 : Nat := 0
def PySem.W.Fast.tw16131081511920816590 : Nat := 0
def PySem.W.Fast.tw14358033951179978365 : Nat := 0
def PySem.W.Fast.tw8066212200630701773 : Nat := 0
def PySem.W.Fast.tw11952106747730602214 : Nat := 0
def PySem.W.Fast.tw12427106916375609300 : Nat := 0
def PySem.W.Fast.tw17923866408395920339 : Nat := 0
def PySem.W.Fast.tw1613655587162962387 : Nat := 0
def PySem.W.Fast.tw15404715676890046904 : Nat := 0
def PySem.W.Fast.tw13551015146856766394 : Nat := 0
def PySem.W.Fast.tw11469935319098156646 : Nat := 0
open PySem PySem.W PyProof.Rows
set_option maxRecDepth 100000 in
set_option maxHeartbeats 0 in
theorem PySem.Challenge.cw_heightrings_k48_bad_tables_everywhere_holds : PySem.Challenge.rw_heightrings_k48_bad_tables_everywhere.Holds := by
  w_on; o_law; k_head; (case hw => w_witness2)
  k_fill
  refine My.walk (l := PySem.Challenge.rw_heightrings_k48_bad_tables_everywhere) rfl rfl (fun w h Y => by first | exact PySem.W.kIn_of Y | exact PySem.W.km_in_of Y) ?F
  case F =>
    intro w mg fa h KX G hmg
    refine' My.all_mk KX G hmg ?a9 ?l9 ?c9 ?k9 ?a10 ?l10 ?c10 ?k10 ?a11 ?l11 ?c11 ?k11 ?a12 ?l12 ?c12 ?k12 ?a13 ?l13 ?c13 ?k13 ?a14 ?l14 ?c14 ?k14 ?a15 ?l15 ?c15 ?k15 ?a19 ?l19 ?c19 ?k19 ?a20 ?l20 ?c20 ?k20 ?a21 ?l21 ?c21 ?k21 ?a22 ?l22 ?c22 ?k22 ?a38 ?l38 ?c38 ?k38 ?a41 ?l41 ?c41 ?k41 ?a43 ?l43 ?c43 ?k43 ?a44 ?l44 ?c44 ?k44 ?a45 ?l45 ?c45 ?k45 ?a46 ?l46 ?c46 ?k46 ?a50 ?l50 ?c50 ?k50 ?a51 ?l51 ?c51 ?k51 ?a55 ?l55 ?c55 ?k55 ?a56 ?l56 ?c56 ?k56 ?a66 ?l66 ?c66 ?k66 ?a73 ?l73 ?c73 ?k73 ?a77 ?l77 ?c77 ?k77 ?a79 ?l79 ?c79 ?k79 ?a80 ?l80 ?c80 ?k80 ?a81 ?l81 ?c81 ?k81 ?a82 ?l82 ?c82 ?k82 ?a84 ?l84 ?c84 ?k84 ?a85 ?l85 ?c85 ?k85 ?a86 ?l86 ?c86 ?k86 ?a87 ?l87 ?c87 ?k87 ?a88 ?l88 ?c88 ?k88 ?a89 ?l89 ?c89 ?k89 ?g_FEWEST ?g_MOST ?g_LEAST ?g_GREATEST ?z_len ?z_min ?z_max ?z_enumerate ?z_abs ?z_isinstance ?z_range ?z_list ?cG_NoTable ?cG_HeightError ?ii_NoTable ?li_NoTable ?ci_NoTable ?ki_NoTable ?fi_NoTable ?w_NoTable ?eh ?kt0
    (case a9 => k_is)
    (case l9 => k_is)
    (case c9 => k_is)
    (case k9 => k_is)
    (case a10 => k_is)
    (case l10 => k_is)
    (case c10 => k_is)
    (case k10 => k_is)
    (case a11 => k_is)
    (case l11 => k_is)
    (case c11 => k_is)
    (case k11 => k_is)
    (case a12 => k_is)
    (case l12 => k_is)
    (case c12 => k_is)
    (case k12 => k_is)
    (case a13 => k_is)
    (case l13 => k_is)
    (case c13 => k_is)
    (case k13 => k_is)
    (case a14 => k_is)
    (case l14 => k_is)
    (case c14 => k_is)
    (case k14 => k_is)
    (case a15 => k_is)
    (case l15 => k_is)
    (case c15 => k_is)
    (case k15 => k_is)
    (case a19 => k_is)
    (case l19 => k_is)
    (case c19 => k_is)
    (case k19 => k_is)
    (case a20 => k_is)
    (case l20 => k_is)
    (case c20 => k_is)
    (case k20 => k_is)
    (case a21 => k_is)
    (case l21 => k_is)
    (case c21 => k_is)
    (case k21 => k_is)
    (case a22 => k_is)
    (case l22 => k_is)
    (case c22 => k_is)
    (case k22 => k_is)
    (case a38 => k_is)
    (case l38 => k_is)
    (case c38 => k_is)
    (case k38 => k_is)
    (case a41 => k_is)
    (case l41 => k_is)
    (case c41 => k_is)
    (case k41 => k_is)
    (case a43 => k_is)
    (case l43 => k_is)
    (case c43 => k_is)
    (case k43 => k_is)
    (case a44 => k_is)
    (case l44 => k_is)
    (case c44 => k_is)
    (case k44 => k_is)
    (case a45 => k_is)
    (case l45 => k_is)
    (case c45 => k_is)
    (case k45 => k_is)
    (case a46 => k_is)
    (case l46 => k_is)
    (case c46 => k_is)
    (case k46 => k_is)
    (case a50 => k_is)
    (case l50 => k_is)
    (case c50 => k_is)
    (case k50 => k_is)
    (case a51 => k_is)
    (case l51 => k_is)
    (case c51 => k_is)
    (case k51 => k_is)
    (case a55 => k_is)
    (case l55 => k_is)
    (case c55 => k_is)
    (case k55 => k_is)
    (case a56 => k_is)
    (case l56 => k_is)
    (case c56 => k_is)
    (case k56 => k_is)
    (case a66 => k_is)
    (case l66 => k_is)
    (case c66 => k_is)
    (case k66 => k_is)
    (case a73 => k_is)
    (case l73 => k_is)
    (case c73 => k_is)
    (case k73 => k_is)
    (case a77 => k_is)
    (case l77 => k_is)
    (case c77 => k_is)
    (case k77 => k_is)
    (case a79 => k_is)
    (case l79 => k_is)
    (case c79 => k_is)
    (case k79 => k_is)
    (case a80 => k_is)
    (case l80 => k_is)
    (case c80 => k_is)
    (case k80 => k_is)
    (case a81 => k_is)
    (case l81 => k_is)
    (case c81 => k_is)
    (case k81 => k_is)
    (case a82 => k_is)
    (case l82 => k_is)
    (case c82 => k_is)
    (case k82 => k_is)
    (case a84 => k_is)
    (case l84 => k_is)
    (case c84 => k_is)
    (case k84 => k_is)
    (case a85 => k_is)
    (case l85 => k_is)
    (case c85 => k_is)
    (case k85 => k_is)
    (case a86 => k_is)
    (case l86 => k_is)
    (case c86 => k_is)
    (case k86 => k_is)
    (case a87 => k_is)
    (case l87 => k_is)
    (case c87 => k_is)
    (case k87 => k_is)
    (case a88 => k_is)
    (case l88 => k_is)
    (case c88 => k_is)
    (case k88 => k_is)
    (case a89 => k_is)
    (case l89 => k_is)
    (case c89 => k_is)
    (case k89 => k_is)
    (case g_FEWEST => k_is)
    (case g_MOST => k_is)
    (case g_LEAST => k_is)
    (case g_GREATEST => k_is)
    (case z_len => k_is)
    (case z_min => k_is)
    (case z_max => k_is)
    (case z_enumerate => k_is)
    (case z_abs => k_is)
    (case z_isinstance => k_is)
    (case z_range => k_is)
    (case z_list => k_is)
    (case cG_NoTable => k_is)
    (case cG_HeightError => k_is)
    (case ii_NoTable => k_is)
    (case li_NoTable => k_is)
    (case ci_NoTable => k_is)
    (case ki_NoTable => k_is)
    (case fi_NoTable => kernel_rfl)
    (case w_NoTable => kernel_rfl)
    (case eh => kernel_rfl)
    (case kt0 => kernel_rfl)
end
