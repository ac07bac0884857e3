import PyProof.Rows.All
import Wide.All
import OpenK.AllK
import Wide.FinOn
import Lean
import PyProof.EqAt
import PyProof.EqKinds
import PyProof.TupleCall
import KE.KTryMore
import PyProof.ExcArgs
import PyProof.ConsumeWalk
import PyProof.P3Eq
import KE.KRevIter
import PyProof.ListRange
import PyProof.Rows.SumAny
import PySem.Challenge.RW_heightrings_k50_meetings
section
set_option Elab.async false
set_option linter.all false
set_option maxRecDepth 100000
/-! THE HAND LAYER, for ints, bools, texts, own classes, LISTS and tuples (index, slices, in, append, pop ..), calls, loops. Paste it whole ahead of your own text; what your proof does not reach may be deleted. -/
namespace L2
open PySem PySem.Spec PyProof.Rows

/-- a key: an int or a str -/
abbrev Key := Sum Int Str
def keyIs : Key → Value → Bool
  | .inl k, v => Value.isInt k v
  | .inr x, v => Value.isStrOf x v
def keyH (w : World) : Key → Int
  | .inl k => hashInt k
  | .inr x => hashStr w x
theorem keyIs_shape : ∀ {k : Key} {v : Value}, keyIs k v = true → (∃ i t, k = Sum.inl i ∧ v = Value.int i t) ∨ (∃ x t, k = Sum.inr x ∧ v = Value.str x t)
  | .inl i, v, h => by
    obtain ⟨t, e⟩ := Value.isInt_shape (k := i) (v := v) h
    exact .inl ⟨i, t, rfl, e⟩
  | .inr x, v, h => by
    obtain ⟨t, e⟩ := Value.isStrOf_shape (x := x) (v := v) h
    exact .inr ⟨x, t, rfl, e⟩
theorem keyIs_int (i : Int) (t : Tok) : keyIs (.inl i) (.int i t) = true := by simp [keyIs, Value.isInt]
theorem keyIs_str (x : Str) (t : Tok) : keyIs (.inr x) (.str x t) = true := by simp [keyIs, Value.isStrOf]
theorem key_ll (a b : Int) : decide ((Sum.inl a : Key) = Sum.inl b) = (a == b) := by
  by_cases e : a = b
  · subst e; simp
  · have h : ¬ (Sum.inl a : Key) = Sum.inl b := fun q => e (Sum.inl.inj q)
    rw [decide_eq_false h]
    exact (beq_eq_false_iff_ne.mpr e).symm
theorem key_rr (a b : Str) : decide ((Sum.inr a : Key) = Sum.inr b) = decide (a = b) := by
  by_cases e : a = b
  · subst e; simp
  · have h : ¬ (Sum.inr a : Key) = Sum.inr b := fun q => e (Sum.inr.inj q)
    rw [decide_eq_false h, decide_eq_false e]
theorem key_lr (a : Int) (b : Str) : decide ((Sum.inl a : Key) = Sum.inr b) = false := decide_eq_false (fun q => nomatch q)
theorem key_rl (a : Str) (b : Int) : decide ((Sum.inr a : Key) = Sum.inl b) = false := decide_eq_false (fun q => nomatch q)

def mixKind (prog : Program) (w : World) : PySem.KeyKind prog w Key where
  is := keyIs
  hash := keyH w
  inj := fun v a b ha hb => by
    rcases keyIs_shape ha with ⟨i, t, rfl, rfl⟩ | ⟨x, t, rfl, rfl⟩
    · rcases keyIs_shape hb with ⟨j, u, rfl, e⟩ | ⟨y, u, rfl, e⟩
      · injection e with e1 _; rw [e1]
      · exact nomatch e
    · rcases keyIs_shape hb with ⟨j, u, rfl, e⟩ | ⟨y, u, rfl, e⟩
      · exact nomatch e
      · injection e with e1 _; rw [e1]
  byValue := fun k v h => by
    rcases keyIs_shape h with ⟨i, t, rfl, rfl⟩ | ⟨x, t, rfl, rfl⟩ <;> rfl
  pyHash := fun hv h => by
    rcases keyIs_shape hv with ⟨i, t, rfl, rfl⟩ | ⟨x, t, rfl, rfl⟩
    · exact wpAny_pyHash_int h
    · exact wpAny_pyHash_str h
  eqBool := fun hu hv h => by
    rcases keyIs_shape hu with ⟨i, t, rfl, rfl⟩ | ⟨x, t, rfl, rfl⟩
    · rcases keyIs_shape hv with ⟨j, u, rfl, rfl⟩ | ⟨y, u, rfl, rfl⟩
      · rw [key_ll] at h; exact wpAny_eqBool_int h
      · rw [key_lr] at h; exact SeqAt.EqAt.int_str i t y u _ _ _ _ h
    · rcases keyIs_shape hv with ⟨j, u, rfl, rfl⟩ | ⟨y, u, rfl, rfl⟩
      · rw [key_rl] at h; exact SeqAt.EqAt.str_int x t j u _ _ _ _ h
      · rw [key_rr] at h; exact wpAny_eqBool_str h
  «strs» := fun k x t v h => by
    rcases keyIs_shape h with ⟨i, u, rfl, e⟩ | ⟨y, u, rfl, e⟩
    · exact nomatch e
    · injection e with e1 _
      subst e1
      cases v <;> rfl

theorem mixKind_is (prog : Program) (w : World) (k : Key) (v : Value) : (mixKind prog w).is k v = keyIs k v := rfl
theorem mixKind_int (prog : Program) (w : World) (i : Int) (t : Tok) : (mixKind prog w).is (.inl i) (.int i t) = true := keyIs_int i t
theorem mixKind_str (prog : Program) (w : World) (x : Str) (t : Tok) : (mixKind prog w).is (.inr x) (.str x t) = true := keyIs_str x t
end L2

namespace L2
open PySem PySem.Spec PyProof.Rows

/-- a value, without the heap -/
inductive V where
  | non | bl (b : Bool) | int (i : Int) | str (x : Str) | byt (b : Array UInt8) | flt (b : UInt64) | ref (a : Addr) | ty (n : String)
  deriving DecidableEq

def RelV : V → Value → Prop
  | .non, u => u = Value.none
  | .bl b, u => u = Value.bool b
  | .int i, u => ∃ t, u = Value.int i t
  | .str x, u => ∃ t, u = Value.str x t
  | .byt b, u => ∃ t, u = Value.bytes b t
  | .flt b, u => ∃ t, u = Value.float b t
  | .ref a, u => u = Value.ref a
  | .ty n, u => u = Value.type n

abbrev Vals : List V → List Value → Prop := Paired RelV
theorem Vals.length {xs : List V} {us : List Value} (r : Vals xs us) : xs.length = us.length := Paired.length r
theorem Vals.get : ∀ {xs : List V} {us : List Value} {i : Nat} {x : V}, Vals xs us → xs[i]? = some x → ∃ u, us[i]? = some u ∧ RelV x u
  | _, _, _, _, .nil, e => by simp at e
  | _, _, 0, _, .cons r _, e => by simp at e; subst e; exact ⟨_, rfl, r⟩
  | _, _, i + 1, x, .cons _ t, e => by
    obtain ⟨u, h1, h2⟩ := Vals.get (i := i) (x := x) t (by simpa using e)
    exact ⟨u, by simpa using h1, h2⟩
theorem Vals.set {x : V} {u : Value} (r : RelV x u) : ∀ {xs : List V} {us : List Value} (i : Nat), Vals xs us → Vals (xs.set i x) (us.set i u)
  | _, _, _, .nil => .nil
  | _, _, 0, .cons _ t => .cons r t
  | _, _, i + 1, .cons q t => .cons q (Vals.set r i t)
theorem Vals.append : ∀ {xs ys : List V} {us ws : List Value}, Vals xs us → Vals ys ws → Vals (xs ++ ys) (us ++ ws)
  | _, _, _, _, .nil, s => s
  | _, _, _, _, .cons r t, s => .cons r (Vals.append t s)
theorem Vals.take : ∀ {xs : List V} {us : List Value} (n : Nat), Vals xs us → Vals (xs.take n) (us.take n)
  | _, _, 0, _ => .nil
  | _, _, _ + 1, .nil => .nil
  | _, _, n + 1, .cons r t => .cons r (Vals.take n t)
theorem Vals.drop : ∀ {xs : List V} {us : List Value} (n : Nat), Vals xs us → Vals (xs.drop n) (us.drop n)
  | _, _, 0, r => r
  | _, _, _ + 1, .nil => .nil
  | _, _, n + 1, .cons _ t => Vals.drop n t
theorem Vals.none_of : ∀ {xs : List V} {us : List Value} {i : Nat}, Vals xs us → xs[i]? = none → us[i]? = none := fun {xs us i} r e => by
  have h1 := r.length
  have h2 : xs.length ≤ i := List.getElem?_eq_none_iff.mp e
  exact List.getElem?_eq_none_iff.mpr (by omega)

def RelO : Option V → Option Value → Prop
  | some v, some u => RelV v u
  | none, none => True
  | _, _ => False
def KV {κ : Type} : List (κ × V) → List (κ × Value) → Prop := Paired fun (p : κ × V) (q : κ × Value) => p.1 = q.1 ∧ RelV p.2 q.2

/-- a key of a dict (00_mix): an int or a text -/
def kV : Key → V
  | .inl i => .int i
  | .inr x => .str x

/-- what stands at a tracked address -/
inductive HO where
  /-- a list -/
  | lst (xs : List V)
  /-- a tuple (never changes) -/
  | tup (xs : List V)
  /-- a dict whose keys are ints and texts; one whose keys are tuples of ints and texts (the empty one is both) -/
  | dK (kvs : List (Key × V)) | dT (kvs : List (List Key × V))
  /-- a set of ints: its members, its size -/
  | set (S : Int → Bool) (n : Nat)
  /-- an instance of the class at C, its dict at dx, its attributes -/
  | ins (C dx : Addr) (fs : List (Str × V))
  /-- the dict of the instance at x -/
  | own (x : Addr)
  /-- the dict of an exception -/
  | xd (fs : List (Str × V))
  /-- a bound method, f of x -/
  | met (f x : Addr)
  /-- a range object lo, lo + 1, .. below hi -/
  | rng (lo hi : Int)
  /-- a thing that is known to the object (the script; a dict while a loop walks it): read, never written while it is so -/
  | frz (o : Obj) (u : HO)
  /-- a code object's table -/
  | tbl (ps : Array Value)
  /-- any other thing, by what is true of its one object (a def of one's own: SetO a S n := HO.ext fun h => ..) -/
  | ext (φ : Heap → Prop)

abbrev Hp := Addr → Option HO
def upd (H : Hp) (a : Addr) (o : HO) : Hp := fun b => if b = a then some o else H b
theorem upd_same {H : Hp} {a : Addr} {o : HO} : upd H a o a = some o := by unfold upd; rw [if_pos rfl]
theorem upd_ne {H : Hp} {a b : Addr} {o : HO} (h : b ≠ a) : upd H a o b = H b := by unfold upd; rw [if_neg h]
theorem upd_upd {H : Hp} {a : Addr} {o u : HO} : upd (upd H a o) a u = upd H a u := by
  funext b; unfold upd; split <;> rfl
/-- two objects of different content stand apart -/
theorem ne_of {H : Hp} {a b : Addr} {o u : HO} (h : H a = some o) (h' : H b = some u) (d : o ≠ u) : a ≠ b := by
  intro e; subst e; rw [h] at h'; exact d (Option.some.inj h')
theorem ne_of_none {H : Hp} {a b : Addr} {o : HO} (h : H a = some o) (h' : H b = none) : a ≠ b := by
  intro e; subst e; rw [h] at h'; cases h'

section
variable (P : Program) (w : World)
def ObjOk (H : Hp) (h : Heap) (a : Addr) : HO → Prop
  | .lst xs => xs.length ≤ sizeLine ∧ ∃ (its : List Value) (n : Nat), Vals xs its ∧ h.get? a = some { cls := .type "list", data := .seq its.toArray n }
  | .tup xs => xs.length ≤ sizeLine ∧ ∃ its : List Value, Vals xs its ∧ IsTup h a its.toArray
  | .dK kvs => kvs.length ≤ sizeLine ∧ (a == sysModules) = false ∧ ∃ vs, KV kvs vs ∧ h.DictOf (mixKind P w) a vs
  | .dT kvs => kvs.length ≤ sizeLine ∧ (a == sysModules) = false ∧ ∃ xs : List (List Key × Addr × Value),
      Paired (fun (p : List Key × V) (q : List Key × Addr × Value) => p.1 = q.1 ∧ H q.2.1 = some (.tup (p.1.map kV)) ∧ RelV p.2 q.2.2) kvs xs ∧
      ∃ o es ep, h.get? a = some o ∧ o.ExactDict ∧ o.data = .dict es ep ∧ es.toList = xs.map (entryOfKey (tupleKind (mixKind P w))) ∧ (xs.map (·.1)).Nodup
  | .set S n => h.SetOf (intKind P w) a S n
  | .ins C dx fs => H dx = some (.own a) ∧ fs.length ≤ 1000 ∧ dx ≠ a ∧ h.get? a = some (PySem.W.instObj C dx) ∧
      ∃ mA, h.Ns1 dx mA ∧ (∀ f, RelO (fs.lookup f) (mA f)) ∧ PySem.Within mA (fs.map (·.1))
  | .own _ => ∃ o, h.get? a = some o
  | .xd fs => ∃ mA, h.Ns1 a mA ∧ ∀ f, RelO (fs.lookup f) (mA f)
  | .rng lo hi => ∃ t u v, h.get? a = some { cls := .type "range", data := .fields #[.int lo t, .int hi u, .int 1 v] }
  | .frz o u => h.get? a = some o ∧ ObjOk H h a u
  | .tbl ps => h.get? a = some { cls := .none, data := .fields ps }
  | .met f x => h.get? a = some (PySem.W.methodObj (.ref f) (.ref x))
  | .ext φ => φ h ∧ (∃ o, h.get? a = some o) ∧ ∀ h1 h2 : Heap, φ h1 → (∀ o, h1.get? a = some o → h2.get? a = some o) → φ h2
/-- the abstract heap is held -/
def HOk (H : Hp) (h : Heap) : Prop := ∀ a o, H a = some o → ObjOk P w H h a o
end

section
variable {P : Program} {w : World} {H H' : Hp} {h h' : Heap} {a : Addr} {o : HO}
theorem ObjOk.lt (x : ObjOk P w H h a o) : a < h.objs.size := by
  cases o with
  | lst xs => obtain ⟨_, _, _, _, e⟩ := x; exact Heap.lt_size e
  | tup xs => obtain ⟨_, _, _, p⟩ := x; exact p.lt
  | dK kvs => obtain ⟨_, _, _, _, o, _, _, e, _⟩ := x; exact Heap.lt_size e
  | dT kvs => obtain ⟨_, _, _, _, o, _, _, e, _⟩ := x; exact Heap.lt_size e
  | set S n => obtain ⟨o, _, _, _, e, _⟩ := x; exact Heap.lt_size e
  | ins C dx fs => obtain ⟨_, _, _, e, _⟩ := x; exact Heap.lt_size e
  | own y => obtain ⟨_, e⟩ := x; exact Heap.lt_size e
  | xd fs => obtain ⟨_, ⟨_, _, _, e, _⟩, _⟩ := x; exact Heap.lt_size e
  | rng lo hi => obtain ⟨_, _, _, e⟩ := x; exact Heap.lt_size e
  | frz ob u => obtain ⟨e, _⟩ := x; exact Heap.lt_size e
  | tbl ps => exact Heap.lt_size (show h.get? a = some _ from x)
  | met f y => exact Heap.lt_size (show h.get? a = some _ from x)
  | ext φ => obtain ⟨_, ⟨_, e⟩, _⟩ := x; exact Heap.lt_size e
theorem Paired.mapP {α β : Type} {F G : α → β → Prop} : ∀ {l₁ : List α} {l₂ : List β}, Paired F l₁ l₂ → (∀ a b, F a b → G a b) → Paired G l₁ l₂
  | _, _, .nil, _ => .nil
  | _, _, .cons r t, f => .cons (f _ _ r) (Paired.mapP t f)
theorem Paired.imp' {α β : Type} {F G : α → β → Prop} (f : ∀ a b, F a b → G a b) {l₁ : List α} {l₂ : List β} (r : Paired F l₁ l₂) : Paired G l₁ l₂ := Paired.mapP r f
/-- what an object's description leans on: its own object, its own dict, the tuples -/
theorem ObjOk.stay (x : ObjOk P w H h a o) (k : ∀ b u, (b = a ∨ H b = some (.own a)) → h.get? b = some u → h'.get? b = some u)
    (ho : ∀ b, H b = some (.own a) → H' b = some (.own a)) (ht : ∀ b xs, H b = some (.tup xs) → H' b = some (.tup xs)) : ObjOk P w H' h' a o := by
  induction o with
  | lst xs => obtain ⟨z, its, n, r, e⟩ := x; exact ⟨z, its, n, r, k _ _ (.inl rfl) e⟩
  | tup xs => obtain ⟨z, its, r, ob, e, c⟩ := x; exact ⟨z, its, r, ob, k _ _ (.inl rfl) e, c⟩
  | dK kvs => obtain ⟨z, y, vs, r, ob, es, ep, e, c⟩ := x; exact ⟨z, y, vs, r, ob, es, ep, k _ _ (.inl rfl) e, c⟩
  | dT kvs =>
    obtain ⟨z, y, xs, r, ob, es, ep, e, c⟩ := x
    exact ⟨z, y, xs, Paired.mapP r fun p q z => ⟨z.1, ht _ _ z.2.1, z.2.2⟩, ob, es, ep, k _ _ (.inl rfl) e, c⟩
  | set S n => obtain ⟨ob, es, ep, t, e, c⟩ := x; exact ⟨ob, es, ep, t, k _ _ (.inl rfl) e, c⟩
  | ins C dx fs =>
    obtain ⟨d, z, ne, e, mA, ⟨od, es, ep, e2, c⟩, r⟩ := x
    exact ⟨ho _ d, z, ne, k _ _ (.inl rfl) e, mA, ⟨od, es, ep, k _ _ (.inr d) e2, c⟩, r⟩
  | own y => obtain ⟨ob, e⟩ := x; exact ⟨ob, k _ _ (.inl rfl) e⟩
  | xd fs => obtain ⟨mA, ⟨od, es, ep, e, c⟩, r⟩ := x; exact ⟨mA, ⟨od, es, ep, k _ _ (.inl rfl) e, c⟩, r⟩
  | rng lo hi => obtain ⟨t, u, v, e⟩ := x; exact ⟨t, u, v, k _ _ (.inl rfl) e⟩
  | frz ob u ih => obtain ⟨e, q⟩ := x; exact ⟨k _ _ (.inl rfl) e, ih q⟩
  | tbl ps =>
    have e : h.get? a = some { cls := .none, data := .fields ps } := x
    show h'.get? a = some { cls := .none, data := .fields ps }
    exact k a _ (.inl rfl) e
  | met f y =>
    have e : h.get? a = some (PySem.W.methodObj (.ref f) (.ref y)) := x
    show h'.get? a = some (PySem.W.methodObj (.ref f) (.ref y))
    exact k a _ (.inl rfl) e
  | ext φ => obtain ⟨p, ⟨o, e⟩, st⟩ := x; exact ⟨st _ _ p fun o q => k _ _ (.inl rfl) q, ⟨o, k _ _ (.inl rfl) e⟩, st⟩
theorem HOk.lt (x : HOk P w H h) (e : H a = some o) : a < h.objs.size := (x a o e).lt
theorem HOk.fresh (x : HOk P w H h) (e : h.objs.size ≤ a) : H a = none := by
  cases q : H a with
  | none => rfl
  | some u => exact absurd (Nat.lt_of_lt_of_le (x.lt q) e) (Nat.lt_irrefl _)
/-- every object of the heap is kept -/
theorem HOk.kept (x : HOk P w H h) (k : ∀ b u, h.get? b = some u → h'.get? b = some u) : HOk P w H h' := fun a o e =>
  (x a o e).stay (fun b u _ q => k b u q) (fun _ q => q) fun _ _ q => q
/-- a new object is laid and tracked -/
theorem HOk.laid (x : HOk P w H h) (k : ∀ b u, h.get? b = some u → h'.get? b = some u) (hp : h.objs.size ≤ a) (new : ObjOk P w (upd H a o) h' a o) : HOk P w (upd H a o) h' := fun b u e => by
  have hn := x.fresh hp
  by_cases hb : b = a
  · subst hb; rw [upd_same] at e; cases e; exact new
  · rw [upd_ne hb] at e
    exact (x b u e).stay (fun c v _ q => k c v q) (fun c q => by rw [upd_ne (ne_of_none q hn)]; exact q) fun c xs q => by rw [upd_ne (ne_of_none q hn)]; exact q
end

/-- what may be read as u: it is u, or a known u -/
def Rd (H : Hp) (a : Addr) (u : HO) : Prop := H a = some u ∨ ∃ o, H a = some (.frz o u)
theorem Rd.of {H : Hp} {a : Addr} {u : HO} (h : H a = some u) : Rd H a u := .inl h
theorem Rd.ok {P : Program} {w : World} {H : Hp} {h : Heap} {a : Addr} {u : HO} (r : Rd H a u) (x : HOk P w H h) : ObjOk P w H h a u := by
  rcases r with r | ⟨o, r⟩
  · exact x a u r
  · obtain ⟨_, q⟩ := x a _ r
    exact q
/-- what may be written -/
def Mut : Option HO → Prop
  | some (.lst _) => True
  | some (.dK _) => True
  | some (.dT _) => True
  | some (.set _ _) => True
  | some (.ins _ _ _) => True
  | some (.ext _) => True
  | _ => False
section
variable {P : Program} {w : World} {H : Hp} {h h' : Heap} {x e : Addr} {o' : HO}
/-- the object at e is changed: x itself, or the dict of the instance x -/
theorem HOk.write (ok : HOk P w H h) (mu : Mut (H x)) (he : e = x ∨ H e = some (.own x)) (k : ∀ b u, b ≠ e → h.get? b = some u → h'.get? b = some u) (heo : ∃ u, h'.get? e = some u)
    (new : ObjOk P w (upd H x o') h' x o') : HOk P w (upd H x o') h' := fun b u q => by
  have nown : ∀ c y, H c = some (.own y) → c ≠ x := fun c y r z => by subst z; rw [r] at mu; exact mu
  have ntup : ∀ c xs, H c = some (.tup xs) → c ≠ x := fun c xs r z => by subst z; rw [r] at mu; exact mu
  by_cases hb : b = x
  · subst hb; rw [upd_same] at q; cases q; exact new
  · rw [upd_ne hb] at q
    by_cases hbe : b = e
    · have q' : H b = some (.own x) := by
        rcases he with z | z
        · exact absurd (hbe.trans z) hb
        · rw [hbe]; exact z
      rw [q] at q'; cases q'
      obtain ⟨v, hv⟩ := heo
      exact ⟨v, by rw [hbe]; exact hv⟩
    · refine (ok b u q).stay (fun c v hc r => k c v ?_ r) (fun c r => by rw [upd_ne (nown c b r)]; exact r) fun c xs r => by rw [upd_ne (ntup c xs r)]; exact r
      rcases hc with rfl | hc
      · exact hbe
      · rintro rfl
        rcases he with z | z
        · exact nown c b hc z
        · rw [hc] at z; cases z; exact hb rfl
end

/-! ### kept unless tracked; of the frames at fs (the callers') the slots may change (an exception that passes writes there); of the records at ex (iterators) nothing is said -/
structure Un (fs ex : List Addr) (H H' : Hp) (h h' : Heap) : Prop where
  keep : ∀ b o, h.get? b = some o → H b = none → b ∉ fs → b ∉ ex → h'.get? b = some o
  slot : ∀ b o, h.get? b = some o → H b = none → b ∈ fs → b ∉ ex → ∃ sl, h'.get? b = some { o with slots := sl }
  free : ∀ b o, h.get? b = some o → H b = none → b ∉ ex → H' b = none
  there : ∀ b o, h.get? b = some o → b ∉ ex → ∃ o', h'.get? b = some o'
  tups : ∀ b xs, H b = some (.tup xs) → H' b = some (.tup xs)
  frzs : ∀ b o u, H b = some (.frz o u) → H' b = some (.frz o u)
  tbls : ∀ b ps, H b = some (.tbl ps) → ∃ more, H' b = some (.tbl (ps ++ more))
section
variable {fs fs' ex ex' : List Addr} {H H1 H2 : Hp} {h h1 h2 h' : Heap} {a x e : Addr} {o : HO}
theorem Un.any (u : Un fs ex H H1 h h1) {b : Addr} {ob : Obj} (q : h.get? b = some ob) (n : H b = none) (hx : b ∉ ex) : ∃ sl, h1.get? b = some { ob with slots := sl } := by
  by_cases hb : b ∈ fs
  · exact u.slot b ob q n hb hx
  · exact ⟨ob.slots, u.keep b ob q n hb hx⟩
theorem Un.trans (a : Un fs ex H H1 h h1) (b : Un fs ex H1 H2 h1 h2) : Un fs ex H H2 h h2 where
  keep := fun c ob q n hc hx => b.keep c ob (a.keep c ob q n hc hx) (a.free c ob q n hx) hc hx
  slot := fun c ob q n hc hx => by
    obtain ⟨sl, e1⟩ := a.slot c ob q n hc hx
    obtain ⟨sl', e2⟩ := b.slot c _ e1 (a.free c ob q n hx) hc hx
    exact ⟨sl', e2⟩
  free := fun c ob q n hx => by
    obtain ⟨o', e1⟩ := a.there c ob q hx
    exact b.free c o' e1 (a.free c ob q n hx) hx
  there := fun c ob q hx => by
    obtain ⟨o', e1⟩ := a.there c ob q hx
    exact b.there c o' e1 hx
  tups := fun c xs q => b.tups c xs (a.tups c xs q)
  frzs := fun c ob xs q => b.frzs c ob xs (a.frzs c ob xs q)
  tbls := fun c ps q => by
    obtain ⟨m1, e1⟩ := a.tbls c ps q
    obtain ⟨m2, e2⟩ := b.tbls c _ e1
    exact ⟨m1 ++ m2, by rw [e2, Array.append_assoc]⟩
theorem Un.kept (k : ∀ b u, h.get? b = some u → h'.get? b = some u) : Un fs ex H H h h' :=
  ⟨fun b ob q _ _ _ => k b ob q, fun b ob q _ _ _ => ⟨ob.slots, k b ob q⟩, fun _ _ _ n _ => n, fun b ob q _ => ⟨ob, k b ob q⟩, fun _ _ q => q, fun _ _ _ q => q, fun _ ps q => ⟨#[], by rw [q]; simp⟩⟩
theorem Un.refl : Un fs ex H H h h := Un.kept fun _ _ q => q
theorem Un.laid (k : ∀ b u, h.get? b = some u → h'.get? b = some u) (hp : h.objs.size ≤ a) (hn : H a = none) : Un fs ex H (upd H a o) h h' where
  keep := fun b u q _ _ _ => k b u q
  slot := fun b u q _ _ _ => ⟨u.slots, k b u q⟩
  free := fun b u q n _ => by rw [upd_ne (Nat.ne_of_lt (Nat.lt_of_lt_of_le (Heap.lt_size q) hp))]; exact n
  there := fun b u q _ => ⟨u, k b u q⟩
  tups := fun b xs q => by rw [upd_ne (ne_of_none q hn)]; exact q
  frzs := fun b u xs q => by rw [upd_ne (ne_of_none q hn)]; exact q
  tbls := fun b ps q => ⟨#[], by rw [upd_ne (ne_of_none q hn), q]; simp⟩
theorem Un.write (mu : Mut (H x)) (he : e = x ∨ H e = some (.own x)) (k : ∀ b u, b ≠ e → h.get? b = some u → h'.get? b = some u) (heo : ∃ u, h'.get? e = some u) : Un fs ex H (upd H x o) h h' := by
  have hx : ∀ b, H b = none → b ≠ x := fun b n z => by subst z; rw [n] at mu; exact mu
  have hb : ∀ b, H b = none → b ≠ e := fun b n z => by
    subst z
    rcases he with r | r
    · exact hx b n r
    · rw [n] at r; cases r
  have hm : ∀ b u, H b = some u → ¬ Mut (some u) → b ≠ x := fun b u q nm z => by subst z; rw [q] at mu; exact nm mu
  refine ⟨fun b u q n _ _ => k b u (hb b n) q, fun b u q n _ _ => ⟨u.slots, k b u (hb b n) q⟩, fun b u q n _ => by rw [upd_ne (hx b n)]; exact n, fun b u q _ => ?_,
    fun b xs q => by rw [upd_ne (hm b _ q fun z => z)]; exact q, fun b u xs q => by rw [upd_ne (hm b _ q fun z => z)]; exact q, fun b ps q => ⟨#[], by rw [upd_ne (hm b _ q fun z => z), q]; simp⟩⟩
  by_cases hbe : b = e
  · subst hbe; exact heo
  · exact ⟨u, k b u hbe q⟩
theorem Un.mono (u : Un fs ex H H1 h h1) (hs : ∀ b ∈ fs, b ∈ fs') (hx : ∀ b ∈ ex, b ∈ ex') : Un fs' ex' H H1 h h1 :=
  ⟨fun b ob q n hb he => u.keep b ob q n (fun z => hb (hs b z)) fun z => he (hx b z), fun _ _ q n _ he => u.any q n fun z => he (hx _ z), fun b ob q n he => u.free b ob q n fun z => he (hx b z), fun b ob q he => u.there b ob q fun z => he (hx b z), u.tups, u.frzs, u.tbls⟩
end

/-! ### the heap without what is tracked -/
def trk (h : Heap) (H : Hp) : List Addr := (List.range h.objs.size).filter fun a => (H a).isSome
def hidT (h : Heap) (H : Hp) : Heap := PySem.W.hideAll h (trk h H)
theorem hidT_size (h : Heap) (H : Hp) : (hidT h H).objs.size = h.objs.size := PySem.W.hideAll_size _ _
theorem hidT_get {h : Heap} {H : Hp} {b : Addr} {o : Obj} (e : h.get? b = some o) (n : H b = none) : (hidT h H).get? b = some o :=
  PySem.W.hideAll_get _ e fun hm => by
    have q : (H b).isSome = true := (List.mem_filter.mp hm).2
    rw [n] at q; simp at q
theorem of_hidT {h : Heap} {H : Hp} {b : Addr} {o : Obj} (e : (hidT h H).get? b = some o) : h.get? b = some o ∧ H b = none := by
  have e' : h.get? b = some o := PySem.W.of_hideAll (trk h H) e
  refine ⟨e', ?_⟩
  cases q : H b with
  | none => rfl
  | some x =>
    have hm : b ∈ trk h H := List.mem_filter.mpr ⟨List.mem_range.mpr (Heap.lt_size e'), by simp [q]⟩
    have z : (hidT h H).get? b = none := PySem.W.hideAll_none (trk h H) hm
    rw [z] at e; cases e

/-! ### OpenK's ledger, filled with every new object but one -/
def allNews (g h : Heap) (L : Addr) : List (Addr × Obj) := (List.range h.objs.size).filterMap fun a => if a = L ∨ (g.get? a).isSome = true then none else (h.get? a).map fun o => (a, o)
theorem mem_allNews {g h : Heap} {L a : Addr} {o : Obj} (h1 : a ≠ L) (h2 : g.get? a = none) (h3 : h.get? a = some o) : (a, o) ∈ allNews g h L :=
  List.mem_filterMap.mpr ⟨a, List.mem_range.mpr (Heap.lt_size h3), by simp [h1, h2, h3]⟩
theorem of_mem_allNews {g h : Heap} {L : Addr} {p : Addr × Obj} (hp : p ∈ allNews g h L) : p.1 ≠ L ∧ g.get? p.1 = none ∧ h.get? p.1 = some p.2 := by
  obtain ⟨b, _, e⟩ := List.mem_filterMap.mp hp
  split at e
  · cases e
  · rename_i hn
    cases q : h.get? b with
    | none => rw [q] at e; simp at e
    | some u =>
      rw [q] at e
      simp only [Option.map_some, Option.some.injEq] at e
      subst e
      refine ⟨fun z => hn (.inl z), ?_, q⟩
      show g.get? b = none
      cases r : g.get? b with
      | none => rfl
      | some v => exact (hn (.inr (by simp [r]))).elim
def rest (g h : Heap) (L d : Addr) : List (Addr × Obj) := (allNews g h L).filter fun p => decide (p.1 ≠ d)
theorem rest_ne {g h : Heap} {L d : Addr} : ∀ p ∈ rest g h L d, p.1 ≠ d := fun p hp => of_decide_eq_true (List.mem_filter.mp hp).2
theorem mem_rest {g h : Heap} {L d a : Addr} {o : Obj} (h1 : a ≠ L) (h2 : g.get? a = none) (h3 : h.get? a = some o) (h4 : a ≠ d) : (a, o) ∈ rest g h L d :=
  List.mem_filter.mpr ⟨mem_allNews h1 h2 h3, decide_eq_true h4⟩
theorem news_all {g h : Heap} {L : Addr} : News g L h (allNews g h L) := fun p hp => let ⟨a, b, c⟩ := of_mem_allNews hp; ⟨c, a, b⟩
theorem news_at {g h : Heap} {L d : Addr} {o : Obj} (h1 : d ≠ L) (h2 : g.get? d = none) (h3 : h.get? d = some o) : News g L h ((d, o) :: rest g h L d) := fun p hp => by
  rcases List.mem_cons.mp hp with rfl | hp
  · exact ⟨h3, h1, h2⟩
  · exact news_all p (List.mem_filter.mp hp).1
/-- behind a rule that changed d alone: all else but the frame is kept -/
theorem kept_of_news {g h h' : Heap} {L d : Addr} {m : Str → Option Value} (k : ∀ b o, g.get? b = some o → h.get? b = some o) (F : Fr g L h' m) (N : News g L h' (rest g h L d)) :
    ∀ b o, b ≠ L → b ≠ d → h.get? b = some o → h'.get? b = some o := fun b o h1 h2 e => by
  cases q : g.get? b with
  | some u =>
    have := k b u q
    rw [e] at this; cases this
    exact F.keep b _ q
  | none => exact (N (b, o) (mem_rest h1 q e h2)).1
end L2

namespace L2
open PySem PySem.Spec PyProof.Rows

/-- the module's facts, over the base: the heap at the law's entry without what is tracked there -/
structure Mod (K : PySem.W.Frag) (mg : Str → Option Value) (base : Heap) : Prop where
  kin : K.In base
  glob : base.Ns mainGlobals mg
  blt : ∃ mb, base.Ns builtinsNs mb ∧ ∀ x : Str, x ≠ "__name__" → mb x = bootBuiltins x
  nolimit : base.NoLimit

/-- the context: a def's body (or a comprehension's block) running. base: fixed through the whole law; s₀, H₀: the entry; outer: the frames whose slots others may change (a def's callers); stack: all frames that run;
   ex: iterators that were made ahead of the entry and are walked here (a comprehension's); fn: the names whose cells were made at the entry (a def: all; a comprehension's block: its own); calm: not within an except suite; pn: pins that every state bears; xe: what is wanted of an exception that leaves the code -/
structure Cx where
  prog : Program
  w : World
  K : PySem.W.Frag
  mg : Str → Option Value
  base : Heap
  A : Around
  N : List Str
  s₀ : Shared
  H₀ : Hp
  env : Env
  outer : List Env
  stack : List Env
  ex : List Addr
  fn : Str → Bool
  calm : Bool
  pn : List (Addr × Obj)
  xe : Value → Shared → Prop
/-- the callers' frames -/
def frs (l : List Env) : List Addr := l.filterMap (·.frame)
abbrev Cx.fs (X : Cx) : List Addr := frs X.outer

def Vis (sc : Scope) (x : Str) : Prop := sc.names.lookup x = some .local ∨ sc.names.lookup x = some .cell ∨ sc.names.lookup x = some .free
def Loc (sc : Scope) (x : Str) : Prop := sc.names.lookup x = some .local ∨ sc.names.lookup x = some .cell
def Look (env : Env) (h : Heap) (m : Str → Option Value) (x : Str) (u : Value) : Prop :=
  (env.kindOf x = some .local ∧ m x = some u) ∨ ((env.kindOf x = some .cell ∨ env.kindOf x = some .free) ∧ ∃ c, env.cells.lookup x = some c ∧ h.IsCell c (some u))

structure Cx.Ok (X : Cx) : Prop where
  mod : Mod X.K X.mg X.base
  kind : X.env.scope.kind = .function
  glob : X.env.globals = mainGlobals
  blt : X.env.builtins = builtinsNs
  above : X.s₀.heap.objs.size ≤ X.env.locals
  inj : ∀ x y c, X.env.cells.lookup x = some c → X.env.cells.lookup y = some c → x = y
  has : ∀ x, (X.env.kindOf x = some .cell ∨ X.env.kindOf x = some .free) → ∃ c, X.env.cells.lookup x = some c
  cab : ∀ x c, X.fn x = true → X.env.cells.lookup x = some c → X.s₀.heap.objs.size ≤ c
  hd : X.calm = true → X.A.handled = none
  frames : X.A.frames = some X.stack
  stk : X.stack = X.outer ∨ (X.stack = X.env :: X.outer ∧ X.env.frame = some X.env.locals)
  exf : ∀ b ∈ X.ex, b ≠ X.env.locals ∧ ∀ x c, X.env.cells.lookup x = some c → c ≠ b
  bs : ∀ b o, X.base.get? b = some o → X.s₀.heap.get? b = some o ∧ X.H₀ b = none
  bsz : X.base.objs.size ≤ X.s₀.heap.objs.size
  noex : ∀ b o, X.base.get? b = some o → b ∉ X.ex
  exfs : ∀ b ∈ X.ex, b ∉ X.fs
  funs : X.s₀.heap.FunFrames X.base X.outer
  frf : ∀ b ∈ X.fs, X.H₀ b = none

structure Inv (X : Cx) (pins : List (Addr × Obj)) (σ : List (Option V)) (H : Hp) (s : Shared) : Prop where
  ok : X.Ok
  os : s.os = X.s₀.os
  bare : AllBare s.gens
  base : Un X.fs X.ex X.H₀ H X.s₀.heap s.heap
  loc : ∃ m, s.heap.Ns X.env.locals m ∧ ∀ (i : Nat) (x : Str) (v : V), X.N[i]? = some x → σ[i]? = some (some v) → Vis X.env.scope x → ∃ u, RelV v u ∧ Look X.env s.heap m x u
  cell : ∀ x c, X.env.cells.lookup x = some c → ∃ v, s.heap.IsCell c v
  free : H X.env.locals = none
  freeC : ∀ x c, X.env.cells.lookup x = some c → H c = none
  pin : ∀ p ∈ X.pn ++ pins, s.heap.get? p.1 = some p.2 ∧ H p.1 = none ∧ p.1 ≠ X.env.locals ∧ p.1 ∉ X.fs ∧ ∀ v, p.2.data ≠ .cell v
  hok : HOk X.prog X.w H s.heap
  len : σ.length = X.N.length

section
variable {X : Cx} {pins : List (Addr × Obj)} {σ : List (Option V)} {H H' : Hp} {s : Shared} {h' : Heap}

theorem Cx.Ok.nofr (ok : X.Ok) {b : Addr} {o : Obj} (e : X.base.get? b = some o) : b ∉ X.fs := fun hb => by
  have := (ok.funs.mem hb).1
  rw [e] at this; cases this
theorem Inv.bs (I : Inv X pins σ H s) : ∀ b o, X.base.get? b = some o → s.heap.get? b = some o ∧ H b = none := fun b o e =>
  ⟨I.base.keep b o (I.ok.bs b o e).1 (I.ok.bs b o e).2 (I.ok.nofr e) (I.ok.noex b o e), I.base.free b o (I.ok.bs b o e).1 (I.ok.bs b o e).2 (I.ok.noex b o e)⟩
theorem Inv.bk (I : Inv X pins σ H s) : ∀ b o, X.base.get? b = some o → s.heap.get? b = some o := fun b o e => (I.bs b o e).1
theorem Inv.mod (I : Inv X pins σ H s) : Mod X.K X.mg X.base := I.ok.mod
theorem Inv.kIn (I : Inv X pins σ H s) : X.K.In s.heap := I.ok.mod.kin.keeps I.bk
theorem Inv.nolimit (I : Inv X pins σ H s) : s.heap.NoLimit := I.ok.mod.nolimit.keeps I.bk
/-- the frame over the base: for OpenK's rules (K.In X.base is I.mod.kin) -/
theorem Inv.fr (I : Inv X pins σ H s) : ∃ m, Fr X.base X.env.locals s.heap m :=
  let ⟨m, hn, _⟩ := I.loc
  ⟨m, hn, I.bk, Nat.le_trans I.ok.bsz I.ok.above⟩
theorem Inv.lt (I : Inv X pins σ H s) : X.env.locals < s.heap.objs.size := let ⟨_, hn, _⟩ := I.loc; hn.lt
theorem Inv.sz (I : Inv X pins σ H s) : X.s₀.heap.objs.size ≤ s.heap.objs.size := Nat.le_trans I.ok.above (Nat.le_of_lt I.lt)
theorem Inv.nofs (I : Inv X pins σ H s) {a : Addr} (h : s.heap.objs.size ≤ a) : a ∉ X.fs := fun hb => by
  obtain ⟨_, o, ho, _⟩ := I.ok.funs.mem hb
  exact absurd (Nat.lt_of_lt_of_le (Heap.lt_size ho) (Nat.le_trans I.sz h)) (Nat.lt_irrefl _)
theorem Inv.cne (I : Inv X pins σ H s) : ∀ x c, X.env.cells.lookup x = some c → c ≠ X.env.locals := fun x c e z => by
  obtain ⟨v, o, ho, hd⟩ := I.cell x c e
  obtain ⟨m, ⟨o', es, ep, ho', hd', _⟩, _⟩ := I.loc
  rw [z, ho'] at ho; cases ho; rw [hd'] at hd; cases hd
theorem Inv.funs (I : Inv X pins σ H s) : s.heap.FunFrames X.base X.outer := by
  have all : ∀ (l : List Env), (∀ b ∈ frs l, b ∈ X.fs) → X.s₀.heap.FunFrames X.base l → s.heap.FunFrames X.base l := by
    intro l
    induction l with
    | nil => intro _ _; trivial
    | cons env r ih =>
      intro hs hl
      obtain ⟨hk, ⟨L, o, hf, hn, ho, hd⟩, hr⟩ := hl
      have hL : L ∈ X.fs := hs L (by unfold frs; rw [List.filterMap_cons, hf]; exact List.mem_cons_self)
      obtain ⟨sl, e⟩ := I.base.slot L o ho (I.ok.frf L hL) hL fun z => I.ok.exfs L z hL
      exact ⟨hk, ⟨L, _, hf, hn, e, hd⟩, ih (fun b hb => hs b (by unfold frs; rw [List.filterMap_cons, hf]; exact List.mem_cons_of_mem _ hb)) hr⟩
  exact all X.outer (fun _ hb => hb) I.ok.funs

/-- the frames that run, for a call -/
theorem Inv.stack (I : Inv X pins σ H s) : s.heap.FunFrames X.base X.stack := by
  rcases I.ok.stk with e | ⟨e, hf⟩
  · rw [e]; exact I.funs
  · rw [e]
    obtain ⟨m, hn, _⟩ := I.loc
    refine .cons (by rw [I.ok.kind]; decide) hf hn ?_ I.funs
    exact Heap.get?_none_of_le (Nat.le_trans I.ok.bsz I.ok.above)
theorem Inv.stkSub (I : Inv X pins σ H s) : ∀ b ∈ frs X.stack, b ∈ X.env.locals :: X.fs := fun b hb => by
  rcases I.ok.stk with e | ⟨e, hf⟩
  · rw [e] at hb; exact List.mem_cons_of_mem _ hb
  · rw [e] at hb
    unfold frs at hb
    rw [List.filterMap_cons, hf] at hb
    exact hb
theorem Inv.stkFree (I : Inv X pins σ H s) : ∀ b ∈ frs X.stack, H b = none := fun b hb => by
  rcases List.mem_cons.mp (I.stkSub b hb) with e | hb
  · rw [e]; exact I.free
  · obtain ⟨_, o, ho, _⟩ := I.ok.funs.mem hb
    exact I.base.free b o ho (I.ok.frf b hb) fun z => I.ok.exfs b z hb

/-- THE STEP: the untracked objects but the frame and the records at ch are kept (the callers' frames up to slots), the frame's map is kept, the new abstract heap is held -/
theorem Inv.step {g' : Array GenState} {t' : Nat} {d' : Drawn} {ch : List Addr} (I : Inv X pins σ H s)
    (hch : ∀ b ∈ ch, (b ∈ X.ex ∨ X.s₀.heap.objs.size ≤ b) ∧ b ≠ X.env.locals ∧ (∀ x c, X.env.cells.lookup x = some c → c ≠ b) ∧ ∀ p ∈ X.pn ++ pins, p.1 ≠ b)
    (keep : ∀ b o, b ≠ X.env.locals → b ∉ X.fs → b ∉ ch → s.heap.get? b = some o → H b = none → h'.get? b = some o)
    (slot : ∀ b o, b ≠ X.env.locals → b ∈ X.fs → b ∉ ch → s.heap.get? b = some o → H b = none → ∃ sl, h'.get? b = some { o with slots := sl }) (free : ∀ b o, b ∉ ch → s.heap.get? b = some o → H b = none → H' b = none)
    (there : ∀ b o, b ∉ ch → s.heap.get? b = some o → ∃ o', h'.get? b = some o')
    (tups : ∀ b xs, H b = some (.tup xs) → H' b = some (.tup xs)) (frzs : ∀ b o u, H b = some (.frz o u) → H' b = some (.frz o u)) (tbls : ∀ b ps, H b = some (.tbl ps) → ∃ more, H' b = some (.tbl (ps ++ more)))
    (ns : ∀ m, s.heap.Ns X.env.locals m → h'.Ns X.env.locals m) (hok : HOk X.prog X.w H' h') (hg : AllBare g') :
    Inv X pins σ H' { s with heap := h', gens := g', drawn := d', toks := t' } := by
  have neL : ∀ b o, X.s₀.heap.get? b = some o → b ≠ X.env.locals := fun b o e => Nat.ne_of_lt (Nat.lt_of_lt_of_le (Heap.lt_size e) I.ok.above)
  have neC : ∀ b o, X.s₀.heap.get? b = some o → b ∉ X.ex → b ∉ ch := fun b o e hx hb => by
    rcases (hch b hb).1 with z | z
    · exact hx z
    · exact absurd (Nat.lt_of_lt_of_le (Heap.lt_size e) z) (Nat.lt_irrefl _)
  have cellK : ∀ x c, X.env.cells.lookup x = some c → ∀ v, s.heap.IsCell c v → h'.IsCell c v := fun x c e v ⟨o, ho, hd⟩ => by
    have nch : c ∉ ch := fun z => (hch c z).2.2.1 x c e rfl
    by_cases hc : c ∈ X.fs
    · obtain ⟨sl, q⟩ := slot c o (I.cne x c e) hc nch ho (I.freeC x c e)
      exact ⟨_, q, hd⟩
    · exact ⟨o, keep c o (I.cne x c e) hc nch ho (I.freeC x c e), hd⟩
  refine ⟨I.ok, I.os, hg, ⟨fun b o e n hb hx => ?_, fun b o e n hb hx => ?_, fun b o e n hx => ?_, fun b o e hx => ?_, fun b xs e => tups b xs (I.base.tups b xs e), fun b o xs e => frzs b o xs (I.base.frzs b o xs e), fun b ps e => ?_⟩, ?_, fun x c e => ?_, ?_, fun x c e => ?_, fun p hp => ?_, hok, I.len⟩
  · exact keep b o (neL b o e) hb (neC b o e hx) (I.base.keep b o e n hb hx) (I.base.free b o e n hx)
  · obtain ⟨sl, e1⟩ := I.base.slot b o e n hb hx
    obtain ⟨sl', e2⟩ := slot b _ (neL b o e) hb (neC b o e hx) e1 (I.base.free b o e n hx)
    exact ⟨sl', e2⟩
  · obtain ⟨o', e1⟩ := I.base.there b o e hx
    exact free b o' (neC b o e hx) e1 (I.base.free b o e n hx)
  · obtain ⟨o', e1⟩ := I.base.there b o e hx
    exact there b o' (neC b o e hx) e1
  · obtain ⟨m1, e1⟩ := I.base.tbls b ps e
    obtain ⟨m2, e2⟩ := tbls b _ e1
    exact ⟨m1 ++ m2, by rw [e2, Array.append_assoc]⟩
  · obtain ⟨m, hn, hl⟩ := I.loc
    refine ⟨m, ns m hn, fun i x v e1 e2 e3 => ?_⟩
    obtain ⟨u, r, l⟩ := hl i x v e1 e2 e3
    refine ⟨u, r, ?_⟩
    rcases l with l | ⟨k, c, e, z⟩
    · exact .inl l
    · exact .inr ⟨k, c, e, cellK x c e _ z⟩
  · obtain ⟨v, z⟩ := I.cell x c e
    exact ⟨v, cellK x c e v z⟩
  · obtain ⟨m, ⟨o, _, _, ho, _⟩, _⟩ := I.loc
    exact free _ o (fun z => (hch _ z).2.1 rfl) ho I.free
  · obtain ⟨v, o, ho, hd⟩ := I.cell x c e
    exact free c o (fun z => (hch c z).2.2.1 x c e rfl) ho (I.freeC x c e)
  · obtain ⟨e, n, ne, nf, d⟩ := I.pin p hp
    have nch : p.1 ∉ ch := fun z => (hch p.1 z).2.2.2 p hp rfl
    exact ⟨keep p.1 p.2 ne nf nch e n, free p.1 p.2 nch e n, ne, nf, d⟩
/-- .. where the frame's own object is kept too -/
theorem Inv.un {t' : Nat} (I : Inv X pins σ H s) (u : Un X.fs [] H H' s.heap h') (hok : HOk X.prog X.w H' h') : Inv X pins σ H' { s with heap := h', toks := t' } := by
  obtain ⟨m, ⟨o, es, ep, ho, r⟩, _⟩ := id I.loc
  obtain ⟨sl, hL⟩ := u.any ho I.free (by simp)
  exact I.step (g' := s.gens) (d' := s.drawn) (ch := []) (fun _ z => nomatch z) (fun b o _ hb _ e n => u.keep b o e n hb (by simp)) (fun b o _ hb _ e n => u.slot b o e n hb (by simp)) (fun b o _ e n => u.free b o e n (by simp)) (fun b o _ e => u.there b o e (by simp)) u.tups u.frzs u.tbls (fun m' hm => by
    obtain ⟨o', es', ep', ho', r'⟩ := hm
    rw [ho] at ho'; cases ho'
    exact ⟨_, es', ep', hL, r'⟩) hok I.bare
/-- behind a call (or a comprehension's block): the slots of this frame may have changed too, the records at ch may have turned -/
theorem Inv.call {g' : Array GenState} {t' : Nat} {d' : Drawn} {ch : List Addr} (I : Inv X pins σ H s) (u : Un (frs X.stack) ch H H' s.heap h') (hok : HOk X.prog X.w H' h') (hg : AllBare g')
    (hch : ∀ b ∈ ch, (b ∈ X.ex ∨ X.s₀.heap.objs.size ≤ b) ∧ b ≠ X.env.locals ∧ (∀ x c, X.env.cells.lookup x = some c → c ≠ b) ∧ ∀ p ∈ X.pn ++ pins, p.1 ≠ b) :
    Inv X pins σ H' { s with heap := h', gens := g', drawn := d', toks := t' } := by
  obtain ⟨m, ⟨o, es, ep, ho, r⟩, _⟩ := id I.loc
  obtain ⟨sl, hL⟩ := u.any ho I.free fun z => (hch _ z).2.1 rfl
  exact I.step (ch := ch) hch (fun b o hL hb hc e n => u.keep b o e n (fun z => (List.mem_cons.mp (I.stkSub b z)).elim hL hb) hc) (fun b o _ _ hc e n => u.any e n hc) (fun b o hc e n => u.free b o e n hc) (fun b o hc e => u.there b o e hc) u.tups u.frzs u.tbls (fun m' hm => by
    obtain ⟨o', es', ep', ho', r'⟩ := hm
    rw [ho] at ho'; cases ho'
    exact ⟨_, es', ep', hL, r'⟩) hok hg
/-- an untracked record of ours (an iterator) has turned -/
theorem Inv.turned {t' : Nat} {it : Addr} (I : Inv X pins σ H s) (k : ∀ b o, b ≠ it → s.heap.get? b = some o → h'.get? b = some o) (hn : H it = none) (hL : it ≠ X.env.locals)
    (h1 : it ∈ X.ex ∨ X.s₀.heap.objs.size ≤ it) (h2 : ∀ x c, X.env.cells.lookup x = some c → c ≠ it) (h3 : ∀ p ∈ X.pn ++ pins, p.1 ≠ it) : Inv X pins σ H { s with heap := h', toks := t' } := by
  have nit : ∀ b u, H b = some u → b ≠ it := fun b u e z => by rw [z, hn] at e; cases e
  refine I.step (g' := s.gens) (d' := s.drawn) (ch := [it]) (fun b hb => ?_) (fun b o _ _ hc e _ => k b o (fun z => hc (by simp [z])) e) (fun b o _ _ hc e _ => ⟨o.slots, k b o (fun z => hc (by simp [z])) e⟩) (fun _ _ _ _ n => n)
    (fun b o hc e => ⟨o, k b o (fun z => hc (by simp [z])) e⟩) (fun _ _ e => e) (fun _ _ _ e => e) (fun b ps e => ⟨#[], by rw [e]; simp⟩) (fun m hm => ?_) (fun b u e => ?_) I.bare
  · have e : b = it := by simpa using hb
    subst e
    exact ⟨h1, hL, h2, h3⟩
  · obtain ⟨o, es, ep, ho, r⟩ := hm
    exact ⟨o, es, ep, k _ o (Ne.symm hL) ho, r⟩
  · refine (I.hok b u e).stay (fun c v hc q => k c v ?_ q) (fun _ q => q) fun _ _ q => q
    rcases hc with z | z
    · rw [z]; exact nit b u e
    · exact nit c _ z
theorem Inv.tok (I : Inv X pins σ H s) (t : Nat) : Inv X pins σ H { s with toks := t } := I.un (h' := s.heap) (t' := t) Un.refl I.hok
/-- all objects kept -/
theorem Inv.kept {t' : Nat} (I : Inv X pins σ H s) (k : ∀ b u, s.heap.get? b = some u → h'.get? b = some u) : Inv X pins σ H { s with heap := h', toks := t' } := I.un (Un.kept k) (I.hok.kept k)
/-- a new object laid and tracked -/
theorem Inv.laid {a : Addr} {o : HO} {t' : Nat} (I : Inv X pins σ H s) (k : ∀ b u, s.heap.get? b = some u → h'.get? b = some u) (hp : s.heap.objs.size ≤ a) (new : ObjOk X.prog X.w (upd H a o) h' a o) :
    Inv X pins σ (upd H a o) { s with heap := h', toks := t' } := I.un (Un.laid k hp (I.hok.fresh hp)) (I.hok.laid k hp new)
/-- an object written -/
theorem Inv.write {x e : Addr} {o : HO} {t' : Nat} (I : Inv X pins σ H s) (mu : Mut (H x)) (he : e = x ∨ H e = some (.own x)) (k : ∀ b u, b ≠ e → s.heap.get? b = some u → h'.get? b = some u) (heo : ∃ u, h'.get? e = some u)
    (new : ObjOk X.prog X.w (upd H x o) h' x o) : Inv X pins σ (upd H x o) { s with heap := h', toks := t' } := I.un (Un.write mu he k heo) (I.hok.write mu he k heo new)
/-- forgetting slots, pins -/
theorem Inv.weak {σ' : List (Option V)} (I : Inv X pins σ H s) (hl : σ'.length = σ.length) (w : ∀ (i : Nat) v, σ'[i]? = some (some v) → σ[i]? = some (some v)) : Inv X pins σ' H s :=
  ⟨I.ok, I.os, I.bare, I.base, let ⟨m, hn, hl'⟩ := I.loc; ⟨m, hn, fun i x v e1 e2 e3 => hl' i x v e1 (w i v e2) e3⟩, I.cell, I.free, I.freeC, I.pin, I.hok, hl.trans I.len⟩
theorem Inv.pins_of {pins' : List (Addr × Obj)} (I : Inv X pins σ H s) (h : ∀ p ∈ pins', s.heap.get? p.1 = some p.2 ∧ H p.1 = none ∧ p.1 ≠ X.env.locals ∧ p.1 ∉ X.fs ∧ ∀ v, p.2.data ≠ .cell v) : Inv X pins' σ H s :=
  ⟨I.ok, I.os, I.bare, I.base, I.loc, I.cell, I.free, I.freeC, fun p hp => (List.mem_append.mp hp).elim (fun z => I.pin p (List.mem_append_left _ z)) (h p), I.hok, I.len⟩

theorem nodup_ix {N : List Str} (hN : N.Nodup) {i j : Nat} {x : Str} (a : N[i]? = some x) (b : N[j]? = some x) : i = j := by
  obtain ⟨h1, e1⟩ := List.getElem?_eq_some_iff.mp a
  obtain ⟨h2, e2⟩ := List.getElem?_eq_some_iff.mp b
  exact (List.getElem_inj hN).mp (e1.trans e2.symm)

/-- a name is stored; what changed -/
theorem store_ok2 {M : Model} {A : Around} {E : Value → Shared → Prop} {i : Nat} {x : Str} {v : V} {u : Value} {Q : Unit → Shared → Prop} (I : Inv X pins σ H s) (hN : X.N.Nodup) (hi : X.N[i]? = some x) (hx : Loc X.env.scope x) (r : RelV v u)
    (h : ∀ s', Inv X pins (σ.set i (some v)) H s' → (∃ a, Heap.SameBut a s.heap s'.heap ∧ (a = X.env.locals ∨ X.env.cells.lookup x = some a)) → Q () s') (hf : X.fn x = true ∨ X.env.scope.names.lookup x = some .local := by first | exact .inl rfl | exact .inr rfl | assumption) : wpAny M A (storeName X.env x u) Q E s := by
  obtain ⟨m, hn, hl⟩ := id I.loc
  have hcls : (X.env.scope.kind == .class || (X.env.scope.kind == .module && X.env.locals != X.env.globals)) = false := by rw [I.ok.kind]; rfl
  have hiσ : i < σ.length := by rw [I.len]; exact (List.getElem?_eq_some_iff.mp hi).1
  have cne := I.cne
  have tracked : ∀ {a : Addr} {h' : Heap}, (∃ o, s.heap.get? a = some o ∧ H a = none) → Heap.SameBut a s.heap h' → HOk X.prog X.w H h' := fun {a h'} ha hs b ob e => by
    obtain ⟨_, _, hfree⟩ := ha
    refine (I.hok b ob e).stay (fun c w' hc q => (hs.2 c ?_).trans q) (fun _ q => q) fun _ _ q => q
    rintro rfl
    rcases hc with rfl | hc
    · rw [hfree] at e; cases e
    · rw [hfree] at hc; cases hc
  rcases hx with hk | hk
  · refine wpAny_storeName_local hk hn (fun h' hn' hs => ?_) hcls
    obtain ⟨oL, _, _, hoL, _⟩ := id hn
    refine h _ ⟨I.ok, I.os, I.bare, ⟨fun b o e n hb hx => ?_, fun b o e n hb hx => ?_, I.base.free, fun b o e hx => ?_, I.base.tups, I.base.frzs, I.base.tbls⟩, ⟨_, hn', fun j y v' e1 e2 e3 => ?_⟩, fun y c e => ?_, I.free, I.freeC, fun p hp => ?_, tracked ⟨oL, hoL, I.free⟩ hs, by simpa using I.len⟩ ⟨_, hs, .inl rfl⟩
    · exact (hs.2 b (Nat.ne_of_lt (Nat.lt_of_lt_of_le (Heap.lt_size e) I.ok.above))).trans (I.base.keep b o e n hb hx)
    · obtain ⟨sl, e1⟩ := I.base.slot b o e n hb hx
      exact ⟨sl, (hs.2 b (Nat.ne_of_lt (Nat.lt_of_lt_of_le (Heap.lt_size e) I.ok.above))).trans e1⟩
    · obtain ⟨o', e1⟩ := I.base.there b o e hx
      exact ⟨o', (hs.2 b (Nat.ne_of_lt (Nat.lt_of_lt_of_le (Heap.lt_size e) I.ok.above))).trans e1⟩
    · by_cases hj : j = i
      · subst hj
        rw [hi] at e1; cases e1
        rw [List.getElem?_set_self hiσ] at e2
        cases e2
        exact ⟨u, r, .inl ⟨hk, by simp⟩⟩
      · rw [List.getElem?_set_ne (Ne.symm hj)] at e2
        obtain ⟨u', r', q⟩ := hl j y v' e1 e2 e3
        refine ⟨u', r', ?_⟩
        rcases q with ⟨k, e⟩ | ⟨k, c, e, z⟩
        · refine .inl ⟨k, ?_⟩
          have : y ≠ x := fun e => hj (nodup_ix hN e1 (e ▸ hi))
          simp [this, e]
        · exact .inr ⟨k, c, e, z.sameBut hs (cne y c e)⟩
    · obtain ⟨w', z⟩ := I.cell y c e
      exact ⟨w', z.sameBut hs (cne y c e)⟩
    · obtain ⟨e, n, ne, nf, d⟩ := I.pin p hp
      exact ⟨(hs.2 p.1 ne).trans e, n, ne, nf, d⟩
  · have hfn : X.fn x = true := by
      rcases hf with z | z
      · exact z
      · rw [z] at hk; cases hk
    obtain ⟨c, hc⟩ := I.ok.has x (.inl hk)
    obtain ⟨w', z⟩ := I.cell x c hc
    refine wpAny_storeName_cell I.ok.kind hk hc z (fun h' hc' hs => ?_)
    obtain ⟨oc, hoc, hocd⟩ := id z
    refine h { s with heap := h' } ⟨I.ok, I.os, I.bare, ⟨fun b o e n hb hx => ?_, fun b o e n hb hx => ?_, I.base.free, fun b o e hx => ?_, I.base.tups, I.base.frzs, I.base.tbls⟩, ⟨m, hn.sameBut hs (Ne.symm (cne x c hc)), fun j y v' e1 e2 e3 => ?_⟩, fun y c' e => ?_, I.free, I.freeC, fun p hp => ?_, tracked ⟨oc, hoc, I.freeC x c hc⟩ hs, by simpa using I.len⟩ ⟨c, hs, .inr hc⟩
    · exact (hs.2 b (Nat.ne_of_lt (Nat.lt_of_lt_of_le (Heap.lt_size e) (I.ok.cab x c hfn hc)))).trans (I.base.keep b o e n hb hx)
    · obtain ⟨sl, e1⟩ := I.base.slot b o e n hb hx
      exact ⟨sl, (hs.2 b (Nat.ne_of_lt (Nat.lt_of_lt_of_le (Heap.lt_size e) (I.ok.cab x c hfn hc)))).trans e1⟩
    · obtain ⟨o', e1⟩ := I.base.there b o e hx
      exact ⟨o', (hs.2 b (Nat.ne_of_lt (Nat.lt_of_lt_of_le (Heap.lt_size e) (I.ok.cab x c hfn hc)))).trans e1⟩
    · by_cases hj : j = i
      · subst hj
        rw [hi] at e1; cases e1
        rw [List.getElem?_set_self hiσ] at e2
        cases e2
        exact ⟨u, r, .inr ⟨.inl hk, c, hc, hc'⟩⟩
      · rw [List.getElem?_set_ne (Ne.symm hj)] at e2
        obtain ⟨u', r', q⟩ := hl j y v' e1 e2 e3
        refine ⟨u', r', ?_⟩
        rcases q with q | ⟨k, c', e, z'⟩
        · exact .inl q
        · refine .inr ⟨k, c', e, z'.sameBut hs ?_⟩
          rintro rfl
          exact hj (nodup_ix hN e1 (I.ok.inj _ _ _ e hc ▸ hi))
    · by_cases hcc : c' = c
      · subst hcc; exact ⟨_, hc'⟩
      · obtain ⟨w2, z2⟩ := I.cell y c' e
        exact ⟨w2, z2.sameBut hs hcc⟩
    · obtain ⟨e, n, ne, nf, d⟩ := I.pin p hp
      refine ⟨(hs.2 p.1 ?_).trans e, n, ne, nf, d⟩
      intro q
      rw [q, hoc] at e
      have q' : oc = p.2 := Option.some.inj e
      exact d w' (by rw [← q']; exact hocd)
theorem store_ok {M : Model} {A : Around} {E : Value → Shared → Prop} {i : Nat} {x : Str} {v : V} {u : Value} {Q : Unit → Shared → Prop} (I : Inv X pins σ H s) (hN : X.N.Nodup) (hi : X.N[i]? = some x) (hx : Loc X.env.scope x) (r : RelV v u)
    (h : ∀ s', Inv X pins (σ.set i (some v)) H s' → Q () s') (hf : X.fn x = true ∨ X.env.scope.names.lookup x = some .local := by first | exact .inl rfl | exact .inr rfl | assumption) : wpAny M A (storeName X.env x u) Q E s :=
  store_ok2 I hN hi hx r (fun s' I' _ => h s' I') hf
/-- behind a call or a block, the state as it is -/
theorem Inv.call' {s' : Shared} {ch : List Addr} (I : Inv X pins σ H s) (ho : s'.os = s.os) (u : Un (frs X.stack) ch H H' s.heap s'.heap) (hok : HOk X.prog X.w H' s'.heap) (hg : AllBare s'.gens)
    (hch : ∀ b ∈ ch, (b ∈ X.ex ∨ X.s₀.heap.objs.size ≤ b) ∧ b ≠ X.env.locals ∧ (∀ x c, X.env.cells.lookup x = some c → c ≠ b) ∧ ∀ p ∈ X.pn ++ pins, p.1 ≠ b) : Inv X pins σ H' s' := by
  obtain ⟨h', g', d', t', o'⟩ := s'
  have e : o' = s.os := ho
  subst e
  exact I.call (g' := g') (t' := t') (d' := d') u hok hg hch
end

/-! ### the judgements -/
/-- an exception: its class, its own dict's address (where it has one), the abstract heap behind it -/
abbrev XK := Value → Option Addr → Hp → Prop
abbrev St := List (Option V)
abbrev VK := V → Hp → Prop
/-- an expression's reading; a test's; an argument list's -/
abbrev TE := St → Hp → VK → Prop
abbrev TT := St → Hp → (Bool → Hp → Prop) → Prop
abbrev TA := St → Hp → (List V → Hp → Prop) → Prop
/-- what is wanted behind a statement -/
structure Ends where
  nx : St → Hp → Prop
  rt : VK
  bk : St → Hp → Prop := fun _ _ => False
  ct : St → Hp → Prop := fun _ _ => False
abbrev TS := Ends → St → Hp → Prop

def EP (X : Cx) (pins : List (Addr × Obj)) (σ : St) (Q : VK) (u : Value) (s' : Shared) : Prop := ∃ v H', Inv X pins σ H' s' ∧ RelV v u ∧ Q v H'
def TP (X : Cx) (pins : List (Addr × Obj)) (σ : St) (Q : Bool → Hp → Prop) (b : Bool) (s' : Shared) : Prop := ∃ H', Inv X pins σ H' s' ∧ Q b H'
def AP (X : Cx) (pins : List (Addr × Obj)) (σ : St) (Q : List V → Hp → Prop) (us : List Value) (s' : Shared) : Prop := ∃ vs H', Inv X pins σ H' s' ∧ Vals vs us ∧ Q vs H'
def SP (X : Cx) (pins : List (Addr × Obj)) (D : Ends) (f : Flow) (s' : Shared) : Prop :=
  match f with
  | .next => ∃ σ' H', Inv X pins σ' H' s' ∧ D.nx σ' H'
  | .brk => ∃ σ' H', Inv X pins σ' H' s' ∧ D.bk σ' H'
  | .cont => ∃ σ' H', Inv X pins σ' H' s' ∧ D.ct σ' H'
  | .ret u => ∃ v σ' H', Inv X pins σ' H' s' ∧ RelV v u ∧ D.rt v H'

def PE (X : Cx) (e : Expr) (t : TE) : Prop :=
  ∀ (pins : List (Addr × Obj)) (s : Shared) (σ : St) (H : Hp) (Q : VK), Inv X pins σ H s → t σ H Q → wpAny (model X.prog X.w) X.A (eval e X.env) (EP X pins σ Q) X.xe s
def PT (X : Cx) (e : Expr) (t : TT) : Prop :=
  ∀ (pins : List (Addr × Obj)) (s : Shared) (σ : St) (H : Hp) (Q : Bool → Hp → Prop), Inv X pins σ H s → t σ H Q → wpAny (model X.prog X.w) X.A (isTrue e X.env (eval e X.env)) (TP X pins σ Q) X.xe s
/-- a test whatever its 'whole' is (and, or) -/
def PW (X : Cx) (e : Expr) (t : TT) : Prop :=
  ∀ (whole : Sem Value) (pins : List (Addr × Obj)) (s : Shared) (σ : St) (H : Hp) (Q : Bool → Hp → Prop), Inv X pins σ H s → t σ H Q → wpAny (model X.prog X.w) X.A (isTrue e X.env whole) (TP X pins σ Q) X.xe s
theorem PW.pt {X : Cx} {e : Expr} {t : TT} (h : PW X e t) : PT X e t := h _
/-- an argument list (no star), from the left -/
def PA (X : Cx) (es : List Expr) (t : TA) : Prop :=
  ∀ (pos : Pos) (pins : List (Addr × Obj)) (s : Shared) (σ : St) (H : Hp) (Q : List V → Hp → Prop), Inv X pins σ H s → t σ H Q → wpAny (model X.prog X.w) X.A (spliced (backTo pos (starEach es X.env))) (AP X pins σ Q) X.xe s
def PS (X : Cx) (st : Stmt) (t : TS) : Prop :=
  ∀ (pins : List (Addr × Obj)) (s : Shared) (σ : St) (H : Hp) (D : Ends), Inv X pins σ H s → t D σ H → wpAny (model X.prog X.w) X.A (exec st X.env) (SP X pins D) X.xe s
def PSs (X : Cx) (st : List Stmt) (t : TS) : Prop :=
  ∀ (pins : List (Addr × Obj)) (s : Shared) (σ : St) (H : Hp) (D : Ends), Inv X pins σ H s → t D σ H → wpAny (model X.prog X.w) X.A (execs st X.env) (SP X pins D) X.xe s
/-- weaken the end -/
theorem thn {α : Type} {t : Sem α} {Q Q' : α → Shared → Prop} {M : Model} {A : Around} {E : Value → Shared → Prop} {s : Shared} (h : wpAny M A t Q E s) (hQ : ∀ a s, Q a s → Q' a s) : wpAny M A t Q' E s := wpAny_mono h hQ fun _ _ x => x
end L2

namespace L2
open PySem PySem.Spec PyProof.Rows
section
variable {X : Cx}

/-- two expressions in a row -/
theorem bin {a b : Expr} {ta tb : TE} (ha : PE X a ta) (hb : PE X b tb) {pins : List (Addr × Obj)} {s : Shared} {σ : St} {H : Hp} {R : V → V → Hp → Prop} (I : Inv X pins σ H s) (h : ta σ H fun x H1 => tb σ H1 fun y H2 => R x y H2)
    {α : Type} {Q : α → Shared → Prop} {f : Value → Value → Sem α}
    (hf : ∀ v u s2 x y H2, Inv X pins σ H2 s2 → RelV x v → RelV y u → R x y H2 → wpAny (model X.prog X.w) X.A (f v u) Q X.xe s2) :
    wpAny (model X.prog X.w) X.A (eval a X.env) (fun v s₁ => wpAny (model X.prog X.w) X.A (eval b X.env) (fun u s₂ => wpAny (model X.prog X.w) X.A (f v u) Q X.xe s₂) X.xe s₁) X.xe s := by
  refine thn (ha pins s σ H _ I h) fun v s1 ⟨x, H1, I1, r1, q1⟩ => ?_
  refine thn (hb pins s1 σ H1 _ I1 q1) fun u s2 ⟨y, H2, I2, r2, q2⟩ => ?_
  exact hf v u s2 x y H2 I2 r1 r2 q2

/-! ### names and constants -/
def tVar (i : Nat) : TE := fun σ H Q => ∃ v, σ[i]? = some (some v) ∧ Q v H
def tC (v : V) : TE := fun _ H Q => Q v H
theorem pe_var {i : Nat} {x : Str} {pos : Pos} (hN : X.N[i]? = some x) (hv : Vis X.env.scope x) (hd : (x == ("__debug__" : Str)) = false := by decide) (hcd : (x == ("__classdict__" : Str)) = false := by decide) : PE X (.Name x pos) (tVar i) := by
  intro pins s σ H Q I h
  obtain ⟨v, e, h⟩ := h
  obtain ⟨m, hn, hl⟩ := I.loc
  obtain ⟨u, r, l⟩ := hl i x v hN e hv
  have fin : EP X pins σ Q u s := ⟨v, H, I, r, h⟩
  rcases l with ⟨hk, hm⟩ | ⟨hk, c, hc, hcell⟩
  · exact wpAny_Name (wpAny_loadName_local I.ok.kind hk hn hm fin) hd
  · rcases hk with hk | hk
    · exact wpAny_Name (wpAny_loadName_cell I.ok.kind hk hc hcell fin) hd
    · exact wpAny_Name (wpAny_loadName_free I.ok.kind hk hc hcell fin hcd) hd
theorem pe_int {i j pos} : PE X (.Constant (.int i) j pos) (tC (.int i)) := fun _ _ _ H _ I h => wpAny_Constant_int ⟨.int i, H, I.tok _, ⟨_, rfl⟩, h⟩
theorem pe_bl {b j pos} : PE X (.Constant (.bool b) j pos) (tC (.bl b)) := fun _ _ _ H _ I h => Constant_bool ⟨.bl b, H, I, rfl, h⟩
theorem pe_non {j pos} : PE X (.Constant .none j pos) (tC .non) := fun _ _ _ H _ I h => Constant_none ⟨.non, H, I, rfl, h⟩
theorem pe_str {x j pos} : PE X (.Constant (.str x) j pos) (tC (.str x)) := fun _ _ _ H _ I h => Calls.Constant_str ⟨.str x, H, I.tok _, ⟨_, rfl⟩, h⟩

/-- a global name of the def -/
def Gl (X : Cx) (x : Str) : Prop := X.env.kindOf x = some .globalImplicit
theorem ld_glob {E : Value → Shared → Prop} {pins : List (Addr × Obj)} {s : Shared} {σ : St} {H : Hp} {x : Str} {u : Value} {pos : Pos} {Q : Value → Shared → Prop} (I : Inv X pins σ H s) (hg : Gl X x) (hm : X.mg x = some u) (h : Q u s)
    (hd : (x == ("__debug__" : Str)) = false := by decide) : wpAny (model X.prog X.w) X.A (eval (.Name x pos) X.env) Q E s :=
  Calls.Name_function_global I.ok.kind hg (Calls.loadGlobal_global (by rw [I.ok.glob]; exact I.mod.glob.keeps I.bk) hm h) hd
theorem ld_blt {E : Value → Shared → Prop} {pins : List (Addr × Obj)} {s : Shared} {σ : St} {H : Hp} {x : Str} {u : Value} {pos : Pos} {Q : Value → Shared → Prop} (I : Inv X pins σ H s) (hg : Gl X x) (hm : X.mg x = none) (hv : bootBuiltins x = some u) (h : Q u s)
    (hn : x ≠ "__name__" := by decide) (hd : (x == ("__debug__" : Str)) = false := by decide) : wpAny (model X.prog X.w) X.A (eval (.Name x pos) X.env) Q E s := by
  obtain ⟨mb, h1, h2⟩ := I.mod.blt
  exact Calls.Name_function_global I.ok.kind hg (Calls.loadGlobal_builtin (by rw [I.ok.glob]; exact I.mod.glob.keeps I.bk) hm (by rw [I.ok.blt]; exact h1.keeps I.bk) ((h2 x hn).trans hv) h) hd
/-- a module's constant, a class, a function, as a value -/
theorem pe_glob {x : Str} {v : V} {u : Value} {pos : Pos} (hg : Gl X x) (hm : X.mg x = some u) (r : RelV v u) (hd : (x == ("__debug__" : Str)) = false := by decide) : PE X (.Name x pos) (tC v) :=
  fun _ _ _ H _ I h => ld_glob I hg hm ⟨v, H, I, r, h⟩ hd
theorem pe_bltn {x : Str} {v : V} {u : Value} {pos : Pos} (hg : Gl X x) (hm : X.mg x = none) (hv : bootBuiltins x = some u) (r : RelV v u) (hn : x ≠ "__name__" := by decide) (hd : (x == ("__debug__" : Str)) = false := by decide) : PE X (.Name x pos) (tC v) :=
  fun _ _ _ H _ I h => ld_blt I hg hm hv ⟨v, H, I, r, h⟩ hn hd

/-! ### arithmetic -/
/-- two ints -/
def t2I (ta tb : TE) (k : Int → Int → Hp → Prop) : St → Hp → Prop := fun σ H => ta σ H fun x H1 => tb σ H1 fun y H2 => ∃ i j, x = .int i ∧ y = .int j ∧ k i j H2
def tAdd (ta tb : TE) : TE := fun σ H Q => t2I ta tb (fun i j H2 => Q (.int (i + j)) H2) σ H
def tSub (ta tb : TE) : TE := fun σ H Q => t2I ta tb (fun i j H2 => Q (.int (i - j)) H2) σ H
/-- the left factor below 2^64 -/
def tMul (ta tb : TE) : TE := fun σ H Q => t2I ta tb (fun i j H2 => (-(2 ^ 64) < i ∧ i < 2 ^ 64) ∧ Q (.int (i * j)) H2) σ H
variable {a b : Expr} {ta tb : TE} {pos : Pos}
theorem pe_add (ha : PE X a ta) (hb : PE X b tb) : PE X (.BinOp a .Add b pos) (tAdd ta tb) := by
  intro pins s σ H Q I h
  refine wpAny_BinOp (bin ha hb I h fun v u s2 x y H2 I2 rx ry q => ?_)
  obtain ⟨i, j, rfl, rfl, q⟩ := q
  obtain ⟨t, rfl⟩ := rx
  obtain ⟨t', rfl⟩ := ry
  exact add_int ⟨.int _, H2, I2.tok _, ⟨_, rfl⟩, q⟩
theorem pe_sub (ha : PE X a ta) (hb : PE X b tb) : PE X (.BinOp a .Sub b pos) (tSub ta tb) := by
  intro pins s σ H Q I h
  refine wpAny_BinOp (bin ha hb I h fun v u s2 x y H2 I2 rx ry q => ?_)
  obtain ⟨i, j, rfl, rfl, q⟩ := q
  obtain ⟨t, rfl⟩ := rx
  obtain ⟨t', rfl⟩ := ry
  exact sub_int ⟨.int _, H2, I2.tok _, ⟨_, rfl⟩, q⟩
theorem pe_mul (ha : PE X a ta) (hb : PE X b tb) : PE X (.BinOp a .Mult b pos) (tMul ta tb) := by
  intro pins s σ H Q I h
  refine wpAny_BinOp (bin ha hb I h fun v u s2 x y H2 I2 rx ry q => ?_)
  obtain ⟨i, j, rfl, rfl, ⟨q1, q2⟩, q⟩ := q
  obtain ⟨t, rfl⟩ := rx
  obtain ⟨t', rfl⟩ := ry
  exact mul_int ⟨.int _, H2, I2.tok _, ⟨_, rfl⟩, q⟩ (.of_left (intBits_le_64 q1 q2))

/-! ### comparisons -/
def PC (X : Cx) (op : CmpOp) (a b : Expr) (t : TE) : Prop :=
  ∀ (pins : List (Addr × Obj)) (s : Shared) (σ : St) (H : Hp) (Q : VK), Inv X pins σ H s → t σ H Q →
    wpAny (model X.prog X.w) X.A (eval a X.env) (fun v s₁ => wpAny (model X.prog X.w) X.A (eval b X.env) (fun u s₂ => wpAny (model X.prog X.w) X.A (compareOp op v u) (EP X pins σ Q) X.xe s₂) X.xe s₁) X.xe s
theorem nobehind (b : Expr) {op : CmpOp} (h : op ≠ .In) (h2 : op ≠ .NotIn) : behindInMarks op b = false := by
  have e1 : (op == CmpOp.In) = false := by cases op <;> first | rfl | exact absurd rfl h
  have e2 : (op == CmpOp.NotIn) = false := by cases op <;> first | rfl | exact absurd rfl h2
  cases b <;> simp [behindInMarks, e1, e2]
def tCmp (p : Int → Int → Bool) (ta tb : TE) : TE := fun σ H Q => t2I ta tb (fun i j H2 => Q (.bl (p i j)) H2) σ H
abbrev tLt : TE → TE → TE := tCmp fun i j => decide (i < j)
abbrev tLe : TE → TE → TE := tCmp fun i j => decide (i ≤ j)
abbrev tGt : TE → TE → TE := tCmp fun i j => decide (j < i)
abbrev tGe : TE → TE → TE := tCmp fun i j => decide (j ≤ i)
abbrev tEqI : TE → TE → TE := tCmp fun i j => decide (i = j)
abbrev tNeI : TE → TE → TE := tCmp fun i j => !decide (i = j)
/-- a comparison of two ints, by its rule -/
theorem pc_int {op : CmpOp} {p : Int → Int → Bool} (ha : PE X a ta) (hb : PE X b tb)
    (rule : ∀ (i j : Int) (t u : Tok) (Q : Value → Shared → Prop) (s : Shared), Q (.bool (p i j)) s → wpAny (model X.prog X.w) X.A (compareOp op (.int i t) (.int j u)) Q X.xe s) : PC X op a b (tCmp p ta tb) := by
  intro pins s σ H Q I h
  refine bin ha hb I h fun v u s2 x y H2 I2 rx ry q => ?_
  obtain ⟨i, j, rfl, rfl, q⟩ := q
  obtain ⟨t, rfl⟩ := rx
  obtain ⟨t', rfl⟩ := ry
  exact rule i j t t' _ s2 ⟨.bl _, H2, I2, rfl, q⟩
theorem pc_lt (ha : PE X a ta) (hb : PE X b tb) : PC X .Lt a b (tLt ta tb) := pc_int ha hb fun _ _ _ _ _ _ h => lt_int h
theorem pc_le (ha : PE X a ta) (hb : PE X b tb) : PC X .LtE a b (tLe ta tb) := pc_int ha hb fun _ _ _ _ _ _ h => le_int h
theorem pc_gt (ha : PE X a ta) (hb : PE X b tb) : PC X .Gt a b (tGt ta tb) := pc_int ha hb fun _ _ _ _ _ _ h => gt_int h
theorem pc_ge (ha : PE X a ta) (hb : PE X b tb) : PC X .GtE a b (tGe ta tb) := pc_int ha hb fun _ _ _ _ _ _ h => ge_int h
theorem pc_eqI (ha : PE X a ta) (hb : PE X b tb) : PC X .Eq a b (tEqI ta tb) := pc_int ha hb fun _ _ _ _ _ _ h => eq_int (by rw [Bool.beq_eq_decide_eq]; exact h)
theorem pc_neI (ha : PE X a ta) (hb : PE X b tb) : PC X .NotEq a b (tNeI ta tb) := pc_int ha hb fun _ _ _ _ _ _ h => ne_int (by rw [bne, Bool.beq_eq_decide_eq]; exact h)
/-- is None -/
def tIsN (ta : TE) : TE := fun σ H Q => ta σ H fun x H1 => Q (.bl (decide (x = .non))) H1
def tNotN (ta : TE) : TE := fun σ H Q => ta σ H fun x H1 => Q (.bl (!decide (x = .non))) H1
theorem RelV.none_iff {x : V} {v : Value} (r : RelV x v) : (v == Value.none) = decide (x = .non) := by
  cases x with
  | non => cases r; rfl
  | bl _ => cases r; rfl
  | int _ => obtain ⟨t, rfl⟩ := r; rfl
  | str _ => obtain ⟨t, rfl⟩ := r; rfl
  | byt _ => obtain ⟨t, rfl⟩ := r; rfl
  | flt _ => obtain ⟨t, rfl⟩ := r; rfl
  | ref _ => cases r; rfl
  | ty _ => cases r; rfl
theorem pc_isN {j pos'} (ha : PE X a ta) : PC X .Is a (.Constant .none j pos') (tIsN ta) := by
  intro pins s σ H Q I h
  refine thn (ha pins s σ H _ I h) fun v s1 ⟨x, H1, I1, r1, q1⟩ => ?_
  exact Constant_none (is_none_gen ⟨.bl _, H1, I1, by rw [r1.none_iff]; rfl, q1⟩)
theorem pc_notN {j pos'} (ha : PE X a ta) : PC X .IsNot a (.Constant .none j pos') (tNotN ta) := by
  intro pins s σ H Q I h
  refine thn (ha pins s σ H _ I h) fun v s1 ⟨x, H1, I1, r1, q1⟩ => ?_
  exact Constant_none (isnot_none_gen ⟨.bl _, H1, I1, by rw [r1.none_iff]; rfl, q1⟩)
/-- a comparison as a value, as a test -/
def tB (t : TE) : TT := fun σ H Q => t σ H fun x H1 => ∃ c, x = .bl c ∧ Q c H1
theorem pe_cmp {op : CmpOp} {t : TE} (h : PC X op a b t) (h1 : behindInMarks op b = false := by first | exact nobehind _ (by decide) (by decide) | rfl) : PE X (.Compare a [op] [b] pos) t := fun pins s σ H Q I hw => wpAny_Compare1 (h pins s σ H Q I hw) h1
theorem pt_cmp {op : CmpOp} {t : TE} (h : PC X op a b t) (h1 : behindInMarks op b = false := by first | exact nobehind _ (by decide) (by decide) | rfl) : PT X (.Compare a [op] [b] pos) (tB t) := by
  intro pins s σ H Q I hw
  refine wpAny_isTrue_Compare1 (thn (h pins s σ H _ I hw) fun v s1 h1 => thn h1 fun u s2 h2 => thn h2 fun c s3 ⟨x, H1, I1, r1, q1⟩ => ?_) h1
  obtain ⟨d, rfl, q⟩ := q1
  cases r1
  exact wpAny_truthy_bool ⟨H1, I1, q⟩
/-- an expression whose value is a bool, as a test -/
theorem pt_val {e : Expr} {t : TE} (h : PE X e t) (he : ∀ whole, isTrue e X.env whole = (do let v ← whole; standAt e.pos; holding [v] (truthy v)) := by intro _; rfl) : PT X e (tB t) := by
  intro pins s σ H Q I hw
  refine isTrue_plain (thn (h pins s σ H _ I hw) fun v s1 ⟨x, H1, I1, r1, q1⟩ => ?_) (he _)
  obtain ⟨d, rfl, q⟩ := q1
  cases r1
  exact wpAny_truthy_bool ⟨H1, I1, q⟩

/-! ### and, or, not -/
variable {tA tB' : TT} {rest : List Expr}
def tAnd (t u : TT) : TT := fun σ H Q => t σ H fun c H1 => if c = true then u σ H1 Q else Q false H1
def tOr (t u : TT) : TT := fun σ H Q => t σ H fun c H1 => if c = true then Q true H1 else u σ H1 Q
def tNot (t : TT) : TT := fun σ H Q => t σ H fun c H1 => Q (!c) H1
theorem pw_and1 (ha : PT X a tA) : PW X (.BoolOp .And [a] pos) tA := by
  intro wh pins s σ H Q I h
  refine isTrue_and (thn (ha pins s σ H Q I h) fun c s1 e => ?_)
  cases c with
  | true => exact isTrue_and_nil e
  | false => exact e
theorem pw_or1 (ha : PT X a tA) : PW X (.BoolOp .Or [a] pos) tA := by
  intro wh pins s σ H Q I h
  refine isTrue_or (thn (ha pins s σ H Q I h) fun c s1 e => ?_)
  cases c with
  | false => exact isTrue_or_nil e
  | true => exact e
theorem pw_and (ha : PT X a tA) (hb : PW X (.BoolOp .And (b :: rest) pos) tB') : PW X (.BoolOp .And (a :: b :: rest) pos) (tAnd tA tB') := by
  intro wh pins s σ H Q I h
  refine isTrue_and (thn (ha pins s σ H _ I h) fun c s1 ⟨H1, I1, q1⟩ => ?_)
  cases c with
  | true => exact hb wh pins s1 σ H1 Q I1 q1
  | false => exact ⟨H1, I1, q1⟩
theorem pw_or (ha : PT X a tA) (hb : PW X (.BoolOp .Or (b :: rest) pos) tB') : PW X (.BoolOp .Or (a :: b :: rest) pos) (tOr tA tB') := by
  intro wh pins s σ H Q I h
  refine isTrue_or (thn (ha pins s σ H _ I h) fun c s1 ⟨H1, I1, q1⟩ => ?_)
  cases c with
  | true => exact ⟨H1, I1, q1⟩
  | false => exact hb wh pins s1 σ H1 Q I1 q1
theorem pt_not (ha : PT X a tA) : PT X (.UnaryOp .Not a pos) (tNot tA) := by
  intro pins s σ H Q I h
  exact isTrue_not (ha pins s σ H (fun c H1 => Q (!c) H1) I h)
/-- .. as values (bools) -/
def tAndV (ta tb : TE) : TE := fun σ H Q => ta σ H fun x H1 => ∃ c, x = .bl c ∧ if c = true then tb σ H1 Q else Q (.bl false) H1
def tOrV (ta tb : TE) : TE := fun σ H Q => ta σ H fun x H1 => ∃ c, x = .bl c ∧ if c = true then Q (.bl true) H1 else tb σ H1 Q
def tNotV (ta : TE) : TE := fun σ H Q => ta σ H fun x H1 => ∃ c, x = .bl c ∧ Q (.bl (!c)) H1
theorem pe_one {op} {t : TE} (h : PE X a t) : PE X (.BoolOp op [a] pos) t := fun pins s σ H Q I hw => BoolOp_one (h pins s σ H Q I hw)
theorem pe_and (ha : PE X a ta) (hb : PE X (.BoolOp .And (b :: rest) pos) tb) : PE X (.BoolOp .And (a :: b :: rest) pos) (tAndV ta tb) := by
  intro pins s σ H Q I h
  refine BoolOp_and (thn (ha pins s σ H _ I h) fun v s1 ⟨x, H1, I1, r1, q1⟩ => ?_)
  obtain ⟨c, rfl, q1⟩ := q1
  cases r1
  refine wpAny_truthy_bool ?_
  cases c with
  | true => exact hb pins s1 σ H1 Q I1 q1
  | false => exact ⟨.bl false, H1, I1, rfl, q1⟩
theorem pe_or (ha : PE X a ta) (hb : PE X (.BoolOp .Or (b :: rest) pos) tb) : PE X (.BoolOp .Or (a :: b :: rest) pos) (tOrV ta tb) := by
  intro pins s σ H Q I h
  refine BoolOp_or (thn (ha pins s σ H _ I h) fun v s1 ⟨x, H1, I1, r1, q1⟩ => ?_)
  obtain ⟨c, rfl, q1⟩ := q1
  cases r1
  refine wpAny_truthy_bool ?_
  cases c with
  | false => exact hb pins s1 σ H1 Q I1 q1
  | true => exact ⟨.bl true, H1, I1, rfl, q1⟩
theorem pe_not (ha : PE X a ta) : PE X (.UnaryOp .Not a pos) (tNotV ta) := by
  intro pins s σ H Q I h
  refine UnaryOp_ (thn (ha pins s σ H _ I h) fun v s1 ⟨x, H1, I1, r1, q1⟩ => ?_)
  obtain ⟨c, rfl, q1⟩ := q1
  cases r1
  exact not_of (wpAny_truthy_bool ⟨.bl (!c), H1, I1, rfl, q1⟩)
/-- a if t else b -/
def tIf (t : TT) (ta tb : TE) : TE := fun σ H Q => t σ H fun c H1 => if c = true then ta σ H1 Q else tb σ H1 Q
theorem pe_ifExp {c : Expr} (hc : PT X c tA) (ha : PE X a ta) (hb : PE X b tb) : PE X (.IfExp c a b pos) (tIf tA ta tb) := by
  intro pins s σ H Q I h
  refine wpAny_IfExp (thn (hc pins s σ H _ I h) fun d s1 ⟨H1, I1, q1⟩ => ?_)
  cases d with
  | true => exact ha pins s1 σ H1 Q I1 q1
  | false => exact hb pins s1 σ H1 Q I1 q1
end
end L2

namespace L2
open PySem PySem.Spec PyProof.Rows

/-! ### a list, a tuple that is read: tracked, frozen, or an object of the module -/
def SqL (K : PySem.W.Frag) (H : Hp) (a : Addr) (xs : List V) : Prop :=
  Rd H a (.lst xs) ∨
    ∃ (o : Obj) (its : Array Value) (n : Nat), K.lookup a = some o ∧ o.cls = .type "list" ∧ o.dict = none ∧ o.data = .seq its n ∧ its.size ≤ sizeLine ∧ Vals xs its.toList
def SqT (K : PySem.W.Frag) (H : Hp) (a : Addr) (xs : List V) : Prop :=
  Rd H a (.tup xs) ∨
    ∃ (o : Obj) (its : Array Value) (n : Nat), K.lookup a = some o ∧ o.cls = .type "tuple" ∧ o.data = .seq its n ∧ its.size ≤ sizeLine ∧ Vals xs its.toList
def absV : Value → Option V
  | .none => some .non
  | .bool b => some (.bl b)
  | .int i _ => some (.int i)
  | .str x _ => some (.str x)
  | .bytes b _ => some (.byt b)
  | .float b _ => some (.flt b)
  | .ref a => some (.ref a)
  | .type n => some (.ty n)
  | _ => none
theorem RelV.abs {x : V} {u : Value} (r : RelV x u) : absV u = some x := by
  cases x with
  | non => cases r; rfl
  | bl _ => cases r; rfl
  | int _ => obtain ⟨t, rfl⟩ := r; rfl
  | str _ => obtain ⟨t, rfl⟩ := r; rfl
  | byt _ => obtain ⟨t, rfl⟩ := r; rfl
  | flt _ => obtain ⟨t, rfl⟩ := r; rfl
  | ref _ => cases r; rfl
  | ty _ => cases r; rfl
theorem RelV.inj {x y : V} {u : Value} (r : RelV x u) (q : RelV y u) : x = y := Option.some.inj (r.abs.symm.trans q.abs)
theorem Vals.inj : ∀ {xs ys : List V} {us : List Value}, Vals xs us → Vals ys us → xs = ys
  | _, _, _, .nil, .nil => rfl
  | _, _, _, .cons r t, .cons r' t' => by rw [r.inj r', Vals.inj t t']
section
variable {X : Cx} {pins : List (Addr × Obj)} {σ : St} {H : Hp} {s : Shared} {a : Addr} {xs ys : List V}
theorem SqL.of {K : PySem.W.Frag} (h : H a = some (.lst xs)) : SqL K H a xs := .inl (.inl h)
theorem SqT.of {K : PySem.W.Frag} (h : H a = some (.tup xs)) : SqT K H a xs := .inl (.inl h)
theorem Inv.list (I : Inv X pins σ H s) (h : SqL X.K H a xs) : ∃ its : List Value, Vals xs its ∧ PlainL s.heap a its.toArray ∧ xs.length ≤ sizeLine := by
  rcases h with h | ⟨o, its, n, hk, hc, hd, hs, hz, r⟩
  · obtain ⟨z, its, n, r, e⟩ := h.ok I.hok
    exact ⟨its, r, ⟨_, n, e, rfl, rfl, rfl⟩, z⟩
  · refine ⟨its.toList, r, ⟨o, n, I.kIn a o hk, hc, hd, by simpa using hs⟩, ?_⟩
    have e := r.length
    simp only [Array.length_toList] at e
    omega
theorem Inv.tuple (I : Inv X pins σ H s) (h : SqT X.K H a xs) : ∃ its : List Value, Vals xs its ∧ IsTup s.heap a its.toArray ∧ xs.length ≤ sizeLine := by
  rcases h with h | ⟨o, its, n, hk, hc, hs, hz, r⟩
  · obtain ⟨z, its, r, p⟩ := h.ok I.hok
    exact ⟨its, r, p, z⟩
  · refine ⟨its.toList, r, ⟨o, I.kIn a o hk, hc, n, by simpa using hs⟩, ?_⟩
    have e := r.length
    simp only [Array.length_toList] at e
    omega
theorem Inv.list_inj (I : Inv X pins σ H s) (h : SqL X.K H a xs) (h' : SqL X.K H a ys) : xs = ys := by
  obtain ⟨its, r, ⟨o, n, e, _, _, d⟩, _⟩ := I.list h
  obtain ⟨its', r', ⟨o', n', e', _, _, d'⟩, _⟩ := I.list h'
  rw [e] at e'; cases e'
  rw [d] at d'
  injection d' with d1 _
  have : its = its' := by simpa using congrArg Array.toList d1
  subst this
  exact r.inj r'
theorem Inv.tuple_inj (I : Inv X pins σ H s) (h : SqT X.K H a xs) (h' : SqT X.K H a ys) : xs = ys := by
  obtain ⟨its, r, ⟨o, e, _, n, d⟩, _⟩ := I.tuple h
  obtain ⟨its', r', ⟨o', e', _, n', d'⟩, _⟩ := I.tuple h'
  rw [e] at e'; cases e'
  rw [d] at d'
  injection d' with d1 _
  have : its = its' := by simpa using congrArg Array.toList d1
  subst this
  exact r.inj r'
end

/-! ### another wish about exceptions -/
abbrev Cx.wish (X : Cx) (E : Value → Shared → Prop) : Cx := { X with xe := E }
/-- no exception leaves -/
abbrev Cx.nox (X : Cx) : Cx := X.wish fun _ _ => False
theorem Cx.Ok.wish {X : Cx} (ok : X.Ok) (E : Value → Shared → Prop) : (X.wish E).Ok :=
  ⟨ok.mod, ok.kind, ok.glob, ok.blt, ok.above, ok.inj, ok.has, ok.cab, ok.hd, ok.frames, ok.stk, ok.exf, ok.bs, ok.bsz, ok.noex, ok.exfs, ok.funs, ok.frf⟩
theorem Cx.Ok.unwish {X : Cx} {E : Value → Shared → Prop} (ok : (X.wish E).Ok) : X.Ok :=
  ⟨ok.mod, ok.kind, ok.glob, ok.blt, ok.above, ok.inj, ok.has, ok.cab, ok.hd, ok.frames, ok.stk, ok.exf, ok.bs, ok.bsz, ok.noex, ok.exfs, ok.funs, ok.frf⟩
section
variable {X : Cx} {pins : List (Addr × Obj)} {σ : St} {H : Hp} {s : Shared} {E : Value → Shared → Prop}
theorem Inv.wish (I : Inv X pins σ H s) (E : Value → Shared → Prop) : Inv (X.wish E) pins σ H s := ⟨I.ok.wish E, I.os, I.bare, I.base, I.loc, I.cell, I.free, I.freeC, I.pin, I.hok, I.len⟩
theorem Inv.unwish (I : Inv (X.wish E) pins σ H s) : Inv X pins σ H s := ⟨I.ok.unwish, I.os, I.bare, I.base, I.loc, I.cell, I.free, I.freeC, I.pin, I.hok, I.len⟩
theorem SP.unwish {D : Ends} {f : Flow} {s' : Shared} (h : SP (X.wish E) pins D f s') : SP X pins D f s' := by
  cases f with
  | next => obtain ⟨σ', H', I, q⟩ := h; exact ⟨σ', H', I.unwish, q⟩
  | brk => obtain ⟨σ', H', I, q⟩ := h; exact ⟨σ', H', I.unwish, q⟩
  | cont => obtain ⟨σ', H', I, q⟩ := h; exact ⟨σ', H', I.unwish, q⟩
  | ret u => obtain ⟨v, σ', H', I, r, q⟩ := h; exact ⟨v, σ', H', I.unwish, r, q⟩
theorem PE.nox {e : Expr} {t : TE} (h : PE X.nox e t) : PE X e t := fun pins s σ H Q I hw =>
  wpAny_mono (h pins s σ H Q (I.wish _) hw) (fun _ _ ⟨v, H', I', r, q⟩ => ⟨v, H', I'.unwish, r, q⟩) fun _ _ z => False.elim z
theorem PT.nox {e : Expr} {t : TT} (h : PT X.nox e t) : PT X e t := fun pins s σ H Q I hw =>
  wpAny_mono (h pins s σ H Q (I.wish _) hw) (fun _ _ ⟨H', I', q⟩ => ⟨H', I'.unwish, q⟩) fun _ _ z => False.elim z
theorem PSs.nox {st : List Stmt} {t : TS} (h : PSs X.nox st t) : PSs X st t := fun pins s σ H D I hw =>
  wpAny_mono (h pins s σ H D (I.wish _) hw) (fun _ _ q => q.unwish) fun _ _ z => False.elim z
end

/-! ### blocks and small statements -/
section
variable {X : Cx} {st : Stmt} {rest : List Stmt} {t u : TS} {e : Expr} {te : TE} {pos : Pos}
def tNext : TS := fun D σ H => D.nx σ H
def tSeq (t u : TS) : TS := fun D σ H => t { D with nx := u D } σ H
theorem pss_nil : PSs X [] tNext := fun _ _ σ H _ I h => wpAny_execs_nil ⟨σ, H, I, h⟩
theorem pss_cons (h1 : PS X st t) (h2 : PSs X rest u) : PSs X (st :: rest) (tSeq t u) := by
  intro pins s σ H D I h
  refine wpAny_execs_cons (thn (h1 pins s σ H { D with nx := u D } I h) fun f s1 q => ?_)
  cases f with
  | next =>
    obtain ⟨σ', H', I', q⟩ := q
    exact h2 pins s1 σ' H' D I' q
  | ret v => exact q
  | brk => exact q
  | cont => exact q
theorem pss_one (h1 : PS X st t) : PSs X [st] t := by
  intro pins s σ H D I h
  refine wpAny_execs_cons (thn (h1 pins s σ H D I h) fun f s1 q => ?_)
  cases f with
  | next => exact wpAny_execs_nil q
  | ret v => exact q
  | brk => exact q
  | cont => exact q
def tBreak : TS := fun D σ H => D.bk σ H
def tCont : TS := fun D σ H => D.ct σ H
theorem ps_pass : PS X (.Pass pos) tNext := fun _ _ σ H _ I h => wpAny_Pass ⟨σ, H, I, h⟩
theorem ps_break : PS X (.Break pos) tBreak := fun _ _ σ H _ I h => wpAny_Break ⟨σ, H, I, h⟩
theorem ps_continue : PS X (.Continue pos) tCont := fun _ _ σ H _ I h => wpAny_Continue ⟨σ, H, I, h⟩
/-- in a def's body nothing is shown -/
theorem Inv.quiet {pins : List (Addr × Obj)} {σ : St} {H : Hp} {s : Shared} (I : Inv X pins σ H s) : interactive X.env = false := by simp [interactive, I.ok.kind]
/-- a docstring -/
theorem ps_doc {x j pos pos'} : PS X (.Expr (.Constant (.str x) j pos) pos') tNext := fun _ s σ H _ I h => wpAny_Expr (Calls.Constant_str (show SP X _ _ .next { s with toks := s.toks + 1 } from ⟨σ, H, I.tok _, h⟩)) I.quiet
/-- an expression whose value is dropped -/
def tDrop (te : TE) : TS := fun D σ H => te σ H fun _ H1 => D.nx σ H1
theorem ps_expr (he : PE X e te) (hs : swapsWith e none pos.line X.env = pure false := by rfl) : PS X (.Expr e pos) (tDrop te) := by
  intro pins s σ H D I h
  exact wpAny_Expr_any (thn (he pins s σ H _ I h) fun v s1 ⟨x, H1, I1, r1, q1⟩ => ⟨σ, H1, I1, q1⟩) I.quiet hs
def tRet (te : TE) : TS := fun D σ H => te σ H D.rt
theorem ps_ret (he : PE X e te) : PS X (.Return (some e) pos) (tRet te) := by
  intro pins s σ H D I h
  exact wpAny_Return_some (thn (he pins s σ H _ I h) fun v s1 ⟨x, H1, I1, r1, q1⟩ => ⟨x, σ, H1, I1, r1, q1⟩)
def tRetN : TS := fun D _ H => D.rt .non H
theorem ps_retN : PS X (.Return none pos) tRetN := fun _ _ σ H _ I h => wpAny_Return_none ⟨.non, σ, H, I, rfl, h⟩
def tIfS (c : TT) (t u : TS) : TS := fun D σ H => c σ H fun b H1 => if b = true then t D σ H1 else u D σ H1
theorem ps_if {c : Expr} {a b : List Stmt} {tc : TT} (hc : PT X c tc) (ha : PSs X a t) (hb : PSs X b u) : PS X (.If c a b pos) (tIfS tc t u) := by
  intro pins s σ H D I h
  refine wpAny_If (thn (hc pins s σ H _ I h) fun d s1 ⟨H1, I1, q1⟩ => ?_)
  cases d with
  | true => exact ha pins s1 σ H1 D I1 q1
  | false => exact hb pins s1 σ H1 D I1 q1
/-- code that the proof never comes to -/
def tNever : TS := fun _ _ _ => False
theorem ps_never : PS X st tNever := fun _ _ _ _ _ _ h => h.elim
theorem pss_never {sts : List Stmt} : PSs X sts tNever := fun _ _ _ _ _ _ h => h.elim
end

/-! ### targets -/
abbrev TG := V → St → Hp → (St → Hp → Prop) → Prop
abbrev TGs := List V → St → Hp → (St → Hp → Prop) → Prop
def PG (X : Cx) (target : Expr) (t : TG) : Prop :=
  ∀ (pins : List (Addr × Obj)) (s : Shared) (σ : St) (H : Hp) (v : V) (u : Value) (Q : St → Hp → Prop), Inv X pins σ H s → RelV v u → t v σ H Q →
    wpAny (model X.prog X.w) X.A (assign target X.env u) (fun _ s' => ∃ σ' H', Inv X pins σ' H' s' ∧ Q σ' H') X.xe s
/-- several targets, one after another -/
def PGs (X : Cx) (ts : List Expr) (t : TGs) : Prop :=
  ∀ (pins : List (Addr × Obj)) (s : Shared) (σ : St) (H : Hp) (vs : List V) (us : List Value) (Q : St → Hp → Prop), Inv X pins σ H s → Vals vs us → t vs σ H Q →
    wpAny (model X.prog X.w) X.A (assignInOrder ((assignEach ts X.env).map (·.2)) us) (fun _ s' => ∃ σ' H', Inv X pins σ' H' s' ∧ Q σ' H') X.xe s
/-- o[i] = v, by values -/
abbrev TSet := V → V → V → Hp → (Hp → Prop) → Prop
def PSet (X : Cx) (t : TSet) : Prop :=
  ∀ (pins : List (Addr × Obj)) (s : Shared) (σ : St) (H : Hp) (o i v : V) (ov iv u : Value) (Q : Hp → Prop), Inv X pins σ H s → RelV o ov → RelV i iv → RelV v u → t o i v H Q →
    wpAny (model X.prog X.w) X.A (setItem ov iv u) (fun _ s' => ∃ H', Inv X pins σ H' s' ∧ Q H') X.xe s
/-- a op= b, by values -/
abbrev TIp := V → V → Hp → VK → Prop
def PIp (X : Cx) (op : Operator) (t : TIp) : Prop :=
  ∀ (pins : List (Addr × Obj)) (s : Shared) (σ : St) (H : Hp) (x y : V) (v u : Value) (Q : VK), Inv X pins σ H s → RelV x v → RelV y u → t x y H Q →
    wpAny (model X.prog X.w) X.A (inplaceOp op v u) (EP X pins σ Q) X.xe s
section
variable {X : Cx} {pos : Pos}
def gName (i : Nat) : TG := fun v σ H Q => Q (σ.set i (some v)) H
theorem pg_name {i : Nat} {x : Str} (hN : X.N.Nodup) (hi : X.N[i]? = some x) (hx : Loc X.env.scope x) (hf : X.fn x = true ∨ X.env.scope.names.lookup x = some .local := by first | exact .inl rfl | exact .inr rfl | assumption) : PG X (.Name x pos) (gName i) := by
  intro pins s σ H v u Q I r h
  exact wpAny_assign_Name (store_ok I hN hi hx r (fun s' I' => ⟨_, H, I', h⟩) hf)
def gNil : TGs := fun vs σ H Q => vs = [] ∧ Q σ H
def gCons (t : TG) (u : TGs) : TGs := fun vs σ H Q => ∃ v r, vs = v :: r ∧ t v σ H fun σ' H' => u r σ' H' Q
theorem pgs_nil : PGs X [] gNil := by
  intro pins s σ H vs us Q I r h
  obtain ⟨e, h⟩ := h
  subst e
  cases r
  exact assignInOrder_nil ⟨σ, H, I, h⟩
theorem pgs_cons {e : Expr} {es : List Expr} {t : TG} {u : TGs} (h1 : PG X e t) (h2 : PGs X es u)
    (hs : (assignEach (e :: es) X.env).map (·.2) = assign e X.env :: (assignEach es X.env).map (·.2) := by rfl) : PGs X (e :: es) (gCons t u) := by
  intro pins s σ H vs us Q I r h
  obtain ⟨v, vr, e1, h⟩ := h
  subst e1
  cases r with
  | cons r rr =>
    rw [hs]
    refine assignInOrder_cons (thn (h1 pins s σ H _ _ _ I r h) fun _ s1 ⟨σ1, H1, I1, q1⟩ => ?_)
    exact h2 pins s1 σ1 H1 _ _ Q I1 rr q1
/-- (a, b, ..) = a tuple of that length -/
def gTup (K : PySem.W.Frag) (n : Nat) (t : TGs) : TG := fun v σ H Q => ∃ a xs, v = .ref a ∧ SqT K H a xs ∧ xs.length = n ∧ t xs σ H Q
theorem pg_tup {es : List Expr} {k : Nat} {t : TGs} {n : Nat} (hc : X.calm = true) (h : PGs X es t)
    (hn : (assignEach es X.env).length = n := by rfl) (hst : (assignEach es X.env).findIdx? (·.1) = none := by rfl) : PG X (.Tuple es k pos) (gTup X.K n t) := by
  intro pins s σ H v u Q I r hw
  obtain ⟨a, xs, e1, hq, hl, hw⟩ := hw
  subst e1
  cases r
  obtain ⟨its, rv, ht, hz⟩ := I.tuple hq
  refine assign_Tuple_tuple (I.ok.hd hc) ht (by simp [hn, ← hl, rv.length]) hst fun h' hx => ?_
  have I1 : Inv X pins σ H { s with heap := h' } := I.kept (t' := s.toks) fun b o e => hx b o (Nat.ne_of_lt (Heap.lt_size e)) e
  exact h pins _ σ H xs _ Q I1 (by simpa using rv) hw
/-- o[i] = .. -/
def gSub (to ti : TE) (t : TSet) : TG := fun v σ H Q => to σ H fun o H1 => ti σ H1 fun i H2 => t o i v H2 fun H3 => Q σ H3
theorem pg_sub {o i : Expr} {to ti : TE} {t : TSet} (ho : PE X o to) (hi : PE X i ti) (hs : PSet X t)
    (ha : ∀ v, assign (.Subscript o i pos) X.env v = (do
      let ov ← holding [v] (eval o X.env)
      let iv ← holding [v, ov] (eval i X.env)
      standAt pos
      holding [v, ov, iv] (setItem ov iv v)
      release [v, ov, iv] []) := by intro _; rfl) : PG X (.Subscript o i pos) (gSub to ti t) := by
  intro pins s σ H v u Q I r h
  rw [ha]
  refine wpAny_bind (wpAny_holding (thn (ho pins s σ H _ I h) fun ov s1 ⟨x, H1, I1, r1, q1⟩ => ?_))
  refine wpAny_bind (wpAny_holding (thn (hi pins s1 σ H1 _ I1 q1) fun iv s2 ⟨y, H2, I2, r2, q2⟩ => ?_))
  refine wpAny_bind (wpAny_standAt (wpAny_bind (wpAny_holding (thn (hs pins s2 σ H2 x y v ov iv u _ I2 r1 r2 r q2) fun _ s3 ⟨H3, I3, q3⟩ => ?_))))
  exact wpAny_release ⟨σ, H3, I3, q3⟩
/-- target = value -/
def tAsg (te : TE) (g : TG) : TS := fun D σ H => te σ H fun x H1 => g x σ H1 D.nx
theorem ps_asg {tg e : Expr} {te : TE} {g : TG} (he : PE X e te) (hg : PG X tg g) (hs : swapsWithSole [tg] e pos.line X.env = pure false := by rfl) (hw : swappedStores [tg] e X.env = pure none := by rfl)
    (h1 : (assignEach [tg] X.env).map (·.2) = [assign tg X.env] := by rfl) : PS X (.Assign [tg] e pos) (tAsg te g) := by
  intro pins s σ H D I h
  refine wpAny_Assign_stores (thn (he pins s σ H _ I h) fun v s1 ⟨x, H1, I1, r1, q1⟩ => ?_) hs hw
  rw [h1]
  exact thn (hg pins s1 σ H1 x v _ I1 r1 q1) fun _ s2 q => q
/-- name = value -/
theorem ps_set {i : Nat} {x : Str} {e : Expr} {te : TE} {pos' : Pos} (hN : X.N.Nodup) (hi : X.N[i]? = some x) (hx : Loc X.env.scope x) (he : PE X e te) (hs : swapsWith e (some (.Name x pos')) pos.line X.env = pure false := by rfl) (hf : X.fn x = true ∨ X.env.scope.names.lookup x = some .local := by first | exact .inl rfl | exact .inr rfl | assumption) :
    PS X (.Assign [.Name x pos'] e pos) (tAsg te (gName i)) := by
  intro pins s σ H D I h
  refine wpAny_Assign_Name (thn (he pins s σ H _ I h) fun v s1 ⟨y, H1, I1, r1, q1⟩ => ?_) hs
  exact store_ok I1 hN hi hx r1 (fun s2 I2 => ⟨_, H1, I2, q1⟩) hf
/-- a, b = x, y with plain local names: stored from the right; the pair itself is not tracked (the opening rows as in PyProof/Rows/TupAssign.lean:23) -/
def tPar (i j : Nat) (ta : TA) : TS := fun D σ H => ta σ H fun vs H1 => ∃ v w, vs = [v, w] ∧ D.nx ((σ.set i (some v)).set j (some w)) H1
theorem ps_par {i j : Nat} {x y : Str} {a b : Expr} {ta : TA} {px py pt : Pos} {kt k2 pt2} (hc : X.calm = true) (hN : X.N.Nodup) (hi : X.N[i]? = some x) (hj : X.N[j]? = some y) (hij : i ≠ j)
    (hx : X.env.scope.names.lookup x = some .local) (hy : X.env.scope.names.lookup y = some .local) (ha : PA X [a, b] ta)
    (hw : swappedStores [.Tuple [.Name x px, .Name y py] kt pt] (.Tuple [a, b] k2 pt2) X.env = pure (some [x, y]))
    (hs : swapsWithSole [.Tuple [.Name x px, .Name y py] kt pt] (.Tuple [a, b] k2 pt2) pos.line X.env = pure false := by rfl) :
    PS X (.Assign [.Tuple [.Name x px, .Name y py] kt pt] (.Tuple [a, b] k2 pt2) pos) (tPar i j ta) := by
  intro pins s σ H D I h
  rw [exec_Assign_arm]
  refine wpAny_bind (wpAny_standAt ?_)
  rw [hs]
  refine wpAny_bind (wpAny_pure ?_)
  rw [if_neg (by decide)]
  refine wpAny_bind (Tuple_ (thn (ha _ pins s σ H _ I h) fun us s1 ⟨vs, H1, I1, r1, q1⟩ => ?_))
  obtain ⟨v, w, e1, q1⟩ := q1
  subst e1
  obtain ⟨u1, u2, rfl, rv, rw'⟩ : ∃ u1 u2, us = [u1, u2] ∧ RelV v u1 ∧ RelV w u2 := by
    cases r1 with
    | cons p q =>
      cases q with
      | cons p' q' =>
        cases q'
        exact ⟨_, _, rfl, p, p'⟩
  refine wpAny_newObj_type ?_ (by show 2 ≤ sizeLine; decide)
  have I2 : Inv X pins σ H1 { s1 with heap := s1.heap.push { cls := .type "tuple", data := .seq [u1, u2].toArray } } := I1.kept (t' := s1.toks) fun b o e => Heap.get?_push_of_some _ e
  rw [hw]
  refine wpAny_bind (wpAny_pure ?_)
  show wpAny (model X.prog X.w) X.A (do rule "assign.swapped-stores"; let items ← unpackItems (.ref s1.heap.objs.size) 2 none; assignInOrder [fun v => bindName X.env y v, fun v => bindName X.env x v] items.reverse; pure Flow.next) _ _ _
  refine wpAny_bind (wpAny_rule (wpAny_bind (unpackItems_tuple (items := #[u1, u2]) (I.ok.hd hc) (IsTup.new s1.heap _) fun h' hx' => ?_)))
  have I3 := I2.kept (h' := h') (t' := s1.toks) fun b o e => hx' b o (Nat.ne_of_lt (Heap.lt_size e)) e
  show wpAny _ _ (assignInOrder [fun v => bindName X.env y v, fun v => bindName X.env x v] [u2, u1] >>= fun _ => pure Flow.next) _ _ _
  refine wpAny_bind (assignInOrder_cons (wpAny_bindName (store_ok I3 hN hj (.inl hy) rw' (fun s2 I4 => ?_) (.inr hy))))
  refine assignInOrder_cons (wpAny_bindName (store_ok I4 hN hi (.inl hx) rv (fun s3 I5 => assignInOrder_nil (wpAny_pure ?_)) (.inr hx)))
  rw [List.set_comm _ _ (Ne.symm hij)] at I5
  exact ⟨_, H1, I5, q1⟩
/-- name op= e -/
def tAug (i : Nat) (te : TE) (ti : TIp) : TS := fun D σ H => ∃ x, σ[i]? = some (some x) ∧ te σ H fun y H1 => ti x y H1 fun z H2 => D.nx (σ.set i (some z)) H2
theorem ps_aug {i : Nat} {x : Str} {e : Expr} {te : TE} {op : Operator} {ti : TIp} {pos' : Pos} (hN : X.N.Nodup) (hi : X.N[i]? = some x) (hx : Loc X.env.scope x) (he : PE X e te) (ho : PIp X op ti) (hf : X.fn x = true ∨ X.env.scope.names.lookup x = some .local := by first | exact .inl rfl | exact .inr rfl | assumption) :
    PS X (.AugAssign (.Name x pos') op e pos) (tAug i te ti) := by
  intro pins s σ H D I h
  obtain ⟨v, e1, h⟩ := h
  obtain ⟨m, hn, hl⟩ := I.loc
  have vis : Vis X.env.scope x := by rcases hx with k | k; exact .inl k; exact .inr (.inl k)
  obtain ⟨u, r, l⟩ := hl i x v hi e1 vis
  refine wpAny_AugAssign_Name ?_
  have go : wpAny (model X.prog X.w) X.A (eval e X.env) (fun w s₂ => wpAny (model X.prog X.w) X.A (inplaceOp op u w) (fun r s₃ => wpAny (model X.prog X.w) X.A (storeName X.env x r) (fun _ => SP X pins D .next) X.xe s₃) X.xe s₂) X.xe s := by
    refine thn (he pins s σ H _ I h) fun w s1 ⟨y, H1, I1, r1, q1⟩ => ?_
    refine thn (ho pins s1 σ H1 v y u w _ I1 r r1 q1) fun z s2 ⟨zv, H2, I2, r2, q2⟩ => ?_
    exact store_ok I2 hN hi hx r2 (fun s3 I3 => ⟨_, H2, I3, q2⟩) hf
  rcases l with ⟨hk, hm⟩ | ⟨hk, c, hc, hcell⟩
  · exact wpAny_loadName_local I.ok.kind hk hn hm go
  · rcases hk with hk | hk
    · exact wpAny_loadName_cell I.ok.kind hk hc hcell go
    · rcases hx with k | k
      · have : X.env.scope.names.lookup x = some .free := hk
        rw [k] at this; cases this
      · have : X.env.scope.names.lookup x = some .free := hk
        rw [k] at this; cases this
/-- o[i] op= e -/
def tAugS (to ti te : TE) (tget : V → V → Hp → VK → Prop) (tip : TIp) (tset : TSet) : TS := fun D σ H => to σ H fun o H1 => ti σ H1 fun i H2 => tget o i H2 fun x H3 => te σ H3 fun y H4 => tip x y H4 fun z H5 => tset o i z H5 fun H6 => D.nx σ H6
/-- o[i], by values -/
def PGet (X : Cx) (t : V → V → Hp → VK → Prop) : Prop :=
  ∀ (pins : List (Addr × Obj)) (s : Shared) (σ : St) (H : Hp) (o i : V) (ov iv : Value) (Q : VK), Inv X pins σ H s → RelV o ov → RelV i iv → t o i H Q →
    wpAny (model X.prog X.w) X.A (getItem ov iv) (EP X pins σ Q) X.xe s
theorem ps_augS {o i e : Expr} {to ti te : TE} {tget : V → V → Hp → VK → Prop} {tip : TIp} {tset : TSet} {op : Operator} {tpos : Pos} (ho : PE X o to) (hi : PE X i ti) (hg : PGet X tget) (he : PE X e te) (hp : PIp X op tip) (hs : PSet X tset)
    (ha : ∀ ov iv new, augStore i ov iv new = (do holding [new, ov, iv] (setItem ov iv new); release [new, ov, iv] []; pure .next) := by intros; rfl) : PS X (.AugAssign (.Subscript o i tpos) op e pos) (tAugS to ti te tget tip tset) := by
  intro pins s σ H D I h
  refine wpAny_AugAssign_SubscriptAny (thn (ho pins s σ H _ I h) fun ov s1 ⟨x1, H1, I1, r1, q1⟩ => ?_) ha
  refine thn (hi pins s1 σ H1 _ I1 q1) fun iv s2 ⟨x2, H2, I2, r2, q2⟩ => ?_
  refine thn (hg pins s2 σ H2 x1 x2 ov iv _ I2 r1 r2 q2) fun old s3 ⟨x3, H3, I3, r3, q3⟩ => ?_
  refine thn (he pins s3 σ H3 _ I3 q3) fun v s4 ⟨x4, H4, I4, r4, q4⟩ => ?_
  refine thn (hp pins s4 σ H4 x3 x4 old v _ I4 r3 r4 q4) fun new s5 ⟨x5, H5, I5, r5, q5⟩ => ?_
  exact thn (hs pins s5 σ H5 x1 x2 x5 ov iv new _ I5 r1 r2 r5 q5) fun _ s6 ⟨H6, I6, q6⟩ => ⟨σ, H6, I6, q6⟩
/-- ints -/
def ipI (f : Int → Int → Int) : TIp := fun x y H Q => ∃ i j, x = .int i ∧ y = .int j ∧ Q (.int (f i j)) H
theorem ip_add : PIp X .Add (ipI fun i j => i + j) := by
  intro pins s σ H x y v u Q I r1 r2 h
  obtain ⟨i, j, e1, e2, q⟩ := h
  subst e1; subst e2
  obtain ⟨t, rfl⟩ := r1
  obtain ⟨t', rfl⟩ := r2
  exact iadd_int ⟨.int _, H, I.tok _, ⟨_, rfl⟩, q⟩
theorem ip_sub : PIp X .Sub (ipI fun i j => i - j) := by
  intro pins s σ H x y v u Q I r1 r2 h
  obtain ⟨i, j, e1, e2, q⟩ := h
  subst e1; subst e2
  obtain ⟨t, rfl⟩ := r1
  obtain ⟨t', rfl⟩ := r2
  exact isub_int ⟨.int _, H, I.tok _, ⟨_, rfl⟩, q⟩
end

/-! ### while -/
section
variable {X : Cx} {pos : Pos}
/-- the invariant W with its measure -/
def tWhile (c : TT) (tb : TS) : TS := fun D σ H => ∃ W : Nat → St → Hp → Prop, (∃ m, W m σ H) ∧ ∀ m σ H, W m σ H →
  c σ H fun b H1 => if b = true then ∃ N : St → Hp → Prop, (∀ σ' H', N σ' H' → ∃ m', m' < m ∧ W m' σ' H') ∧ tb { D with nx := N, ct := N, bk := D.nx } σ H1 else D.nx σ H1
theorem ps_while {c : Expr} {body : List Stmt} {tc : TT} {tb : TS} (hp : PassesOwn (model X.prog X.w) X.A X.env X.xe) (hc : PT X c tc) (hb : PSs X body tb) : PS X (.While c body [] pos) (tWhile tc tb) := by
  intro pins s σ H D I h
  obtain ⟨W, ⟨m0, w0⟩, turn⟩ := h
  refine wpAny_While (codeAny_whileLoop (fun n s' => ∃ σ' H', Inv X pins σ' H' s' ∧ W n σ' H') ?_ m0 ⟨σ, H, I, w0⟩)
  rintro n s1 ⟨σ1, H1, I1, w1⟩
  refine wpAny_passesOwn hp (thn (hc pins s1 σ1 H1 _ I1 (turn n σ1 H1 w1)) fun b s2 ⟨H2, I2, q2⟩ => ?_)
  cases b with
  | true =>
    obtain ⟨N, hN, q2⟩ := q2
    rw [if_pos rfl]
    refine wpAny_passesOwn hp (thn (hb pins s2 σ1 H2 _ I2 q2) fun f s3 q3 => ?_)
    cases f with
    | next =>
      obtain ⟨σ3, H3, I3, n3⟩ := q3
      obtain ⟨m', hm, w3⟩ := hN σ3 H3 n3
      exact ⟨m', hm, σ3, H3, I3, w3⟩
    | cont =>
      obtain ⟨σ3, H3, I3, n3⟩ := q3
      obtain ⟨m', hm, w3⟩ := hN σ3 H3 n3
      exact ⟨m', hm, σ3, H3, I3, w3⟩
    | brk => exact q3
    | ret v => exact q3
  | false =>
    rw [if_neg Bool.false_ne_true]
    exact wpAny_execs_nil ⟨σ1, H2, I2, q2⟩
end

/-! ### what a loop or a comprehension walks -/
/-- at turn i: it yields x (the heap may grow), or it stops -/
structure It where
  go : Nat → Hp → Prop
  yld : Nat → Hp → V → Hp → Prop
  stop : Nat → Hp → Prop
/-- the iterator's own objects may turn: they are not the frame's, not pinned, younger than the entry (or a comprehension's own) -/
def FpOk (X : Cx) (pins : List (Addr × Obj)) (H : Hp) (b : Addr) : Prop :=
  H b = none ∧ b ≠ X.env.locals ∧ b ∉ X.fs ∧ (b ∈ X.ex ∨ X.s₀.heap.objs.size ≤ b) ∧ (∀ x c, X.env.cells.lookup x = some c → c ≠ b) ∧ ∀ p ∈ X.pn ++ pins, p.1 ≠ b
theorem Inv.fpOk {X : Cx} {pins : List (Addr × Obj)} {σ : St} {H H' : Hp} {s : Shared} {b : Addr} (I : Inv X pins σ H s) (hb : s.heap.objs.size ≤ b) (hn : H' b = none) : FpOk X pins H' b := by
  refine ⟨hn, Nat.ne_of_gt (Nat.lt_of_lt_of_le I.lt hb), I.nofs hb, .inr (Nat.le_trans I.sz hb), fun x c e z => ?_, fun p hp z => ?_⟩
  · obtain ⟨v, q⟩ := I.cell x c e
    exact absurd (Nat.lt_of_lt_of_le q.lt (by rw [z]; exact hb)) (Nat.lt_irrefl _)
  · exact absurd (Nat.lt_of_lt_of_le (Heap.lt_size (I.pin p hp).1) (by rw [z]; exact hb)) (Nat.lt_irrefl _)
structure Turn (P : Program) (w : World) (K : PySem.W.Frag) (tg : Expr) (J : It) (fp : List Addr) (it : Addr) (tn : Nat → Heap → Prop) : Prop where
  mem : it ∈ fp
  obj : ∀ i h, tn i h → ∀ b ∈ fp, ∃ o, h.get? b = some o ∧ ∀ v, o.data ≠ .cell v
  keep : ∀ i h h', tn i h → (∀ b ∈ fp, ∀ o, h.get? b = some o → h'.get? b = some o) → tn i h'
  item : ∀ (X : Cx), X.prog = P → X.w = w → X.K = K → X.calm = true → ∀ (i : Nat) (pins : List (Addr × Obj)) (s : Shared) (σ : St) (H : Hp) (E : Value → Shared → Prop), Inv X pins σ H s → (∀ b ∈ fp, FpOk X pins H b) → tn i s.heap → J.go i H →
    wpAny (model P w) X.A (pyNext (.ref it)) (fun r s1 => ∃ u, r = some u ∧
      wpAny (model P w) X.A (letOwnedTupleGo tg (.ref it) u) (fun _ s2 => ∃ x H', Inv X pins σ H' s2 ∧ RelV x u ∧ J.yld i H x H' ∧ tn (i + 1) s2.heap ∧ ∀ b ∈ fp, H' b = none) E s1) E s
  done : ∀ (X : Cx), X.prog = P → X.w = w → X.K = K → X.calm = true → ∀ (i : Nat) (pins : List (Addr × Obj)) (s : Shared) (σ : St) (H : Hp) (E : Value → Shared → Prop), Inv X pins σ H s → (∀ b ∈ fp, FpOk X pins H b) → tn i s.heap → J.stop i H →
    wpAny (model P w) X.A (pyNext (.ref it)) (fun r s1 => r = none ∧ Inv X pins σ H s1) E s
  self : ∀ (A : Around) (i : Nat) (s : Shared) (Q : Value → Shared → Prop) (E : Value → Shared → Prop), tn i s.heap → Q (.ref it) s → wpAny (model P w) A (pyIter (.ref it)) Q E s
abbrev TI := St → Hp → (It → Hp → Prop) → Prop
/-- an iterator has come -/
def PIE (X : Cx) (pins : List (Addr × Obj)) (σ : St) (tg : Expr) (R : It → Hp → Prop) (itv : Value) (s2 : Shared) : Prop :=
  ∃ (it : Addr) (fp : List Addr) (tn : Nat → Heap → Prop) (J : It) (H' : Hp), itv = .ref it ∧ Inv X pins σ H' s2 ∧ Turn X.prog X.w X.K tg J fp it tn ∧ tn 0 s2.heap ∧ (∀ b ∈ fp, FpOk X pins H' b) ∧ R J H'
def PI (X : Cx) (tg iter : Expr) (wi : TI) : Prop :=
  ∀ (pins : List (Addr × Obj)) (s : Shared) (σ : St) (H : Hp) (R : It → Hp → Prop), Inv X pins σ H s → wi σ H R →
    wpAny (model X.prog X.w) X.A (eval iter X.env) (fun v s1 => wpAny (model X.prog X.w) X.A (pyIter v) (PIE X pins σ tg R) X.xe s1) X.xe s

/-- the step ahead of the store is nothing for an iterator that keeps no tuple -/
theorem go_of {M : Model} {A : Around} {E : Value → Shared → Prop} {s : Shared} {tg : Expr} {it : Addr} {u : Value} {o : Obj} {n : String} {vs : Array Value} {Q : Unit → Shared → Prop} (ho : s.heap.get? it = some o) (hc : o.cls = .type n) (hd : o.data = .fields vs)
    (hn : ["enumerate", "zip", "dict_itemiterator", "dict_reverseitemiterator", "odict_iterator", "itertools.zip_longest", "itertools.pairwise"].contains n = false) (hQ : Q () s) : wpAny M A (letOwnedTupleGo tg (.ref it) u) Q E s := by
  unfold letOwnedTupleGo
  cases tg <;> first
    | exact wpAny_pure hQ
    | (cases u <;> first
        | exact wpAny_pure hQ
        | (refine wpAny_bind (wpAny_load ho ?_)
           rw [hc, hd]
           show wpAny M A (if (["enumerate", "zip", "dict_itemiterator", "dict_reverseitemiterator", "odict_iterator", "itertools.zip_longest", "itertools.pairwise"].contains n && vs[0]? == some (rawInt _)) = true then _ else _) Q E s
           rw [if_neg (by intro h; rw [hn, Bool.false_and] at h; cases h)]
           exact wpAny_pure hQ))

/-- the list at a, as it stands at each turn (a loop may append to it) -/
def Itl (K : PySem.W.Frag) (a : Addr) : It :=
  ⟨fun i H => ∃ xs x, SqL K H a xs ∧ xs[i]? = some x, fun i H x H' => H' = H ∧ ∀ xs, SqL K H a xs → xs[i]? = some x, fun i H => ∃ xs, SqL K H a xs ∧ xs.length ≤ i⟩
def Itt (K : PySem.W.Frag) (a : Addr) : It :=
  ⟨fun i H => ∃ xs x, SqT K H a xs ∧ xs[i]? = some x, fun i H x H' => H' = H ∧ ∀ xs, SqT K H a xs → xs[i]? = some x, fun i H => ∃ xs, SqT K H a xs ∧ xs.length ≤ i⟩
/-- lo, lo + 1, .. (n of them) -/
def Itr (lo : Int) (n : Nat) : It := ⟨fun i _ => i < n, fun i H x H' => H' = H ∧ x = .int (lo + i), fun i _ => n ≤ i⟩
theorem turn_list {P : Program} {w : World} {K : PySem.W.Frag} {tg : Expr} (a it : Addr) : Turn P w K tg (Itl K a) [it] it (fun i h => h.IsListIter it a i) where
  mem := by simp
  obj := fun i h st b hb => by
    have e : b = it := by simpa using hb
    subst e
    obtain ⟨o, e, c, d⟩ := st
    exact ⟨o, e, fun v z => by rw [d] at z; cases z⟩
  keep := fun i h h' st k => st.at fun o e => k it (by simp) o e
  item := by
    intro X hP hw hK hc i pins s σ H E I hf st hg
    subst hP hw hK
    obtain ⟨xs, x, hq, hx⟩ := hg
    obtain ⟨its, rv, p, hz⟩ := I.list hq
    obtain ⟨u, hu, ru⟩ := rv.get hx
    obtain ⟨f0, f1, f2, f3, f4, f5⟩ := hf it (by simp)
    refine wpAny_pyNext_list_item st p.isList (x := u) (by simpa using hu) fun h' st' sb => ?_
    have I1 : Inv X pins σ H { s with heap := h' } := I.turned (t' := s.toks) (fun b o hb e => (sb.2 b hb).trans e) f0 f1 f3 f4 f5
    obtain ⟨o, e, c, d⟩ := id st'
    exact ⟨u, rfl, go_of (s := { s with heap := h' }) e c d (by decide) ⟨x, H, I1, ru, ⟨rfl, fun ys hy => by rw [I.list_inj hy hq]; exact hx⟩, st', fun b hb => (hf b hb).1⟩⟩
  done := by
    intro X hP hw hK hc i pins s σ H E I hf st hg
    subst hP hw hK
    obtain ⟨xs, hq, hx⟩ := hg
    obtain ⟨its, rv, p, hz⟩ := I.list hq
    obtain ⟨f0, f1, f2, f3, f4, f5⟩ := hf it (by simp)
    have hl := rv.length
    exact wpAny_pyNext_list_end (I.ok.hd hc) st p.isList (by simp; omega) fun h' eb => ⟨rfl, I.turned (t' := s.toks) (fun b o hb e => eb b o hb e) f0 f1 f3 f4 f5⟩
  self := fun _ _ _ _ _ st h => wpAny_pyIter_listiter st h
theorem turn_tuple {P : Program} {w : World} {K : PySem.W.Frag} {tg : Expr} (a it : Addr) : Turn P w K tg (Itt K a) [it] it (fun i h => h.IsTupleIter it a i) where
  mem := by simp
  obj := fun i h st b hb => by
    have e : b = it := by simpa using hb
    subst e
    obtain ⟨o, e, c, d⟩ := st
    exact ⟨o, e, fun v z => by rw [d] at z; cases z⟩
  keep := fun i h h' st k => st.at fun o e => k it (by simp) o e
  item := by
    intro X hP hw hK hc i pins s σ H E I hf st hg
    subst hP hw hK
    obtain ⟨xs, x, hq, hx⟩ := hg
    obtain ⟨its, rv, p, hz⟩ := I.tuple hq
    obtain ⟨u, hu, ru⟩ := rv.get hx
    obtain ⟨f0, f1, f2, f3, f4, f5⟩ := hf it (by simp)
    refine wpAny_pyNext_tuple_item st (show s.heap.IsTuple a its.toArray from p) (x := u) (by simpa using hu) fun h' st' sb => ?_
    have I1 : Inv X pins σ H { s with heap := h' } := I.turned (t' := s.toks) (fun b o hb e => (sb.2 b hb).trans e) f0 f1 f3 f4 f5
    obtain ⟨o, e, c, d⟩ := id st'
    exact ⟨u, rfl, go_of (s := { s with heap := h' }) e c d (by decide) ⟨x, H, I1, ru, ⟨rfl, fun ys hy => by rw [I.tuple_inj hy hq]; exact hx⟩, st', fun b hb => (hf b hb).1⟩⟩
  done := by
    intro X hP hw hK hc i pins s σ H E I hf st hg
    subst hP hw hK
    obtain ⟨xs, hq, hx⟩ := hg
    obtain ⟨its, rv, p, hz⟩ := I.tuple hq
    obtain ⟨f0, f1, f2, f3, f4, f5⟩ := hf it (by simp)
    have hl := rv.length
    exact wpAny_pyNext_tuple_end (I.ok.hd hc) st (show s.heap.IsTuple a its.toArray from p) (by simp; omega) fun h' eb => ⟨rfl, I.turned (t' := s.toks) (fun b o hb e => eb b o hb e) f0 f1 f3 f4 f5⟩
  self := fun _ _ _ _ _ st h => wpAny_pyIter_tupleiter st h
theorem turn_range {P : Program} {w : World} {K : PySem.W.Frag} {tg : Expr} (it : Addr) (lo : Int) (n : Nat) : Turn P w K tg (Itr lo n) [it] it (fun i h => IsRangeIter h it (lo + (i : Nat) * 1) ((n : Int) - (i : Nat)) 1) where
  mem := by simp
  obj := fun i h st b hb => by
    have e : b = it := by simpa using hb
    subst e
    exact ⟨_, st, fun v z => by
      have z' : Data.fields _ = Data.cell v := z
      cases z'⟩
  keep := fun i h h' st k => k it (by simp) _ st
  item := by
    intro X hP hw hK hc i pins s σ H E I hf st hg
    subst hP hw hK
    obtain ⟨f0, f1, f2, f3, f4, f5⟩ := hf it (by simp)
    have W := Walks.range (prog := X.prog) (w := X.w) (I.ok.hd hc) it lo 1 n
    refine W.item i s _ _ hg st fun v h' tk hv st' kk => ?_
    obtain ⟨t, rfl⟩ := hv
    have I1 : Inv X pins σ H { s with heap := h', toks := tk } := I.turned (fun b o hb e => kk b o (by simpa using hb) e) f0 f1 f3 f4 f5
    refine ⟨_, rfl, go_of (s := { s with heap := h', toks := tk }) (n := "range_iterator") st' rfl rfl (by decide) ⟨.int (lo + i), H, I1, ⟨t, ?_⟩, ⟨rfl, rfl⟩, st', fun b hb => (hf b hb).1⟩⟩
    rw [Int.mul_one]
  done := by
    intro X hP hw hK hc i pins s σ H E I hf st hg
    subst hP hw hK
    obtain ⟨f0, f1, f2, f3, f4, f5⟩ := hf it (by simp)
    exact wpAny_pyNext_range_end (I.ok.hd hc) st (by have : n ≤ i := hg; omega) fun h' eb => ⟨rfl, I.turned (t' := s.toks) (fun b o hb e => eb b o hb e) f0 f1 f3 f4 f5⟩
  self := fun _ _ _ _ _ st h => wpAny_pyIter_rangeiter st h
end L2

namespace L2
open PySem PySem.Spec PyProof.Rows
section
variable {X : Cx} {tg : Expr}
def iList (K : PySem.W.Frag) (tl : TE) : TI := fun σ H R => tl σ H fun x H1 => ∃ a, x = .ref a ∧ (∃ xs, SqL K H1 a xs) ∧ R (Itl K a) H1
def iTup (K : PySem.W.Frag) (tl : TE) : TI := fun σ H R => tl σ H fun x H1 => ∃ a, x = .ref a ∧ (∃ xs, SqT K H1 a xs) ∧ R (Itt K a) H1
theorem pi_list {l : Expr} {tl : TE} (hl : PE X l tl) : PI X tg l (iList X.K tl) := by
  intro pins s σ H R I h
  refine thn (hl pins s σ H _ I h) fun v s1 ⟨x, H1, I1, r1, q1⟩ => ?_
  obtain ⟨a, e, ⟨xs, hq⟩, q⟩ := q1
  subst e
  cases r1
  obtain ⟨its, rv, p, hz⟩ := I1.list hq
  refine wpAny_pyIter_list p.isList ?_
  refine ⟨s1.heap.objs.size, [s1.heap.objs.size], _, _, H1, rfl, I1.kept (t' := s1.toks) fun b o e => Heap.get?_push_of_some _ e, turn_list a _, ⟨_, Heap.get?_push_size _ rfl, rfl, rfl⟩, fun b hb => ?_, q⟩
  have e : b = s1.heap.objs.size := by simpa using hb
  subst e
  exact I1.fpOk (Nat.le_refl _) (I1.hok.fresh (Nat.le_refl _))
theorem pi_tup {l : Expr} {tl : TE} (hl : PE X l tl) : PI X tg l (iTup X.K tl) := by
  intro pins s σ H R I h
  refine thn (hl pins s σ H _ I h) fun v s1 ⟨x, H1, I1, r1, q1⟩ => ?_
  obtain ⟨a, e, ⟨xs, hq⟩, q⟩ := q1
  subst e
  cases r1
  obtain ⟨its, rv, p, hz⟩ := I1.tuple hq
  refine wpAny_pyIter_tuple (show s1.heap.IsTuple a its.toArray from p) ?_
  refine ⟨s1.heap.objs.size, [s1.heap.objs.size], _, _, H1, rfl, I1.kept (t' := s1.toks) fun b o e => Heap.get?_push_of_some _ e, turn_tuple a _, ⟨_, Heap.get?_push_size _ rfl, rfl, rfl⟩, fun b hb => ?_, q⟩
  have e : b = s1.heap.objs.size := by simpa using hb
  subst e
  exact I1.fpOk (Nat.le_refl _) (I1.hok.fresh (Nat.le_refl _))
/-- a range object just made, walked -/
theorem range_it {pins : List (Addr × Obj)} {σ : St} {H : Hp} {s : Shared} {R : It → Hp → Prop} {E : Value → Shared → Prop} {lo hi : Int} {t u v : Tok} {tk : Nat} (I : Inv X pins σ H s) (h1 : -(2 ^ 62) ≤ lo) (h2 : lo < 2 ^ 62) (h3 : -(2 ^ 62) ≤ hi) (h4 : hi < 2 ^ 62)
    (q : R (Itr lo (hi - lo).toNat) H) : wpAny (model X.prog X.w) X.A (pyIter (.ref s.heap.objs.size)) (PIE X pins σ tg R) E { s with heap := s.heap.push { cls := .type "range", data := .fields #[.int lo t, .int hi u, .int 1 v] }, toks := tk } := by
  refine wpAny_pyIter_range (IsRange.new ..) (small_one h1 h2 h3 h4) ?_
  have I1 : Inv X pins σ H { s with heap := s.heap.push { cls := .type "range", data := .fields #[.int lo t, .int hi u, .int 1 v] }, toks := tk } := I.kept fun b o e => Heap.get?_push_of_some _ e
  refine ⟨(s.heap.push { cls := .type "range", data := .fields #[.int lo t, .int hi u, .int 1 v] }).objs.size, [(s.heap.push { cls := .type "range", data := .fields #[.int lo t, .int hi u, .int 1 v] }).objs.size], _, _, H, rfl,
    I1.kept (t' := tk) fun b o e => Heap.get?_push_of_some _ e, turn_range _ lo (hi - lo).toNat, ?_, fun b hb => ?_, q⟩
  · have e1 : lo + ((0 : Nat) : Int) * 1 = lo := by simp
    have e2 : (((hi - lo).toNat : Nat) : Int) - ((0 : Nat) : Int) = Builtin.Range.rangeSize lo hi 1 := by rw [rangeSize_one]; split <;> omega
    show IsRangeIter _ _ (lo + ((0 : Nat) : Int) * 1) ((((hi - lo).toNat : Nat) : Int) - ((0 : Nat) : Int)) 1
    rw [e1, e2]
    exact Heap.get?_push_size _ rfl
  · have e : b = (s.heap.push { cls := .type "range", data := .fields #[.int lo t, .int hi u, .int 1 v] }).objs.size := by simpa using hb
    subst e
    exact I1.fpOk (Nat.le_refl _) (I1.hok.fresh (Nat.le_refl _))
def iRng1 (ta : TA) : TI := fun σ H R => ta σ H fun vs H1 => ∃ j : Int, vs = [.int j] ∧ -(2 ^ 62) ≤ j ∧ j < 2 ^ 62 ∧ R (Itr 0 j.toNat) H1
def iRng2 (ta : TA) : TI := fun σ H R => ta σ H fun vs H1 => ∃ i j : Int, vs = [.int i, .int j] ∧ (-(2 ^ 62) ≤ i ∧ i < 2 ^ 62 ∧ -(2 ^ 62) ≤ j ∧ j < 2 ^ 62) ∧ R (Itr i (j - i).toNat) H1
theorem pi_range1 {a : Expr} {ta : TA} {p pos : Pos} (hg : Gl X "range") (hm : X.mg "range" = none) (ha : PA X [a] ta) (hs : starEach [a] X.env = [(false, eval a X.env)] := by rfl) : PI X tg (.Call (.Name "range" p) [a] [] pos) (iRng1 ta) := by
  intro pins s σ H R I h
  refine Call_ (ld_blt I hg hm boot_range (PyProof.Rows.callWith_type1 (thn (ha pos pins s σ H _ I h) fun us s1 ⟨vs, H1, I1, r1, q1⟩ => ?_) hs rfl))
  obtain ⟨j, e, q1, q2, q⟩ := q1
  subst e
  cases r1 with
  | cons r rr =>
    cases rr
    obtain ⟨t, rfl⟩ := r
    exact call_range_1 (range_it I1 (by omega) (by omega) q1 q2 (by simpa using q))
theorem pi_range2 {a b : Expr} {ta : TA} {p pos : Pos} (hg : Gl X "range") (hm : X.mg "range" = none) (ha : PA X [a, b] ta) (hs : starEach [a, b] X.env = [(false, eval a X.env), (false, eval b X.env)] := by rfl) (hs2 : starEach [b] X.env = [(false, eval b X.env)] := by rfl) :
    PI X tg (.Call (.Name "range" p) [a, b] [] pos) (iRng2 ta) := by
  intro pins s σ H R I h
  refine Call_ (ld_blt I hg hm boot_range (PyProof.Rows.callWith_type1 (thn (ha pos pins s σ H _ I h) fun us s1 ⟨vs, H1, I1, r1, q1⟩ => ?_) (by rw [hs, hs2]) (by rw [hs2]; rfl)))
  obtain ⟨i, j, e, ⟨q1, q2, q3, q4⟩, q⟩ := q1
  subst e
  cases r1 with
  | cons r rr =>
    cases rr with
    | cons r' rr =>
      cases rr
      obtain ⟨t, rfl⟩ := r
      obtain ⟨t', rfl⟩ := r'
      exact call_range_2 (range_it I1 q1 q2 q3 q4 q)

/-! ### for -/
/-- W: the invariant by the turn and a measure; N: what the body is to reach -/
def tFor (wi : TI) (g : TG) (tb : TS) : TS := fun D σ H => wi σ H fun J H1 => ∃ W : Nat → Nat → St → Hp → Prop, (∃ m, W 0 m σ H1) ∧ ∀ i m σ H, W i m σ H →
  (J.stop i H ∧ D.nx σ H) ∨ (J.go i H ∧ ∃ N : St → Hp → Prop, (∀ σ' H', N σ' H' → ∃ m', m' < m ∧ W (i + 1) m' σ' H') ∧ ∀ x H', J.yld i H x H' → g x σ H' fun σ2 H2 => tb { D with nx := N, ct := N, bk := D.nx } σ2 H2)
/-- the records at fp as they stand -/
def pinsAt (fp : List Addr) (h : Heap) : List (Addr × Obj) := fp.filterMap fun b => (h.get? b).map fun o => (b, o)
theorem mem_pinsAt {fp : List Addr} {h : Heap} {b : Addr} {o : Obj} (hb : b ∈ fp) (e : h.get? b = some o) : (b, o) ∈ pinsAt fp h := List.mem_filterMap.mpr ⟨b, hb, by rw [e]; rfl⟩
theorem of_pinsAt {fp : List Addr} {h : Heap} {p : Addr × Obj} (hp : p ∈ pinsAt fp h) : p.1 ∈ fp ∧ h.get? p.1 = some p.2 := by
  obtain ⟨b, hb, e⟩ := List.mem_filterMap.mp hp
  cases q : h.get? b with
  | none => rw [q] at e; cases e
  | some o =>
    rw [q] at e
    have e' : (b, o) = p := Option.some.inj e
    subst e'
    exact ⟨hb, q⟩
theorem Inv.pinned {pins : List (Addr × Obj)} {σ : St} {H : Hp} {s : Shared} {fp : List Addr} (I : Inv X pins σ H s) (hf : ∀ b ∈ fp, FpOk X pins H b) (ho : ∀ b ∈ fp, ∃ o, s.heap.get? b = some o ∧ ∀ v, o.data ≠ .cell v) : Inv X (pins ++ pinsAt fp s.heap) σ H s :=
  I.pins_of fun p hp => (List.mem_append.mp hp).elim (fun z => I.pin p (List.mem_append_right _ z)) fun z => by
    obtain ⟨hb, e⟩ := of_pinsAt z
    obtain ⟨f0, f1, f2, _⟩ := hf p.1 hb
    obtain ⟨o, e', d⟩ := ho p.1 hb
    rw [e] at e'; cases e'
    exact ⟨e, f0, f1, f2, d⟩
theorem Inv.unpinned {pins pl : List (Addr × Obj)} {σ : St} {H : Hp} {s : Shared} (I : Inv X (pins ++ pl) σ H s) : Inv X pins σ H s := I.pins_of fun p hp => I.pin p (List.mem_append_right _ (List.mem_append_left _ hp))
theorem ps_for {iter : Expr} {body : List Stmt} {wi : TI} {g : TG} {tb : TS} {pos : Pos} (hp : PassesOwn (model X.prog X.w) X.A X.env X.xe) (hc : X.calm = true) (hi : PI X tg iter wi) (hg : PG X tg g) (hb : PSs X body tb)
    (hs : ∀ x, foldedSetIterable iter X.env x = pure x := by intro _; rfl) : PS X (.For tg iter body [] pos) (tFor wi g tb) := by
  intro pins s σ H D I h
  refine wpAny_For (thn (hi pins s σ H _ I h) fun v s1 h1 => thn h1 fun itv s2 h2 => ?_) hs
  obtain ⟨it, fp, tn, J, H2, e, I2, T, st2, f2, W, ⟨m0, w0⟩, turn⟩ := h2
  subst e
  -- what stays true of the iterator's objects through the loop
  have stat : ∀ {H' : Hp}, (∀ b ∈ fp, H' b = none) → ∀ b ∈ fp, FpOk X pins H' b := fun hn b hb => ⟨hn b hb, (f2 b hb).2⟩
  refine codeAny_forLoop_any (fun n s' => ∃ i σ' H', Inv X pins σ' H' s' ∧ tn i s'.heap ∧ (∀ b ∈ fp, H' b = none) ∧ W i n σ' H') ?_ m0 ⟨0, σ, H2, I2, st2, fun b hb => (f2 b hb).1, w0⟩
  rintro n s3 ⟨i, σ3, H3, I3, st3, fr3, w3⟩
  rcases turn i n σ3 H3 w3 with ⟨stop, qn⟩ | ⟨go, N, hN, step⟩
  · refine wpAny_passesOwn hp (thn (T.done X rfl rfl rfl hc i pins s3 σ3 H3 X.xe I3 (stat fr3) st3 stop) fun r s4 ⟨hr, I4⟩ => ?_)
    subst hr
    exact wpAny_execs_nil ⟨σ3, H3, I4, qn⟩
  · refine wpAny_passesOwn hp (thn (T.item X rfl rfl rfl hc i pins s3 σ3 H3 X.xe I3 (stat fr3) st3 go) fun r s4 ⟨u, hr, h4⟩ => ?_)
    subst hr
    refine wpAny_passesOwn hp (thn h4 fun _ s5 ⟨x, H5, I5, r5, y5, st5, fr5⟩ => ?_)
    have I5' := I5.pinned (stat fr5) (T.obj _ _ st5)
    refine wpAny_passesOwn hp (thn (hg _ s5 σ3 H5 x u _ I5' r5 (step x H5 y5)) fun _ s6 ⟨σ6, H6, I6, q6⟩ => ?_)
    refine wpAny_passesOwn hp (thn (hb _ s6 σ6 H6 _ I6 q6) fun f s7 q7 => ?_)
    have again : ∀ {σ7 : St} {H7 : Hp}, Inv X (pins ++ pinsAt fp s5.heap) σ7 H7 s7 → N σ7 H7 → ∃ m, m < n ∧ ∃ i σ' H', Inv X pins σ' H' s7 ∧ tn i s7.heap ∧ (∀ b ∈ fp, H' b = none) ∧ W i m σ' H' := fun {σ7 H7} I7 n7 => by
      obtain ⟨m', hm, w7⟩ := hN σ7 H7 n7
      refine ⟨m', hm, i + 1, σ7, H7, I7.unpinned, T.keep _ _ _ st5 fun b hb o e => (I7.pin (b, o) (List.mem_append_right _ (List.mem_append_right _ (mem_pinsAt hb e)))).1, fun b hb => ?_, w7⟩
      obtain ⟨o, e, d⟩ := T.obj _ _ st5 b hb
      exact (I7.pin (b, o) (List.mem_append_right _ (List.mem_append_right _ (mem_pinsAt hb e)))).2.1
    cases f with
    | next => obtain ⟨σ7, H7, I7, n7⟩ := q7; exact again I7 n7
    | cont => obtain ⟨σ7, H7, I7, n7⟩ := q7; exact again I7 n7
    | brk => obtain ⟨σ7, H7, I7, q7⟩ := q7; exact ⟨σ7, H7, I7.unpinned, q7⟩
    | ret v => obtain ⟨x7, σ7, H7, I7, r7, q7⟩ := q7; exact ⟨x7, σ7, H7, I7.unpinned, r7, q7⟩
end

/-! ### the forms one uses -/
/-- over a list that the body leaves as it is -/
theorem for_list {K : PySem.W.Frag} {a : Addr} {xs : List V} {g : TG} {tb : TS} {D : Ends} {σ : St} {H : Hp} (Pv : Nat → St → Hp → Prop) (h0 : Pv 0 σ H) (hl : ∀ i σ H, i ≤ xs.length → Pv i σ H → SqL K H a xs)
    (hs : ∀ i x σ H, xs[i]? = some x → Pv i σ H → g x σ H fun σ2 H2 => tb { D with nx := Pv (i + 1), ct := Pv (i + 1), bk := D.nx } σ2 H2) (hd : ∀ σ H, Pv xs.length σ H → D.nx σ H) :
    ∃ W : Nat → Nat → St → Hp → Prop, (∃ m, W 0 m σ H) ∧ ∀ i m σ H, W i m σ H →
      ((Itl K a).stop i H ∧ D.nx σ H) ∨ ((Itl K a).go i H ∧ ∃ N : St → Hp → Prop, (∀ σ' H', N σ' H' → ∃ m', m' < m ∧ W (i + 1) m' σ' H') ∧ ∀ x H', (Itl K a).yld i H x H' → g x σ H' fun σ2 H2 => tb { D with nx := N, ct := N, bk := D.nx } σ2 H2) := by
  refine ⟨fun i m σ H => m = xs.length - i ∧ i ≤ xs.length ∧ Pv i σ H, ⟨xs.length, by simp, Nat.zero_le _, h0⟩, ?_⟩
  rintro i m σ H ⟨rfl, hi, p⟩
  have q := hl i σ H hi p
  by_cases hlt : i < xs.length
  · refine .inr ⟨⟨xs, xs[i], q, by simp [hlt]⟩, Pv (i + 1), fun σ' H' p' => ⟨xs.length - (i + 1), by omega, rfl, hlt, p'⟩, fun x H' y => ?_⟩
    obtain ⟨e, y⟩ := y
    subst e
    exact hs i x σ _ (y xs q) p
  · have e : i = xs.length := by omega
    subst e
    exact .inl ⟨⟨xs, q, Nat.le_refl _⟩, hd σ H p⟩
theorem for_tup {K : PySem.W.Frag} {a : Addr} {xs : List V} {g : TG} {tb : TS} {D : Ends} {σ : St} {H : Hp} (Pv : Nat → St → Hp → Prop) (h0 : Pv 0 σ H) (hl : ∀ i σ H, i ≤ xs.length → Pv i σ H → SqT K H a xs)
    (hs : ∀ i x σ H, xs[i]? = some x → Pv i σ H → g x σ H fun σ2 H2 => tb { D with nx := Pv (i + 1), ct := Pv (i + 1), bk := D.nx } σ2 H2) (hd : ∀ σ H, Pv xs.length σ H → D.nx σ H) :
    ∃ W : Nat → Nat → St → Hp → Prop, (∃ m, W 0 m σ H) ∧ ∀ i m σ H, W i m σ H →
      ((Itt K a).stop i H ∧ D.nx σ H) ∨ ((Itt K a).go i H ∧ ∃ N : St → Hp → Prop, (∀ σ' H', N σ' H' → ∃ m', m' < m ∧ W (i + 1) m' σ' H') ∧ ∀ x H', (Itt K a).yld i H x H' → g x σ H' fun σ2 H2 => tb { D with nx := N, ct := N, bk := D.nx } σ2 H2) := by
  refine ⟨fun i m σ H => m = xs.length - i ∧ i ≤ xs.length ∧ Pv i σ H, ⟨xs.length, by simp, Nat.zero_le _, h0⟩, ?_⟩
  rintro i m σ H ⟨rfl, hi, p⟩
  have q := hl i σ H hi p
  by_cases hlt : i < xs.length
  · refine .inr ⟨⟨xs, xs[i], q, by simp [hlt]⟩, Pv (i + 1), fun σ' H' p' => ⟨xs.length - (i + 1), by omega, rfl, hlt, p'⟩, fun x H' y => ?_⟩
    obtain ⟨e, y⟩ := y
    subst e
    exact hs i x σ _ (y xs q) p
  · have e : i = xs.length := by omega
    subst e
    exact .inl ⟨⟨xs, q, Nat.le_refl _⟩, hd σ H p⟩
theorem for_range {lo : Int} {n : Nat} {g : TG} {tb : TS} {D : Ends} {σ : St} {H : Hp} (Pv : Nat → St → Hp → Prop) (h0 : Pv 0 σ H)
    (hs : ∀ i σ H, i < n → Pv i σ H → g (.int (lo + i)) σ H fun σ2 H2 => tb { D with nx := Pv (i + 1), ct := Pv (i + 1), bk := D.nx } σ2 H2) (hd : ∀ σ H, Pv n σ H → D.nx σ H) :
    ∃ W : Nat → Nat → St → Hp → Prop, (∃ m, W 0 m σ H) ∧ ∀ i m σ H, W i m σ H →
      ((Itr lo n).stop i H ∧ D.nx σ H) ∨ ((Itr lo n).go i H ∧ ∃ N : St → Hp → Prop, (∀ σ' H', N σ' H' → ∃ m', m' < m ∧ W (i + 1) m' σ' H') ∧ ∀ x H', (Itr lo n).yld i H x H' → g x σ H' fun σ2 H2 => tb { D with nx := N, ct := N, bk := D.nx } σ2 H2) := by
  refine ⟨fun i m σ H => m = n - i ∧ i ≤ n ∧ Pv i σ H, ⟨n, by simp, Nat.zero_le _, h0⟩, ?_⟩
  rintro i m σ H ⟨rfl, hi, p⟩
  by_cases hlt : i < n
  · refine .inr ⟨hlt, Pv (i + 1), fun σ' H' p' => ⟨n - (i + 1), by omega, rfl, hlt, p'⟩, fun x H' y => ?_⟩
    obtain ⟨e, y⟩ := y
    subst e y
    exact hs i σ _ hlt p
  · have e : i = n := by omega
    subst e
    exact .inl ⟨Nat.le_refl _, hd σ H p⟩
/-- while, by a word and a measure of the state -/
theorem while_by {c : TT} {tb : TS} {D : Ends} {σ : St} {H : Hp} (Pv : St → Hp → Prop) (μ : St → Hp → Nat) (h0 : Pv σ H)
    (hs : ∀ σ H, Pv σ H → c σ H fun b H1 => if b = true then tb { D with nx := fun σ' H' => Pv σ' H' ∧ μ σ' H' < μ σ H, ct := fun σ' H' => Pv σ' H' ∧ μ σ' H' < μ σ H, bk := D.nx } σ H1 else D.nx σ H1)
    (mono : ∀ σ H Q Q', (∀ b H1, Q b H1 → Q' b H1) → c σ H Q → c σ H Q') : tWhile c tb D σ H := by
  refine ⟨fun m σ H => m = μ σ H ∧ Pv σ H, ⟨_, rfl, h0⟩, ?_⟩
  rintro m σ H ⟨rfl, p⟩
  refine mono σ H _ _ (fun b H1 q => ?_) (hs σ H p)
  cases b with
  | true => exact ⟨_, fun σ' H' ⟨p', l⟩ => ⟨_, l, rfl, p'⟩, q⟩
  | false => exact q
end L2

namespace L2
open PySem PySem.Spec PyProof.Rows

abbrev R2 := V → V → Hp → VK → Prop
/-- a two-place operation on values: f is binaryOp op, inplaceOp op or compareOp op -/
def OpR (X : Cx) (f : Value → Value → Sem Value) (r : R2) : Prop :=
  ∀ (pins : List (Addr × Obj)) (s : Shared) (σ : St) (H : Hp) (x y : V) (v u : Value) (Q : VK), Inv X pins σ H s → RelV x v → RelV y u → r x y H Q →
    wpAny (model X.prog X.w) X.A (f v u) (EP X pins σ Q) X.xe s
/-- a one-place operation -/
def UnR (X : Cx) (f : Value → Sem Value) (r : V → Hp → VK → Prop) : Prop :=
  ∀ (pins : List (Addr × Obj)) (s : Shared) (σ : St) (H : Hp) (x : V) (v : Value) (Q : VK), Inv X pins σ H s → RelV x v → r x H Q →
    wpAny (model X.prog X.w) X.A (f v) (EP X pins σ Q) X.xe s
/-- a call of a value that is known (a builtin, a type) with values -/
def CallR (X : Cx) (f : Value) (r : List V → Hp → VK → Prop) : Prop :=
  ∀ (pins : List (Addr × Obj)) (s : Shared) (σ : St) (H : Hp) (xs : List V) (us : List Value) (Q : VK), Inv X pins σ H s → Vals xs us → r xs H Q →
    wpAny (model X.prog X.w) X.A (call f us) (EP X pins σ Q) X.xe s
/-- a value's truth -/
def TruR (X : Cx) (r : V → Hp → (Bool → Hp → Prop) → Prop) : Prop :=
  ∀ (pins : List (Addr × Obj)) (s : Shared) (σ : St) (H : Hp) (x : V) (v : Value) (Q : Bool → Hp → Prop), Inv X pins σ H s → RelV x v → r x H Q →
    wpAny (model X.prog X.w) X.A (truthy v) (TP X pins σ Q) X.xe s

def tOp (r : R2) (ta tb : TE) : TE := fun σ H Q => ta σ H fun x H1 => tb σ H1 fun y H2 => r x y H2 Q
def tUn (r : V → Hp → VK → Prop) (ta : TE) : TE := fun σ H Q => ta σ H fun x H1 => r x H1 Q
/-- ints in, under C, and a value out -/
def rI (C : Int → Int → Prop) (g : Int → Int → V) : R2 := fun x y H Q => ∃ i j, x = .int i ∧ y = .int j ∧ C i j ∧ Q (g i j) H
def rI0 (g : Int → Int → V) : R2 := fun x y H Q => ∃ i j, x = .int i ∧ y = .int j ∧ Q (g i j) H
def rU (g : Int → V) : V → Hp → VK → Prop := fun x H Q => ∃ i, x = .int i ∧ Q (g i) H

section
variable {X : Cx} {a b c : Expr} {ta tb tc : TE} {pos : Pos}

theorem binT (ha : PE X a ta) (hb : PE X b tb) {pins : List (Addr × Obj)} {s : Shared} {σ : St} {H : Hp} {R : V → V → Hp → Prop} (I : Inv X pins σ H s)
    (h : ta σ H fun x H1 => tb σ H1 fun y H2 => R x y H2) {Q : Value → Shared → Prop} {f : Value → Value → Sem Value}
    (hf : ∀ v u s2 x y H2, Inv X pins σ H2 s2 → RelV x v → RelV y u → R x y H2 → wpAny (model X.prog X.w) X.A (f v u) Q X.xe s2) :
    wpAny (model X.prog X.w) X.A (eval a X.env) (fun v s₁ => wpAny (model X.prog X.w) X.A (eval b X.env) (fun u s₂ => wpAny (model X.prog X.w) X.A (f v u) Q X.xe s₂) X.xe s₁) X.xe s := by
  refine thn (ha pins s σ H _ I h) fun v s1 ⟨x, H1, I1, r1, q1⟩ => ?_
  refine thn (hb pins s1 σ H1 _ I1 q1) fun u s2 ⟨y, H2, I2, r2, q2⟩ => ?_
  exact hf v u s2 x y H2 I2 r1 r2 q2

theorem pe_op {op : Operator} {r : R2} (ho : OpR X (binaryOp op) r) (ha : PE X a ta) (hb : PE X b tb) : PE X (.BinOp a op b pos) (tOp r ta tb) := by
  intro pins s σ H Q I h
  exact wpAny_BinOp (binT ha hb I h fun v u s2 x y H2 I2 rx ry q => ho pins s2 σ H2 x y v u Q I2 rx ry q)
theorem pe_un {op : UnaryOp} {r : V → Hp → VK → Prop} (ho : UnR X (unaryOp op) r) (ha : PE X a ta) : PE X (.UnaryOp op a pos) (tUn r ta) := by
  intro pins s σ H Q I h
  exact UnaryOp_ (thn (ha pins s σ H _ I h) fun v s1 ⟨x, H1, I1, r1, q1⟩ => ho pins s1 σ H1 x v Q I1 r1 q1)
/-- a op= e at a name: the name's slot i -/
theorem augR {op : Operator} {r : R2} (ho : OpR X (inplaceOp op) r) {pins : List (Addr × Obj)} {s : Shared} {σ : St} {H : Hp} {x y : V} {v u : Value} {Q : VK} (I : Inv X pins σ H s)
    (rx : RelV x v) (ry : RelV y u) (q : r x y H Q) : wpAny (model X.prog X.w) X.A (inplaceOp op v u) (EP X pins σ Q) X.xe s := ho pins s σ H x y v u Q I rx ry q

/-! ### ints -/
theorem opI {f : Value → Value → Sem Value} {C : Int → Int → Prop} {g : Int → Int → Int}
    (rule : ∀ (i j : Int) (t u : Tok) (s : Shared) (Q : Value → Shared → Prop) (E : Value → Shared → Prop), C i j → Q (.int (g i j) s.toks) { s with toks := s.toks + 1 } → wpAny (model X.prog X.w) X.A (f (.int i t) (.int j u)) Q E s) :
    OpR X f (rI C fun i j => .int (g i j)) := by
  intro pins s σ H x y v u Q I rx ry h
  obtain ⟨i, j, rfl, rfl, hc, q⟩ := h
  obtain ⟨t, rfl⟩ := rx
  obtain ⟨t', rfl⟩ := ry
  exact rule i j t t' s _ _ hc ⟨.int (g i j), H, I.tok _, ⟨_, rfl⟩, q⟩
theorem opI0 {f : Value → Value → Sem Value} {g : Int → Int → Int}
    (rule : ∀ (i j : Int) (t u : Tok) (s : Shared) (Q : Value → Shared → Prop) (E : Value → Shared → Prop), Q (.int (g i j) s.toks) { s with toks := s.toks + 1 } → wpAny (model X.prog X.w) X.A (f (.int i t) (.int j u)) Q E s) :
    OpR X f (rI0 fun i j => .int (g i j)) := by
  intro pins s σ H x y v u Q I rx ry h
  obtain ⟨i, j, rfl, rfl, q⟩ := h
  obtain ⟨t, rfl⟩ := rx
  obtain ⟨t', rfl⟩ := ry
  exact rule i j t t' s _ _ ⟨.int (g i j), H, I.tok _, ⟨_, rfl⟩, q⟩
theorem opB0 {f : Value → Value → Sem Value} {g : Int → Int → Bool}
    (rule : ∀ (i j : Int) (t u : Tok) (s : Shared) (Q : Value → Shared → Prop) (E : Value → Shared → Prop), Q (.bool (g i j)) s → wpAny (model X.prog X.w) X.A (f (.int i t) (.int j u)) Q E s) :
    OpR X f (rI0 fun i j => .bl (g i j)) := by
  intro pins s σ H x y v u Q I rx ry h
  obtain ⟨i, j, rfl, rfl, q⟩ := h
  obtain ⟨t, rfl⟩ := rx
  obtain ⟨t', rfl⟩ := ry
  exact rule i j t t' s _ _ ⟨.bl (g i j), H, I, rfl, q⟩

def CDiv (i j : Int) : Prop := 0 < j ∧ j < 1073741824
def CDivN (i j : Int) : Prop := j ≠ 0 ∧ j.natAbs < 1073741824
def CPow (i j : Int) : Prop := 0 ≤ j ∧ j ≤ 1000000 ∧ i.natAbs < 2 ^ 64
def CMul (i j : Int) : Prop := (-(2 ^ 64) < i ∧ i < 2 ^ 64) ∨ (-(2 ^ 64) < j ∧ j < 2 ^ 64)
theorem CMul.ok {i j : Int} (h : CMul i j) : IntMulOk i j := by
  rcases h with ⟨h1, h2⟩ | ⟨h1, h2⟩
  · exact .of_left (intBits_le_64 h1 h2)
  · exact .of_right (intBits_le_64 h1 h2)
theorem two_pow_nn (k : Nat) : (0 : Int) ≤ 2 ^ k := by
  rw [two_pow_cast]
  exact Int.natCast_nonneg _

theorem op_add : OpR X (binaryOp .Add) (rI0 fun i j => .int (i + j)) := opI0 fun _ _ _ _ _ _ _ q => add_int q
theorem op_sub : OpR X (binaryOp .Sub) (rI0 fun i j => .int (i - j)) := opI0 fun _ _ _ _ _ _ _ q => sub_int q
theorem op_mul : OpR X (binaryOp .Mult) (rI CMul fun i j => .int (i * j)) := opI fun _ _ _ _ _ _ _ hc q => mul_int q hc.ok
/-- // by a positive divisor -/
theorem op_fdiv : OpR X (binaryOp .FloorDiv) (rI CDiv fun i j => .int (i / j)) := opI fun i j _ _ _ _ _ hc q => by
  have h1 : (0 : Int) < j := hc.1
  have h2 : j < 1073741824 := hc.2
  exact floordiv_int (by omega) (by rw [Int.fdiv_eq_ediv_of_nonneg i (by omega)]; exact q) (.inl (PyProof.noPylong_small (by omega)))
theorem op_fdivN : OpR X (binaryOp .FloorDiv) (rI CDivN fun i j => .int (i.fdiv j)) := opI fun _ _ _ _ _ _ _ hc q => floordiv_int hc.1 q (.inl (PyProof.noPylong_small hc.2))
/-- % by a positive divisor of any size -/
theorem op_mod : OpR X (binaryOp .Mod) (rI (fun _ j => 0 < j) fun i j => .int (i % j)) := opI fun i j _ _ _ _ _ hc q => by
  have h1 : (0 : Int) < j := hc
  exact mod_int' (by omega) (by rw [Int.fmod_eq_emod_of_nonneg i (by omega)]; exact q)
theorem op_modN : OpR X (binaryOp .Mod) (rI (fun _ j => j ≠ 0) fun i j => .int (i.fmod j)) := opI fun _ _ _ _ _ _ _ hc q => mod_int' hc q
theorem op_pow : OpR X (binaryOp .Pow) (rI CPow fun i j => .int (i ^ j.toNat)) := opI fun _ _ _ _ _ _ _ hc q => pow_int_small hc.1 hc.2.1 hc.2.2 q
theorem op_shl : OpR X (binaryOp .LShift) (rI CPow fun i j => .int (i * 2 ^ j.toNat)) := opI fun _ _ _ _ _ _ _ hc q => lshift_int_small hc.1 hc.2.1 hc.2.2 q
theorem op_shr : OpR X (binaryOp .RShift) (rI (fun _ j => 0 ≤ j) fun i j => .int (i / 2 ^ j.toNat)) := opI fun i j _ _ _ _ _ hc q =>
  rshift_int hc (by rw [Int.fdiv_eq_ediv_of_nonneg i (two_pow_nn _)]; exact q)
theorem op_and : OpR X (binaryOp .BitAnd) (rI0 fun i j => .int (Builtin.bitAnd i j)) := opI0 fun _ _ _ _ _ _ _ q => and_int q
theorem op_or : OpR X (binaryOp .BitOr) (rI0 fun i j => .int (Builtin.bitOr i j)) := opI0 fun _ _ _ _ _ _ _ q => or_int q
theorem op_xor : OpR X (binaryOp .BitXor) (rI0 fun i j => .int (Builtin.bitXor i j)) := opI0 fun _ _ _ _ _ _ _ q => xor_int q

theorem iop_add : OpR X (inplaceOp .Add) (rI0 fun i j => .int (i + j)) := opI0 fun _ _ _ _ _ _ _ q => iadd_int q
theorem iop_sub : OpR X (inplaceOp .Sub) (rI0 fun i j => .int (i - j)) := opI0 fun _ _ _ _ _ _ _ q => isub_int q
theorem iop_mul : OpR X (inplaceOp .Mult) (rI CMul fun i j => .int (i * j)) := opI fun _ _ _ _ _ _ _ hc q => imul_int q hc.ok
theorem iop_fdiv : OpR X (inplaceOp .FloorDiv) (rI CDiv fun i j => .int (i / j)) := opI fun i j _ _ _ _ _ hc q => by
  have h1 : (0 : Int) < j := hc.1
  have h2 : j < 1073741824 := hc.2
  exact ifloordiv_int (by omega) (by rw [Int.fdiv_eq_ediv_of_nonneg i (by omega)]; exact q) (.inl (PyProof.noPylong_small (by omega)))
theorem iop_mod : OpR X (inplaceOp .Mod) (rI (fun _ j => 0 < j) fun i j => .int (i % j)) := opI fun i j _ _ _ _ _ hc q => by
  have h1 : (0 : Int) < j := hc
  exact imod_int (by omega) (by rw [Int.fmod_eq_emod_of_nonneg i (by omega)]; exact q)
theorem iop_shl : OpR X (inplaceOp .LShift) (rI CPow fun i j => .int (i * 2 ^ j.toNat)) := opI fun _ _ _ _ _ _ _ hc q => ilshift_int_small hc.1 hc.2.1 hc.2.2 q
theorem iop_shr : OpR X (inplaceOp .RShift) (rI (fun _ j => 0 ≤ j) fun i j => .int (i / 2 ^ j.toNat)) := opI fun i j _ _ _ _ _ hc q =>
  irshift_int hc (by rw [Int.fdiv_eq_ediv_of_nonneg i (two_pow_nn _)]; exact q)
theorem iop_and : OpR X (inplaceOp .BitAnd) (rI0 fun i j => .int (Builtin.bitAnd i j)) := opI0 fun _ _ _ _ _ _ _ q => iand_int q
theorem iop_or : OpR X (inplaceOp .BitOr) (rI0 fun i j => .int (Builtin.bitOr i j)) := opI0 fun _ _ _ _ _ _ _ q => ior_int q
theorem iop_xor : OpR X (inplaceOp .BitXor) (rI0 fun i j => .int (Builtin.bitXor i j)) := opI0 fun _ _ _ _ _ _ _ q => ixor_int q

theorem unI {f : Value → Sem Value} {g : Int → Int}
    (rule : ∀ (i : Int) (t : Tok) (s : Shared) (Q : Value → Shared → Prop) (E : Value → Shared → Prop), Q (.int (g i) s.toks) { s with toks := s.toks + 1 } → wpAny (model X.prog X.w) X.A (f (.int i t)) Q E s) :
    UnR X f (rU fun i => .int (g i)) := by
  intro pins s σ H x v Q I rx h
  obtain ⟨i, rfl, q⟩ := h
  obtain ⟨t, rfl⟩ := rx
  exact rule i t s _ _ ⟨.int (g i), H, I.tok _, ⟨_, rfl⟩, q⟩
theorem un_neg : UnR X (unaryOp .USub) (rU fun i => .int (-i)) := unI fun _ _ _ _ _ q => neg_int q
theorem un_inv : UnR X (unaryOp .Invert) (rU fun i => .int (Builtin.bitNot i)) := unI fun _ _ _ _ _ q => invert_int q

/-! ### bools among ints: n += (a < b) -/
theorem op_add_ib : OpR X (binaryOp .Add) (fun x y H Q => ∃ i k, x = .int i ∧ y = .bl k ∧ Q (.int (i + b2i k)) H) := by
  intro pins s σ H x y v u Q I rx ry h
  obtain ⟨i, k, rfl, rfl, q⟩ := h
  obtain ⟨t, rfl⟩ := rx
  cases ry
  exact add_int_bool ⟨.int (i + b2i k), H, I.tok _, ⟨_, rfl⟩, q⟩
end

/-! ### comparisons -/
/-- the scalars that == tells apart as data does -/
def scal : V → V → Bool
  | .non, .non => true | .non, .int _ => true | .int _, .non => true | .non, .bl _ => true | .bl _, .non => true | .non, .str _ => true | .str _, .non => true
  | .int _, .int _ => true | .bl _, .bl _ => true | .str _, .str _ => true | .byt _, .byt _ => true
  | .int _, .str _ => true | .str _, .int _ => true | .bl _, .str _ => true | .str _, .bl _ => true
  | _, _ => false
def rEq : R2 := fun x y H Q => scal x y = true ∧ Q (.bl (decide (x = y))) H
def rNe : R2 := fun x y H Q => scal x y = true ∧ Q (.bl (!decide (x = y))) H

theorem dec_int {i j : Int} : decide (V.int i = V.int j) = (i == j) := by
  rw [Bool.eq_iff_iff]
  simp
theorem dec_bl {i j : Bool} : decide (V.bl i = V.bl j) = (i == j) := by
  rw [Bool.eq_iff_iff]
  simp
theorem dec_str {i j : Str} : decide (V.str i = V.str j) = (i == j) := by
  rw [Bool.eq_iff_iff]
  simp
theorem dec_byt {i j : Array UInt8} : decide (V.byt i = V.byt j) = (i.toList == j.toList) := by
  rw [Bool.eq_iff_iff]
  cases i
  cases j
  simp

section
variable {X : Cx} {a b c : Expr} {ta tb tc : TE} {pos : Pos}
theorem fin_bl {pins : List (Addr × Obj)} {σ : St} {H : Hp} {s : Shared} {Q : VK} {k k' : Bool} (I : Inv X pins σ H s) (q : Q (.bl k) H) (e : k = k') : EP X pins σ Q (.bool k') s := by
  subst e
  exact ⟨.bl k, H, I, rfl, q⟩
theorem op_eq : OpR X (compareOp .Eq) rEq := by
  intro pins s σ H x y v u Q I rx ry h
  obtain ⟨hs, q⟩ := h
  cases x with
  | non =>
    cases rx
    cases y with
    | non => cases ry; exact PySem.EqNone.eq_none_none (fin_bl I q (by simp))
    | bl j => cases ry; exact PySem.EqNone.eq_none_bool (fin_bl I q (by simp))
    | int j => obtain ⟨t', rfl⟩ := ry; exact PySem.EqNone.eq_none_int (fin_bl I q (by simp))
    | str j => obtain ⟨t', rfl⟩ := ry; exact PySem.EqNone.eq_none_str (fin_bl I q (by simp))
    | _ => exact absurd (show false = true from hs) Bool.false_ne_true
  | bl i =>
    cases rx
    cases y with
    | non => cases ry; exact PySem.EqNone.eq_bool_none (fin_bl I q (by simp))
    | bl j => cases ry; exact eq_bool (fin_bl I q dec_bl)
    | str j => obtain ⟨t', rfl⟩ := ry; exact PySem.EqMixed.eq_bool_str (fin_bl I q (by simp))
    | _ => exact absurd (show false = true from hs) Bool.false_ne_true
  | int i =>
    obtain ⟨t, rfl⟩ := rx
    cases y with
    | non => cases ry; exact PySem.EqNone.eq_int_none (fin_bl I q (by simp))
    | int j => obtain ⟨t', rfl⟩ := ry; exact eq_int (fin_bl I q dec_int)
    | str j => obtain ⟨t', rfl⟩ := ry; exact PySem.EqMixed.eq_int_str (fin_bl I q (by simp))
    | _ => exact absurd (show false = true from hs) Bool.false_ne_true
  | str i =>
    obtain ⟨t, rfl⟩ := rx
    cases y with
    | non => cases ry; exact PySem.EqNone.eq_str_none (fin_bl I q (by simp))
    | bl j => cases ry; exact PySem.EqMixed.eq_str_bool (fin_bl I q (by simp))
    | int j => obtain ⟨t', rfl⟩ := ry; exact PySem.EqMixed.eq_str_int (fin_bl I q (by simp))
    | str j => obtain ⟨t', rfl⟩ := ry; exact eq_str (fin_bl I q dec_str)
    | _ => exact absurd (show false = true from hs) Bool.false_ne_true
  | byt i =>
    obtain ⟨t, rfl⟩ := rx
    cases y with
    | byt j => obtain ⟨t', rfl⟩ := ry; exact PySem.W.eq_bytes (fin_bl I q dec_byt)
    | _ => exact absurd (show false = true from hs) Bool.false_ne_true
  | _ => cases y <;> exact absurd (show false = true from hs) Bool.false_ne_true
theorem op_ne : OpR X (compareOp .NotEq) rNe := by
  intro pins s σ H x y v u Q I rx ry h
  obtain ⟨hs, q⟩ := h
  cases x with
  | non =>
    cases rx
    cases y with
    | non => cases ry; exact PySem.EqNone.ne_none_none (fin_bl I q (by simp))
    | bl j => cases ry; exact PySem.EqNone.ne_none_bool (fin_bl I q (by simp))
    | int j => obtain ⟨t', rfl⟩ := ry; exact PySem.EqNone.ne_none_int (fin_bl I q (by simp))
    | str j => obtain ⟨t', rfl⟩ := ry; exact PySem.EqNone.ne_none_str (fin_bl I q (by simp))
    | _ => exact absurd (show false = true from hs) Bool.false_ne_true
  | bl i =>
    cases rx
    cases y with
    | non => cases ry; exact PySem.EqNone.ne_bool_none (fin_bl I q (by simp))
    | bl j => cases ry; exact ne_bool (fin_bl I q (congrArg not dec_bl))
    | str j => obtain ⟨t', rfl⟩ := ry; exact PySem.EqMixed.ne_bool_str (fin_bl I q (by simp))
    | _ => exact absurd (show false = true from hs) Bool.false_ne_true
  | int i =>
    obtain ⟨t, rfl⟩ := rx
    cases y with
    | non => cases ry; exact PySem.EqNone.ne_int_none (fin_bl I q (by simp))
    | int j => obtain ⟨t', rfl⟩ := ry; exact ne_int (fin_bl I q (congrArg not dec_int))
    | str j => obtain ⟨t', rfl⟩ := ry; exact PySem.EqMixed.ne_int_str (fin_bl I q (by simp))
    | _ => exact absurd (show false = true from hs) Bool.false_ne_true
  | str i =>
    obtain ⟨t, rfl⟩ := rx
    cases y with
    | non => cases ry; exact PySem.EqNone.ne_str_none (fin_bl I q (by simp))
    | bl j => cases ry; exact PySem.EqMixed.ne_str_bool (fin_bl I q (by simp))
    | int j => obtain ⟨t', rfl⟩ := ry; exact PySem.EqMixed.ne_str_int (fin_bl I q (by simp))
    | str j => obtain ⟨t', rfl⟩ := ry; exact ne_str (fin_bl I q (congrArg not dec_str))
    | _ => exact absurd (show false = true from hs) Bool.false_ne_true
  | byt i =>
    obtain ⟨t, rfl⟩ := rx
    cases y with
    | byt j => obtain ⟨t', rfl⟩ := ry; exact PySem.W.ne_bytes (fin_bl I q (congrArg not dec_byt))
    | _ => exact absurd (show false = true from hs) Bool.false_ne_true
  | _ => cases y <;> exact absurd (show false = true from hs) Bool.false_ne_true

theorem op_lt : OpR X (compareOp .Lt) (rI0 fun i j => .bl (decide (i < j))) := opB0 fun _ _ _ _ _ _ _ q => lt_int q
theorem op_le : OpR X (compareOp .LtE) (rI0 fun i j => .bl (decide (i ≤ j))) := opB0 fun _ _ _ _ _ _ _ q => le_int q
theorem op_gt : OpR X (compareOp .Gt) (rI0 fun i j => .bl (decide (j < i))) := opB0 fun _ _ _ _ _ _ _ q => gt_int q
theorem op_ge : OpR X (compareOp .GtE) (rI0 fun i j => .bl (decide (j ≤ i))) := opB0 fun _ _ _ _ _ _ _ q => ge_int q
theorem op_lt_str : OpR X (compareOp .Lt) (fun x y H Q => ∃ i j, x = .str i ∧ y = .str j ∧ Q (.bl (decide (i.cps.toList < j.cps.toList))) H) := by
  intro pins s σ H x y v u Q I rx ry h
  obtain ⟨i, j, rfl, rfl, q⟩ := h
  obtain ⟨t, rfl⟩ := rx
  obtain ⟨t', rfl⟩ := ry
  exact lt_str (fin_bl I q rfl)
/-- the one string within the other -/
theorem op_in_str : OpR X (compareOp .In) (fun x y H Q => ∃ i j, x = .str i ∧ y = .str j ∧ Q (.bl (!(Builtin.Str.occurrences j i 0 j.length 1).isEmpty)) H) := by
  intro pins s σ H x y v u Q I rx ry h
  obtain ⟨i, j, rfl, rfl, q⟩ := h
  obtain ⟨t, rfl⟩ := rx
  obtain ⟨t', rfl⟩ := ry
  exact in_str (fin_bl I q rfl)

/-- is None, is not None: the right side a value none -/
theorem op_isN : OpR X (compareOp .Is) (fun x y H Q => y = .non ∧ Q (.bl (decide (x = .non))) H) := by
  intro pins s σ H x y v u Q I rx ry h
  obtain ⟨rfl, q⟩ := h
  cases ry
  refine is_none_gen (fin_bl I q ?_)
  cases x <;> first
    | (cases rx; rfl)
    | (obtain ⟨t, rfl⟩ := rx; rfl)
theorem op_notN : OpR X (compareOp .IsNot) (fun x y H Q => y = .non ∧ Q (.bl (!decide (x = .non))) H) := by
  intro pins s σ H x y v u Q I rx ry h
  obtain ⟨rfl, q⟩ := h
  cases ry
  refine isnot_none_gen (fin_bl I q ?_)
  cases x <;> first
    | (cases rx; rfl)
    | (obtain ⟨t, rfl⟩ := rx; rfl)

theorem op_notin_str : OpR X (compareOp .NotIn) (fun x y H Q => ∃ i j, x = .str i ∧ y = .str j ∧ Q (.bl (!(!(Builtin.Str.occurrences j i 0 j.length 1).isEmpty))) H) := by
  intro pins s σ H x y v u Q I rx ry h
  obtain ⟨i, j, rfl, rfl, q⟩ := h
  obtain ⟨t, rfl⟩ := rx
  obtain ⟨t', rfl⟩ := ry
  exact notIn_str (fin_bl I q rfl)
/-- is, is not of two objects that are tracked lists or instances -/
def isObj : HO → Bool
  | .lst _ => true
  | .ins _ _ _ => true
  | _ => false
theorem obj_there {pins : List (Addr × Obj)} {s : Shared} {σ : St} {H : Hp} {a : Addr} {o : HO} (I : Inv X pins σ H s) (h : H a = some o) (p : isObj o = true) : ∃ ob, s.heap.get? a = some ob ∧ ob.cls ≠ .type "tuple" := by
  cases o with
  | lst xs =>
    obtain ⟨_, its, n, _, e⟩ : xs.length ≤ sizeLine ∧ ∃ (its : List Value) (n : Nat), Vals xs its ∧ s.heap.get? a = some { cls := .type "list", data := .seq its.toArray n } := I.hok a _ h
    exact ⟨_, e, (by show Value.type "list" ≠ .type "tuple"; decide +kernel)⟩
  | ins C dx fs =>
    have x := I.hok a _ h
    obtain ⟨_, _, _, e, _⟩ := x
    exact ⟨_, e, (by show Value.ref C ≠ .type "tuple"; exact fun z => by cases z)⟩
  | _ => exact absurd (show false = true from p) Bool.false_ne_true
theorem op_is_ref : OpR X (compareOp .Is) (fun x y H Q => ∃ a b oa ob, x = .ref a ∧ y = .ref b ∧ H a = some oa ∧ isObj oa = true ∧ H b = some ob ∧ isObj ob = true ∧ Q (.bl (decide (a = b))) H) := by
  intro pins s σ H x y v u Q I rx ry h
  obtain ⟨a, b, oa, ob, rfl, rfl, ha, pa, hb, pb, q⟩ := h
  cases rx
  cases ry
  obtain ⟨o1, e1, n1⟩ := obj_there I ha pa
  obtain ⟨o2, e2, _⟩ := obj_there I hb pb
  by_cases z : a = b
  · subst z
    exact wpAny_is_ref_self (fin_bl I q (by simp))
  · exact wpAny_is_ref_other z e1 e2 n1 (fin_bl I q (by simp [z]))
theorem op_isnot_ref : OpR X (compareOp .IsNot) (fun x y H Q => ∃ a b oa ob, x = .ref a ∧ y = .ref b ∧ H a = some oa ∧ isObj oa = true ∧ H b = some ob ∧ isObj ob = true ∧ Q (.bl (!decide (a = b))) H) := by
  intro pins s σ H x y v u Q I rx ry h
  obtain ⟨a, b, oa, ob, rfl, rfl, ha, pa, hb, pb, q⟩ := h
  cases rx
  cases ry
  obtain ⟨o1, e1, n1⟩ := obj_there I ha pa
  obtain ⟨o2, e2, _⟩ := obj_there I hb pb
  by_cases z : a = b
  · subst z
    exact wpAny_isNot_ref_self (fin_bl I q (by simp))
  · exact wpAny_isNot_ref_other z e1 e2 n1 (fin_bl I q (by simp [z]))

/-- two rules for one operation: by cases -/
theorem OpR.or {f : Value → Value → Sem Value} {r r' : R2} (h : OpR X f r) (h' : OpR X f r') : OpR X f (fun x y H Q => r x y H Q ∨ r' x y H Q) := by
  intro pins s σ H x y v u Q I rx ry q
  rcases q with q | q
  · exact h pins s σ H x y v u Q I rx ry q
  · exact h' pins s σ H x y v u Q I rx ry q

theorem nomark (b : Expr) {op : CmpOp} (h : op ≠ .In := by decide) (h2 : op ≠ .NotIn := by decide) : behindInMarks op b = false := by
  have e1 : (op == CmpOp.In) = false := by cases op <;> first | rfl | exact absurd rfl h
  have e2 : (op == CmpOp.NotIn) = false := by cases op <;> first | rfl | exact absurd rfl h2
  cases b <;> simp [behindInMarks, e1, e2]
/-- a comparison as a value; hm: nomark b, or (for in, not in) by with_unfolding_all rfl -/
theorem pe_cmpR {op : CmpOp} {r : R2} (ho : OpR X (compareOp op) r) (ha : PE X a ta) (hb : PE X b tb) (hm : behindInMarks op b = false) : PE X (.Compare a [op] [b] pos) (tOp r ta tb) := by
  intro pins s σ H Q I h
  exact wpAny_Compare1 (binT ha hb I h fun v u s2 x y H2 I2 rx ry q => ho pins s2 σ H2 x y v u Q I2 rx ry q) hm
/-- a reading of a value as a test -/
def tTest (t : TE) : TT := fun σ H Q => t σ H fun x H' => ∃ k, x = .bl k ∧ Q k H'
theorem pt_cmpR {op : CmpOp} {r : R2} (ho : OpR X (compareOp op) r) (ha : PE X a ta) (hb : PE X b tb) (hm : behindInMarks op b = false) : PT X (.Compare a [op] [b] pos) (tTest (tOp r ta tb)) := by
  intro pins s σ H Q I h
  refine wpAny_isTrue_Compare1 (thn (ha pins s σ H _ I h) fun v s1 ⟨x, H1, I1, r1, q1⟩ => thn (hb pins s1 σ H1 _ I1 q1) fun u s2 ⟨y, H2, I2, r2, q2⟩ =>
    thn (ho pins s2 σ H2 x y v u _ I2 r1 r2 q2) fun c s3 ⟨z, H3, I3, r3, k, e, q3⟩ => ?_) hm
  subst e
  cases r3
  exact wpAny_truthy_bool ⟨H3, I3, q3⟩
/-- a op1 b op2 c -/
def tChain (r r' : R2) (ta tb tc : TE) : TE := fun σ H Q => ta σ H fun x H1 => tb σ H1 fun y H2 => r x y H2 fun z H3 => ∃ k, z = .bl k ∧
  (if k = true then tc σ H3 fun w' H4 => r' y w' H4 Q else Q (.bl false) H3)
theorem pe_chain {op op' : CmpOp} {r r' : R2} (ho : OpR X (compareOp op) r) (ho' : OpR X (compareOp op') r') (ha : PE X a ta) (hb : PE X b tb) (hc : PE X c tc)
    (hm : lastMarks [op, op'] [b, c] = false := by with_unfolding_all rfl) : PE X (.Compare a [op, op'] [b, c] pos) (tChain r r' ta tb tc) := by
  intro pins s σ H Q I h
  refine Compare_chain (thn (ha pins s σ H _ I h) fun v s1 ⟨x, H1, I1, r1, q1⟩ => chain_link (thn (hb pins s1 σ H1 _ I1 q1) fun u s2 ⟨y, H2, I2, r2, q2⟩ =>
    thn (ho pins s2 σ H2 x y v u _ I2 r1 r2 q2) fun d s3 ⟨z, H3, I3, r3, k, e, q3⟩ => ?_)) hm
  subst e
  cases r3
  refine wpAny_truthy_bool ?_
  cases k with
  | false => exact ite_ff ⟨.bl false, H3, I3, rfl, q3⟩
  | true => exact ite_tt (chain_last (thn (hc pins s3 σ H3 _ I3 q3) fun w' s4 ⟨z', H4, I4, r4, q4⟩ => ho' pins s4 σ H4 y z' u w' Q I4 r2 r4 q4))
theorem pt_chain {op op' : CmpOp} {r r' : R2} (ho : OpR X (compareOp op) r) (ho' : OpR X (compareOp op') r') (ha : PE X a ta) (hb : PE X b tb) (hc : PE X c tc)
    (hm : lastMarks [op, op'] [b, c] = false := by with_unfolding_all rfl) : PT X (.Compare a [op, op'] [b, c] pos) (tTest (tChain r r' ta tb tc)) := by
  intro pins s σ H Q I h
  refine isTrue_chain (thn (ha pins s σ H _ I h) fun v s1 ⟨x, H1, I1, r1, q1⟩ => test_link (thn (hb pins s1 σ H1 _ I1 q1) fun u s2 ⟨y, H2, I2, r2, q2⟩ =>
    thn (ho pins s2 σ H2 x y v u _ I2 r1 r2 q2) fun d s3 ⟨z, H3, I3, r3, k, e, q3⟩ => ?_)) hm
  subst e
  cases r3
  refine wpAny_truthy_bool ?_
  cases k with
  | false =>
    obtain ⟨k', e', q'⟩ := q3
    cases e'
    exact ite_ff ⟨H3, I3, q'⟩
  | true =>
    refine ite_tt (test_last (thn (hc pins s3 σ H3 _ I3 q3) fun w' s4 ⟨z', H4, I4, r4, q4⟩ => thn (ho' pins s4 σ H4 y z' u w' _ I4 r2 r4 q4) fun d' s5 ⟨z2, H5, I5, r5, k2, e2, q5⟩ => ?_))
    subst e2
    cases r5
    exact wpAny_truthy_bool ⟨H5, I5, q5⟩

/-! ### truth -/
/-- a value's truth by the abstract heap -/
def TruV (K : PySem.W.Frag) (x : V) (H : Hp) (k : Bool) : Prop :=
  match x with
  | .non => k = false
  | .bl b => k = b
  | .int i => k = (i != 0)
  | .str y => y.length ≤ sizeLine ∧ k = ((y.length : Int) != 0)
  | .byt y => y.size ≤ sizeLine ∧ k = ((y.size : Int) != 0)
  | .ref p => (∃ xs, SqL K H p xs ∧ k = !xs.isEmpty) ∨ (∃ xs, SqT K H p xs ∧ k = !xs.isEmpty) ∨ ∃ kvs, H p = some (.dK kvs) ∧ k = !kvs.isEmpty
  | _ => False
theorem isEmpty_kv {κ : Type} {kvs : List (κ × V)} {vs : List (κ × Value)} (r : KV kvs vs) : (!vs.isEmpty) = !kvs.isEmpty := by
  cases r <;> rfl
theorem isEmpty_of {xs : List V} {its : List Value} (r : Vals xs its) : (!its.toArray.isEmpty) = !xs.isEmpty := by
  cases r <;> simp
theorem line63 : (sizeLine : Nat) < 2 ^ 63 := by rw [sizeLine_eq]; decide
theorem tru_ok : TruR X (fun x H Q => ∃ k, TruV X.K x H k ∧ Q k H) := by
  intro pins s σ H x v Q I rx h
  obtain ⟨k, e, q⟩ := h
  have hl := line63
  have hs : sizeLine = 16777216 := sizeLine_eq
  cases x with
  | non =>
    cases rx
    have e' : k = false := e
    subst e'
    exact truthy_none ⟨H, I, q⟩
  | bl b =>
    cases rx
    have e' : k = b := e
    subst e'
    exact wpAny_truthy_bool ⟨H, I, q⟩
  | int i =>
    obtain ⟨t, rfl⟩ := rx
    have e' : k = (i != 0) := e
    subst e'
    exact PySem.P.truthy_int ⟨H, I, q⟩
  | str y =>
    obtain ⟨t, rfl⟩ := rx
    obtain ⟨hy, e'⟩ : y.length ≤ sizeLine ∧ k = ((y.length : Int) != 0) := e
    subst e'
    exact PySem.P.truthy_str (by omega) ⟨H, I.tok _, q⟩
  | byt y =>
    obtain ⟨t, rfl⟩ := rx
    obtain ⟨hy, e'⟩ : y.size ≤ sizeLine ∧ k = ((y.size : Int) != 0) := e
    subst e'
    exact PySem.W.truthy_bytes (by omega) ⟨H, I.tok _, q⟩
  | ref p =>
    cases rx
    have e' : (∃ xs, SqL X.K H p xs ∧ k = !xs.isEmpty) ∨ (∃ xs, SqT X.K H p xs ∧ k = !xs.isEmpty) ∨ ∃ kvs, H p = some (.dK kvs) ∧ k = !kvs.isEmpty := e
    rcases e' with ⟨xs, hx, e'⟩ | ⟨xs, hx, e'⟩ | ⟨kvs, hx, e'⟩
    · subst e'
      obtain ⟨its, r, pl, hz⟩ := I.list hx
      have hlen := r.length
      exact wpAny_truthy_list pl.isList (by simp only [List.size_toArray]; omega) ⟨H, I.tok _, by rw [isEmpty_of r]; exact q⟩
    · subst e'
      obtain ⟨its, r, pl, hz⟩ := I.tuple hx
      have hlen := r.length
      exact truthy_tuple pl (by simp only [List.size_toArray]; omega) ⟨H, I.tok _, by rw [isEmpty_of r]; exact q⟩
    · subst e'
      obtain ⟨hz, hS, vs, r, m⟩ : kvs.length ≤ sizeLine ∧ (p == sysModules) = false ∧ ∃ vs, KV kvs vs ∧ s.heap.DictOf (mixKind X.prog X.w) p vs := I.hok p _ hx
      have hlen : kvs.length = vs.length := Paired.length r
      exact wpAny_truthy_dict hS m (by omega) ⟨H, I.tok _, by rw [isEmpty_kv r]; exact q⟩
  | _ => exact (show False from e).elim
/-- any expression whose test is its value's truth (a name, a call, a subscript, a field ..: he by fun _ => rfl) -/
theorem pt_truth (ha : PE X a ta) (he : ∀ whole, isTrue a X.env whole = (do let v ← whole; standAt a.pos; holding [v] (truthy v))) :
    PT X a (fun σ H Q => ta σ H fun x H' => ∃ k, TruV X.K x H' k ∧ Q k H') := by
  intro pins s σ H Q I h
  exact isTrue_plain (thn (ha pins s σ H _ I h) fun v s1 ⟨x, H1, I1, r1, q1⟩ => tru_ok pins s1 σ H1 x v Q I1 r1 q1) (he _)

/-! ### strs and bytes -/
theorem pe_byt {x : List UInt8} {k : Nat} : PE X (.Constant (.bytes x) k pos) (fun _ H Q => Q (.byt x.toArray) H) := fun _ _ _ H _ I h => PySem.W.Constant_bytes ⟨.byt x.toArray, H, I.tok _, ⟨_, rfl⟩, h⟩
theorem op_add_str : OpR X (binaryOp .Add) (fun x y H Q => ∃ i j, x = .str i ∧ y = .str j ∧ i.length + j.length ≤ sizeLine ∧ Q (.str (i ++ j)) H) := by
  intro pins s σ H x y v u Q I rx ry h
  obtain ⟨i, j, rfl, rfl, hz, q⟩ := h
  obtain ⟨t, rfl⟩ := rx
  obtain ⟨t', rfl⟩ := ry
  exact add_str (fun t' tk => ⟨.str (i ++ j), H, I.tok _, ⟨_, rfl⟩, q⟩) hz
theorem iop_add_str : OpR X (inplaceOp .Add) (fun x y H Q => ∃ i j, x = .str i ∧ y = .str j ∧ i.length + j.length ≤ sizeLine ∧ Q (.str (i ++ j)) H) := by
  intro pins s σ H x y v u Q I rx ry h
  obtain ⟨i, j, rfl, rfl, hz, q⟩ := h
  obtain ⟨t, rfl⟩ := rx
  obtain ⟨t', rfl⟩ := ry
  exact iadd_str (fun t' tk => ⟨.str (i ++ j), H, I.tok _, ⟨_, rfl⟩, q⟩) hz
theorem op_add_byt : OpR X (binaryOp .Add) (fun x y H Q => ∃ i j, x = .byt i ∧ y = .byt j ∧ i.size + j.size ≤ 16777216 ∧ Q (.byt (i ++ j)) H) := by
  intro pins s σ H x y v u Q I rx ry h
  obtain ⟨i, j, rfl, rfl, hz, q⟩ := h
  obtain ⟨t, rfl⟩ := rx
  obtain ⟨t', rfl⟩ := ry
  exact PySem.W.KBy.add_bytes hz (fun t' tk => ⟨.byt (i ++ j), H, I.tok _, ⟨_, rfl⟩, q⟩)

def PlainIxT (b : Expr) : Prop := ∀ o i, subscripted b false o i = operate [o, i] (getItem o i)
/-- s[i], 0 ≤ i < len -/
theorem pe_item_str (ha : PE X a ta) (hb : PE X b tb) (hs : PlainIxT b) :
    PE X (.Subscript a b pos) (tOp (fun x y H Q => ∃ z i c, x = .str z ∧ y = .int i ∧ 0 ≤ i ∧ i < 2 ^ 63 ∧ i < z.length ∧ z.cps[i.toNat]? = some c ∧ Q (.str ⟨#[c]⟩) H) ta tb) := by
  intro pins s σ H Q I h
  refine Subscript_ (binT ha hb I h fun v u s2 x y H2 I2 rx ry q => ?_)
  obtain ⟨z, i, c, rfl, rfl, h0, h63, h1, hc, q⟩ := q
  obtain ⟨t, rfl⟩ := rx
  obtain ⟨t', rfl⟩ := ry
  have e : seqIndex? i z.length = some i.toNat := PySem.StrLaws.seqIndex_nonneg h0 h1
  exact tail_any (typeIs_str s2 z t) slot_str_getitem.lookup (getItem_str (c := c) (by
    have e1 : decide (i < -(2 ^ 63 : Int)) = false := decide_eq_false (by omega)
    have e2 : decide (i ≥ 2 ^ 63) = false := decide_eq_false (by omega)
    rw [e1, e2] <;> rfl) (by rw [e]; exact hc) ⟨.str ⟨#[c]⟩, H2, I2.tok _, ⟨_, rfl⟩, q⟩) (hs _ _)
/-- b[i], 0 ≤ i < len -/
theorem pe_item_byt (ha : PE X a ta) (hb : PE X b tb) (hs : PlainIxT b) :
    PE X (.Subscript a b pos) (tOp (fun x y H Q => ∃ (z : List UInt8) (i : Int), x = .byt z.toArray ∧ y = .int i ∧ z.length ≤ sizeLine ∧ 0 ≤ i ∧ i < z.length ∧ Q (.int ((z.getD i.toNat 0).toNat : Nat)) H) ta tb) := by
  intro pins s σ H Q I h
  refine Subscript_ (binT ha hb I h fun v u s2 x y H2 I2 rx ry q => ?_)
  obtain ⟨z, i, rfl, rfl, hz, h0, h1, q⟩ := q
  obtain ⟨t, rfl⟩ := rx
  obtain ⟨t', rfl⟩ := ry
  have hl : sizeLine = 16777216 := sizeLine_eq
  exact tail_any (PySem.W.typeIs_bytes s2 z.toArray t) PySem.W.FB.slot_bytes_getitem.lookup (PySem.W.getItem_bytes (by omega) h0 h1 ⟨.int ((z.getD i.toNat 0).toNat : Nat), H2, I2.tok _, ⟨_, rfl⟩, q⟩) (hs _ _)

/-! ### scalar builtins, by CallR -/
theorem vals1 {x : V} {us : List Value} (r : Vals [x] us) : ∃ u, us = [u] ∧ RelV x u := by
  cases r with
  | cons r1 r2 => cases r2; exact ⟨_, rfl, r1⟩
theorem vals2 {x y : V} {us : List Value} (r : Vals [x, y] us) : ∃ u w', us = [u, w'] ∧ RelV x u ∧ RelV y w' := by
  cases r with
  | cons r1 r2 =>
    cases r2 with
    | cons r3 r4 => cases r4; exact ⟨_, _, rfl, r1, r3⟩
theorem call_abs : CallR X (.builtin "abs") (fun xs H Q => ∃ i, xs = [.int i] ∧ Q (.int (if i < 0 then -i else i)) H) := by
  intro pins s σ H xs us Q I r h
  obtain ⟨i, rfl, q⟩ := h
  obtain ⟨u, rfl, t, rfl⟩ := vals1 r
  exact call_abs_int fun u tk => ⟨.int (if i < 0 then -i else i), H, I.tok _, ⟨_, rfl⟩, q⟩
theorem call_max2 (hc : X.calm = true) : CallR X (.builtin "max") (fun xs H Q => ∃ i j, xs = [.int i, .int j] ∧ Q (.int (if j > i then j else i)) H) := by
  intro pins s σ H xs us Q I r h
  obtain ⟨i, j, rfl, q⟩ := h
  obtain ⟨u, w', rfl, ⟨t, rfl⟩, ⟨t', rfl⟩⟩ := vals2 r
  refine max_two_ints (I.ok.hd hc) fun h' tk k => ⟨_, H, I.kept k, ?_, q⟩
  by_cases hj : j > i
  · rw [if_pos hj, if_pos hj]; exact ⟨_, rfl⟩
  · rw [if_neg hj, if_neg hj]; exact ⟨_, rfl⟩
theorem call_min2 (hc : X.calm = true) : CallR X (.builtin "min") (fun xs H Q => ∃ i j, xs = [.int i, .int j] ∧ Q (.int (if j < i then j else i)) H) := by
  intro pins s σ H xs us Q I r h
  obtain ⟨i, j, rfl, q⟩ := h
  obtain ⟨u, w', rfl, ⟨t, rfl⟩, ⟨t', rfl⟩⟩ := vals2 r
  refine min_two_ints (I.ok.hd hc) fun h' tk k => ⟨_, H, I.kept k, ?_, q⟩
  by_cases hj : j < i
  · rw [if_pos hj, if_pos hj]; exact ⟨_, rfl⟩
  · rw [if_neg hj, if_neg hj]; exact ⟨_, rfl⟩
theorem call_int1 : CallR X (.type "int") (fun xs H Q => (∃ i, xs = [.int i] ∧ Q (.int i) H) ∨ ∃ k, xs = [.bl k] ∧ Q (.int (if k then 1 else 0)) H) := by
  intro pins s σ H xs us Q I r h
  rcases h with ⟨i, rfl, q⟩ | ⟨k, rfl, q⟩
  · obtain ⟨u, rfl, t, rfl⟩ := vals1 r
    exact call_int_int ⟨.int i, H, I, ⟨_, rfl⟩, q⟩
  · obtain ⟨u, rfl, r1⟩ := vals1 r
    cases r1
    exact call_int_bool ⟨.int (if k then 1 else 0), H, I.tok _, ⟨_, rfl⟩, q⟩
theorem call_bool1 : CallR X (.type "bool") (fun xs H Q => (∃ i, xs = [.int i] ∧ Q (.bl (i != 0)) H) ∨ ∃ k, xs = [.bl k] ∧ Q (.bl k) H) := by
  intro pins s σ H xs us Q I r h
  rcases h with ⟨i, rfl, q⟩ | ⟨k, rfl, q⟩
  · obtain ⟨u, rfl, t, rfl⟩ := vals1 r
    exact call_bool_int ⟨.bl (i != 0), H, I, rfl, q⟩
  · obtain ⟨u, rfl, r1⟩ := vals1 r
    cases r1
    exact call_bool_bool ⟨.bl k, H, I, rfl, q⟩
theorem call_str_int : CallR X (.type "str") (fun xs H Q => ∃ i, xs = [.int i] ∧ i.natAbs.log2 < 1920 ∧ Q (.str (toString i)) H) := by
  intro pins s σ H xs us Q I r h
  obtain ⟨i, rfl, hz, q⟩ := h
  obtain ⟨u, rfl, t, rfl⟩ := vals1 r
  exact PySem.P.str_of_int hz ⟨.str _, H, I.tok _, ⟨_, rfl⟩, q⟩
theorem call_ord : CallR X (.builtin "ord") (fun xs H Q => ∃ x, xs = [.str x] ∧ x.length = 1 ∧ Q (.int (x.cps.getD 0 0 : Nat)) H) := by
  intro pins s σ H xs us Q I r h
  obtain ⟨x, rfl, hz, q⟩ := h
  obtain ⟨u, rfl, t, rfl⟩ := vals1 r
  exact ord_of_one hz ⟨.int _, H, I.tok _, ⟨_, rfl⟩, q⟩
theorem call_chr : CallR X (.builtin "chr") (fun xs H Q => ∃ i, xs = [.int i] ∧ 0 ≤ i ∧ i ≤ 1114111 ∧ Q (.str ⟨#[i.toNat]⟩) H) := by
  intro pins s σ H xs us Q I r h
  obtain ⟨i, rfl, h0, h1, q⟩ := h
  obtain ⟨u, rfl, t, rfl⟩ := vals1 r
  exact chr_of_range h0 h1 ⟨.str _, H, I.tok _, ⟨_, rfl⟩, q⟩
/-- len of a str, a bytes, a list, a tuple -/
def LenV (K : PySem.W.Frag) (x : V) (H : Hp) (n : Nat) : Prop :=
  match x with
  | .str y => y.length ≤ sizeLine ∧ n = y.length
  | .byt y => y.size ≤ sizeLine ∧ n = y.size
  | .ref p => (∃ xs, SqL K H p xs ∧ n = xs.length) ∨ ∃ xs, SqT K H p xs ∧ n = xs.length
  | _ => False
theorem call_len : CallR X (.builtin "len") (fun xs H Q => ∃ x n, xs = [x] ∧ LenV X.K x H n ∧ Q (.int n) H) := by
  intro pins s σ H xs us Q I r h
  obtain ⟨x, n, rfl, e, q⟩ := h
  obtain ⟨u, rfl, rx⟩ := vals1 r
  have hl := line63
  have hs : sizeLine = 16777216 := sizeLine_eq
  cases x with
  | str y =>
    obtain ⟨t, rfl⟩ := rx
    obtain ⟨hy, e'⟩ : y.length ≤ sizeLine ∧ n = y.length := e
    subst e'
    exact len_str (by omega) ⟨.int _, H, I.tok _, ⟨_, rfl⟩, q⟩
  | byt y =>
    obtain ⟨t, rfl⟩ := rx
    obtain ⟨hy, e'⟩ : y.size ≤ sizeLine ∧ n = y.size := e
    subst e'
    exact PySem.W.len_bytes (by omega) ⟨.int _, H, I.tok _, ⟨_, rfl⟩, q⟩
  | ref p =>
    cases rx
    have e' : (∃ xs, SqL X.K H p xs ∧ n = xs.length) ∨ ∃ xs, SqT X.K H p xs ∧ n = xs.length := e
    rcases e' with ⟨xs, hx, e'⟩ | ⟨xs, hx, e'⟩
    · subst e'
      obtain ⟨its, r', pl, hz⟩ := I.list hx
      have hlen := r'.length
      exact Calls.call_len_list pl.isList (by simp only [List.size_toArray]; omega) ⟨.int xs.length, H, I.tok _, ⟨_, by simp only [List.size_toArray]; rw [hlen]⟩, q⟩
    · subst e'
      obtain ⟨its, r', pl, hz⟩ := I.tuple hx
      have hlen := r'.length
      exact len_tuple pl (by simp only [List.size_toArray]; omega) ⟨.int xs.length, H, I.tok _, ⟨_, by simp only [List.size_toArray]; rw [hlen]⟩, q⟩
  | _ => exact (show False from e).elim
/-- divmod: a new tuple -/
theorem call_divmod : CallR X (.builtin "divmod") (fun xs H Q => ∃ i j, xs = [.int i, .int j] ∧ CDiv i j ∧ ∀ p, H p = none → Q (.ref p) (upd H p (.tup [.int (i / j), .int (i % j)]))) := by
  intro pins s σ H xs us Q I r h
  obtain ⟨i, j, rfl, ⟨h1, h2⟩, q⟩ := h
  obtain ⟨u, w', rfl, ⟨t, rfl⟩, ⟨t', rfl⟩⟩ := vals2 r
  refine divmod_int (by omega) ?_ (.inl (PyProof.noPylong_small (by omega)))
  rw [Int.fdiv_eq_ediv_of_nonneg i (by omega), Int.fmod_eq_emod_of_nonneg i (by omega)]
  have hn : H s.heap.objs.size = none := I.hok.fresh (Nat.le_refl _)
  refine ⟨.ref s.heap.objs.size, _, ?_, rfl, q _ hn⟩
  refine I.laid (fun b o e => Heap.get?_push_of_some _ e) (Nat.le_refl _) ⟨by simp only [List.length_cons, List.length_nil]; rw [sizeLine_eq]; decide, [.int (i / j) s.toks, .int (i % j) (s.toks + 1)], .cons ⟨_, rfl⟩ (.cons ⟨_, rfl⟩ .nil), ?_⟩
  exact ⟨_, Heap.get?_push_size s.heap rfl, rfl, 0, rfl⟩
end
end L2

namespace L2
open PySem PySem.Spec PyProof.Rows

/-! ### an instance, its attributes a map -/
structure ObjM (h : Heap) (x dx C : Addr) (mA : Str → Option Value) : Prop where
  obj : h.get? x = some (PySem.W.instObj C dx)
  ns : h.Ns1 dx mA
  ne : dx ≠ x

theorem lookIn_ns {h : Heap} {dx : Addr} {mA : Str → Option Value} (n : h.Ns1 dx mA) : ∃ od, h.get? dx = some od ∧ ∀ name, PySem.W.lookIn name od = some (mA name) := by
  obtain ⟨o, es, ep, ho, hd, hk, _, hm⟩ := n
  refine ⟨o, ho, fun name => ?_⟩
  have e := hm name
  unfold nsFind findBy at e
  rw [← Array.find?_toList] at e
  unfold PySem.W.lookIn
  rw [hd]
  dsimp only
  split
  · rename_i y q
    rw [q] at e
    exact congrArg some e
  · rename_i q
    rw [q] at e
    have a : es.toList.any (·.refKey) = false := by
      rw [List.any_eq_false]
      intro y hy
      obtain ⟨z, t, hkey⟩ := hk y (Array.mem_toList_iff.mp hy)
      simp [DictEntry.refKey, hkey]
    have a' : ¬ es.toList.any (·.refKey) = true := by rw [a]; exact Bool.false_ne_true
    rw [if_neg a']
    exact congrArg some e

theorem ObjM.look {h : Heap} {x dx C : Addr} {mA : Str → Option Value} (I : ObjM h x dx C mA) : ∃ od, PySem.W.InstAt h x (PySem.W.instObj C dx) C (some od) ∧ ∀ name, PySem.W.lookIn name od = some (mA name) :=
  let ⟨od, ho, hl⟩ := lookIn_ns I.ns
  ⟨od, ⟨I.obj, rfl, rfl, ho⟩, hl⟩

section
variable {prog : Program} {w : World} {A : Around} {E : Value → Shared → Prop} {s : Shared} {K : PySem.W.Frag} {x dx C f : Addr} {mA : Str → Option Value} {name : Str} {v : Value}

theorem get_map {expr : Bool} {Q : Value → Shared → Prop} (X : K.In s.heap) (I : ObjM s.heap x dx C mA) (hg : PySem.W.plainGet K C name = true) (hh : PySem.W.hasDictIn K C = true)
    (ha : PySem.W.findIn K (.ref C) name = some none) (hv : mA name = some v) (hv' : PySem.W.handedIn v = true) (h : Q v { s with toks := s.toks + 1 }) :
    wpAny (model prog w) A (getAttr (.ref x) name expr) Q E s := by
  obtain ⟨od, J, hl⟩ := I.look
  exact PySem.W.get_value X J (PySem.W.plainGet_of hg).1 (PySem.W.findObj_own hh ha rfl (by rw [hl, hv])) hv' h

theorem get_const {expr : Bool} {a : Value} {Q : Value → Shared → Prop} (X : K.In s.heap) (I : ObjM s.heap x dx C mA) (hg : PySem.W.plainGet K C name = true) (hh : PySem.W.hasDictIn K C = true)
    (ha : PySem.W.findIn K (.ref C) name = some (some a)) (hn : PySem.W.specialIn K a "__get__" = some none) (hc : PySem.W.copiedNames.contains name = false) (hv : mA name = none) (hv' : PySem.W.handedIn a = true)
    (h : Q a { s with toks := s.toks + 1 }) : wpAny (model prog w) A (getAttr (.ref x) name expr) Q E s := by
  obtain ⟨od, J, hl⟩ := I.look
  exact PySem.W.get_value X J (PySem.W.plainGet_of hg).1 (PySem.W.findObj_cls hh ha hn hv' hc (by rw [hl, hv])) hv' h

theorem get_meth {pl : Sem Bool} {Q : Value × List Value → Shared → Prop} (X : K.In s.heap) (I : ObjM s.heap x dx C mA) (hg : PySem.W.plainGet K C name = true)
    (hf : PySem.W.findIn K (.ref C) name = some (some (.ref f))) (ht : PySem.W.isFn K (.ref f) = true) (hv : mA name = none) (h : Q (.ref f, [.ref x]) s) :
    wpAny (model prog w) A (getMethod (.ref x) name pl) Q E s := by
  obtain ⟨od, J, hl⟩ := I.look
  exact PySem.W.method_fn X J (PySem.W.plainGet_of hg).1 (PySem.W.plainGet_of hg).2 hf (beq_iff_eq.mp ht) (by show (PySem.W.lookIn name od).map (·.isSome) = some false; rw [hl, hv]; rfl) h

theorem set_map {ns : List Str} {Q : Unit → Shared → Prop} (X : K.In s.heap) (I : ObjM s.heap x dx C mA)
    (hs : PySem.W.findIn K (.ref C) "__setattr__" = some (some (.builtin "object.__setattr__"))) (hp : PySem.W.plainOver K C = true) (ht : PySem.W.takerIn K C name = some none) (hh : PySem.W.hasDictIn K C = true)
    (hw : PySem.Within mA ns) (hsz : ns.length ≤ sizeLine)
    (h : ∀ h', ObjM h' x dx C (fun y => if y = name then some v else mA y) → Heap.SameBut dx s.heap h' → Q () { s with heap := h', toks := s.toks + 2 }) :
    wpAny (model prog w) A (setAttr (.ref x) name v) Q E s := by
  obtain ⟨od, J, hl⟩ := I.look
  refine PySem.W.set_plain X J hs (PySem.W.osa_open (s := { s with toks := s.toks + 1 }) (r := none) X J hp ht fun b => ?_)
  obtain ⟨cd, hc, hd'⟩ := PySem.W.any_some hh
  have hx : s.heap.get? x = some ⟨.ref C, some dx, .plain, #[]⟩ := I.obj
  refine wpAny_bind (wpAny_pure (wpAny_bind (wpAny_bind (wpAny_loadPart hx (wpAny_bind (PySem.W.Looks.here (s := { s with toks := s.toks + 1 }) (PySem.W.looks_clsIn X hc) ?_))))))
  rw [hd']
  refine wpAny_pure (a := some dx) (wpAny_bind (wpAny_pure (wpAny_bind ?_)))
  refine wpAny_nsSet1 (s := { s with toks := s.toks + 1 }) I.ns fun h' hn2 hs2 => ?_
  obtain ⟨oD, esD, epD, hoD, hdD, hcD⟩ := hn2.count (PySem.Within.cons name v hw)
  refine wpAny_bind (wpAny_lookBehind hoD (by rw [hdD]; exact pastItsLine_dict (Nat.le_trans hcD (by rw [List.length_cons]; omega))) ?_)
  exact wpAny_pure (h _ ⟨(hs2.2 _ (Ne.symm I.ne)).trans I.obj, hn2, I.ne⟩ hs2)

/-- C(..): the dict at the heap's end, the instance behind it; then its __init__ -/
theorem make_map {R : Result → Shared → Prop} {vs : List Value} {kw : List (Str × Value)} (X : K.In s.heap) (hm : PySem.W.makesIn K C = true)
    (hi : PySem.W.findIn K (.ref C) "__init__" = some (some (.ref f))) (hf : PySem.W.typeIn K (.ref f) = some (.type "function"))
    (h : codeAny (model prog w) (A.under (.builtin "type.__call__" ⟨.ref C :: vs, kw⟩)) (.call (.ref f) ⟨.ref (s.heap.objs.size + 1) :: vs, kw⟩) (PySem.W.InitBack (s.heap.objs.size + 1) R)
      { s with heap := (s.heap.push PySem.W.emptyDict).push (PySem.W.instObj C s.heap.objs.size) }) :
    codeAny (model prog w) A (.call (.ref C) ⟨vs, kw⟩) R s := by
  obtain ⟨hh, g, d, t, os⟩ := s
  exact PySem.W.make_core (PySem.W.makes_of X hm) (PySem.W.looks_findIn X hi) (fun self => PySem.W.bind_fn X self hf) (.inl rfl) h
/-- C() where there is no __init__ but object's -/
theorem make_map0 {R : Result → Shared → Prop} (X : K.In s.heap) (hm : PySem.W.makesIn K C = true)
    (hi : PySem.W.findIn K (.ref C) "__init__" = some (some (.builtin "object.__init__")))
    (hb : ∀ self, PySem.W.Looks (model prog w) s.heap (bindSpecial (.builtin "object.__init__") self) (.builtin "object.__init__", [self]))
    (h : codeAny (model prog w) (A.under (.builtin "type.__call__" ⟨[.ref C], []⟩)) (.call (.builtin "object.__init__") ⟨[.ref (s.heap.objs.size + 1)], []⟩) (PySem.W.InitBack (s.heap.objs.size + 1) R)
      { s with heap := (s.heap.push PySem.W.emptyDict).push (PySem.W.instObj C s.heap.objs.size) }) :
    codeAny (model prog w) A (.call (.ref C) ⟨[], []⟩) R s := by
  obtain ⟨hh, g, d, t, os⟩ := s
  exact PySem.W.make_core (PySem.W.makes_of X hm) (PySem.W.looks_findIn X hi) hb (.inr ⟨rfl, rfl⟩) h
end

/-! ### the attributes as a list of pairs -/
def putF (f : Str) (v : V) : List (Str × V) → List (Str × V)
  | [] => [(f, v)]
  | (g, x) :: r => if g = f then (g, v) :: r else (g, x) :: putF f v r
theorem lookup_putF (f g : Str) (v : V) : ∀ fs : List (Str × V), (putF f v fs).lookup g = if g = f then some v else fs.lookup g
  | [] => by
    show List.lookup g [(f, v)] = _
    by_cases h : g = f
    · have hb : (g == f) = true := beq_iff_eq.mpr h
      simp only [List.lookup, hb, if_pos h]
    · have hb : (g == f) = false := beq_eq_false_iff_ne.mpr h
      simp only [List.lookup, hb, if_neg h]
  | (k, x) :: r => by
    have ih := lookup_putF f g v r
    rw [show putF f v ((k, x) :: r) = (if k = f then (k, v) :: r else (k, x) :: putF f v r) from rfl]
    by_cases hk : k = f
    · rw [if_pos hk]
      by_cases h : g = k
      · have hb : (g == k) = true := beq_iff_eq.mpr h
        simp only [List.lookup, hb, if_pos (h.trans hk)]
      · have hb : (g == k) = false := beq_eq_false_iff_ne.mpr h
        simp only [List.lookup, hb, if_neg (fun e : g = f => h (e.trans hk.symm))]
    · rw [if_neg hk]
      by_cases h : g = k
      · have hb : (g == k) = true := beq_iff_eq.mpr h
        simp only [List.lookup, hb, if_neg (fun e : g = f => hk (h.symm.trans e))]
      · have hb : (g == k) = false := beq_eq_false_iff_ne.mpr h
        simp only [List.lookup, hb]
        exact ih
theorem keys_putF (f : Str) (v : V) : ∀ fs : List (Str × V), f ∈ (putF f v fs).map (·.1) ∧ ∀ g, g ∈ fs.map (·.1) → g ∈ (putF f v fs).map (·.1)
  | [] => ⟨by simp [putF], fun g h => by simp at h⟩
  | (k, x) :: r => by
    obtain ⟨i1, i2⟩ := keys_putF f v r
    rw [show putF f v ((k, x) :: r) = (if k = f then (k, v) :: r else (k, x) :: putF f v r) from rfl]
    by_cases hk : k = f
    · rw [if_pos hk]
      subst hk
      exact ⟨by simp, fun g h => by simpa using h⟩
    · rw [if_neg hk]
      refine ⟨?_, fun g h => ?_⟩
      · rw [List.map_cons]
        exact List.mem_cons_of_mem _ i1
      · rw [List.map_cons] at h ⊢
        rcases List.mem_cons.mp h with e | e
        · exact List.mem_cons.mpr (.inl e)
        · exact List.mem_cons_of_mem _ (i2 g e)
theorem length_putF (f : Str) (v : V) : ∀ fs : List (Str × V), (putF f v fs).length ≤ fs.length + 1
  | [] => by simp [putF]
  | (k, x) :: r => by
    have ih := length_putF f v r
    rw [show putF f v ((k, x) :: r) = (if k = f then (k, v) :: r else (k, x) :: putF f v r) from rfl]
    by_cases hk : k = f
    · rw [if_pos hk, List.length_cons, List.length_cons]; omega
    · rw [if_neg hk, List.length_cons, List.length_cons]; omega

theorem RelO.some_of {v : V} {o : Option Value} (r : RelO (some v) o) : ∃ u, o = some u ∧ RelV v u := by
  cases o with
  | none => exact (show False from r).elim
  | some u => exact ⟨u, rfl, r⟩
theorem RelO.none_of {o : Option Value} (r : RelO none o) : o = none := by
  cases o with
  | none => rfl
  | some u => exact (show False from r).elim
theorem handed_of {v : V} {u : Value} (r : RelV v u) : PySem.W.handedIn u = true := by
  cases v with
  | non => cases (show u = Value.none from r); rfl
  | bl b => cases (show u = Value.bool b from r); rfl
  | int i => obtain ⟨t, e⟩ := (show ∃ t, u = Value.int i t from r); cases e; rfl
  | str x => obtain ⟨t, e⟩ := (show ∃ t, u = Value.str x t from r); cases e; rfl
  | byt b => obtain ⟨t, e⟩ := (show ∃ t, u = Value.bytes b t from r); cases e; rfl
  | flt b => obtain ⟨t, e⟩ := (show ∃ t, u = Value.float b t from r); cases e; rfl
  | ref a => cases (show u = Value.ref a from r); rfl
  | ty n => cases (show u = Value.type n from r); rfl

section
variable {P : Program} {w : World} {H H' : Hp} {h h' : Heap} {a C dx : Addr} {fs fs' : List (Str × V)}
theorem ins_get (hok : HOk P w H h) (e : H a = some (.ins C dx fs)) : ∃ mA, ObjM h a dx C mA ∧ (∀ f, RelO (fs.lookup f) (mA f)) ∧ PySem.Within mA (fs.map (·.1)) ∧ fs.length ≤ 1000 ∧ H dx = some (.own a) := by
  obtain ⟨d, z, ne, ob, mA, n, r, q⟩ := (show ObjOk P w H h a (.ins C dx fs) from hok a _ e)
  exact ⟨mA, ⟨ob, n, ne⟩, r, q, z, d⟩
end

/-! ### what of the text a class must have -/
structure Cls (K : PySem.W.Frag) (C : Addr) : Prop where
  pg : PySem.W.plainGet K C Str.empty = true
  hd : PySem.W.hasDictIn K C = true
  po : PySem.W.plainOver K C = true
  sa : PySem.W.findIn K (.ref C) "__setattr__" = some (some (.builtin "object.__setattr__"))
theorem Cls.get {K : PySem.W.Frag} {C : Addr} (c : Cls K C) (f : Str) : PySem.W.plainGet K C f = true := c.pg
/-- no class of it has the name -/
def NoAttr (K : PySem.W.Frag) (C : Addr) (f : Str) : Prop := PySem.W.findIn K (.ref C) f = some none
theorem NoAttr.taker {K : PySem.W.Frag} {C : Addr} {f : Str} (n : NoAttr K C f) : PySem.W.takerIn K C f = some none := by
  unfold PySem.W.takerIn
  rw [show PySem.W.findIn K (.ref C) f = some none from n]
  rfl
/-- a constant of the class -/
structure Con (K : PySem.W.Frag) (C : Addr) (f : Str) (v : V) (u : Value) : Prop where
  at_ : PySem.W.findIn K (.ref C) f = some (some u)
  rel : RelV v u
  get : PySem.W.specialIn K u "__get__" = some none
  cp : PySem.W.copiedNames.contains f = false
/-- a method: a plain def of the class or of one above it -/
structure Meth (K : PySem.W.Frag) (C : Addr) (m : Str) (f : Addr) : Prop where
  at_ : PySem.W.findIn K (.ref C) m = some (some (.ref f))
  fn : PySem.W.isFn K (.ref f) = true
  kp : PySem.W.keepIn K (.ref f) = true

section
variable {X : Cx} {pins : List (Addr × Obj)} {σ : St} {H : Hp} {s : Shared} {a C dx : Addr} {fs : List (Str × V)} {f : Str} {v : V} {A : Around} {E : Value → Shared → Prop}

theorem getattr_ok {b : Bool} {Q : Value → Shared → Prop} (I : Inv X pins σ H s) (e : H a = some (.ins C dx fs)) (c : Cls X.K C) (n : NoAttr X.K C f) (l : fs.lookup f = some v)
    (h : ∀ u s', Inv X pins σ H s' → RelV v u → Q u s') : wpAny (model X.prog X.w) A (getAttr (.ref a) f b) Q E s := by
  obtain ⟨mA, O, r, _, _, _⟩ := ins_get I.hok e
  obtain ⟨u, hu, ru⟩ := RelO.some_of (v := v) (o := mA f) (by rw [← l]; exact r f)
  exact get_map I.kIn O (c.get f) c.hd n hu (handed_of ru) (h u _ (I.tok _) ru)

theorem getcon_ok {b : Bool} {u : Value} {Q : Value → Shared → Prop} (I : Inv X pins σ H s) (e : H a = some (.ins C dx fs)) (c : Cls X.K C) (k : Con X.K C f v u) (l : fs.lookup f = none)
    (h : ∀ s', Inv X pins σ H s' → Q u s') : wpAny (model X.prog X.w) A (getAttr (.ref a) f b) Q E s := by
  obtain ⟨mA, O, r, _, _, _⟩ := ins_get I.hok e
  have hn : mA f = none := RelO.none_of (by rw [← l]; exact r f)
  exact get_const I.kIn O (c.get f) c.hd k.at_ k.get k.cp hn (handed_of k.rel) (h _ (I.tok _))

theorem getmeth_ok {m : Str} {g : Addr} {pl : Sem Bool} {Q : Value × List Value → Shared → Prop} (I : Inv X pins σ H s) (e : H a = some (.ins C dx fs)) (c : Cls X.K C) (k : Meth X.K C m g) (l : fs.lookup m = none)
    (h : Q (.ref g, [.ref a]) s) : wpAny (model X.prog X.w) A (getMethod (.ref a) m pl) Q E s := by
  obtain ⟨mA, O, r, _, _, _⟩ := ins_get I.hok e
  have hn : mA m = none := RelO.none_of (by rw [← l]; exact r m)
  exact get_meth I.kIn O (c.get m) k.at_ k.fn hn h

theorem setattr_ok {y : V} {u : Value} {Q : Unit → Shared → Prop} (I : Inv X pins σ H s) (e : H a = some (.ins C dx fs)) (c : Cls X.K C) (n : NoAttr X.K C f) (hl : fs.length < 1000) (ry : RelV y u)
    (h : ∀ s', Inv X pins σ (upd H a (.ins C dx (putF f y fs))) s' → Q () s') : wpAny (model X.prog X.w) A (setAttr (.ref a) f u) Q E s := by
  obtain ⟨mA, O, r, wi, _, ho⟩ := ins_get I.hok e
  have hz : (fs.map (·.1)).length ≤ sizeLine := by rw [List.length_map, sizeLine_eq]; omega
  refine set_map I.kIn O c.sa c.po n.taker c.hd wi hz fun h' O' sb => h _ ?_
  have hd : ∃ o, h'.get? dx = some o := let ⟨o, _, _, e', _⟩ := O'.ns; ⟨o, e'⟩
  refine I.write (x := a) (e := dx) (by rw [e]; exact True.intro) (.inr ho) (fun b q hb z => (sb.2 b hb).trans z) hd ?_
  refine ⟨by rw [upd_ne O.ne]; exact ho, ?_, O.ne, O'.obj, _, O'.ns, fun g => ?_, fun g hg => ?_⟩
  · have := length_putF f y fs; omega
  · show RelO ((putF f y fs).lookup g) (if g = f then some u else mA g)
    rw [lookup_putF]
    by_cases q : g = f
    · rw [if_pos q, if_pos q]; exact ry
    · rw [if_neg q, if_neg q]; exact r g
  · by_cases q : g = f
    · rw [q]; exact (keys_putF f y fs).1
    · refine (keys_putF f y fs).2 g (wi g fun z => hg ?_)
      show (if g = f then some u else mA g) = none
      rw [if_neg q]; exact z

/-- a new instance, tracked, without attributes -/
theorem Inv.made (I : Inv X pins σ H s) : Inv X pins σ (upd (upd H s.heap.objs.size (.own (s.heap.objs.size + 1))) (s.heap.objs.size + 1) (.ins C s.heap.objs.size []))
    { s with heap := (s.heap.push PySem.W.emptyDict).push (PySem.W.instObj C s.heap.objs.size) } := by
  have e1 : (s.heap.push PySem.W.emptyDict).get? s.heap.objs.size = some PySem.W.emptyDict := Heap.get?_push_size s.heap rfl
  have e2 : ((s.heap.push PySem.W.emptyDict).push (PySem.W.instObj C s.heap.objs.size)).get? (s.heap.objs.size + 1) = some (PySem.W.instObj C s.heap.objs.size) := by
    have := Heap.get?_push_size (s.heap.push PySem.W.emptyDict) (o := PySem.W.instObj C s.heap.objs.size) rfl
    rwa [Heap.size_push] at this
  have e3 : (s.heap.push PySem.W.emptyDict).Ns s.heap.objs.size (fun _ => none) := ⟨PySem.W.emptyDict, #[], _, e1, rfl, (fun e he => absurd he (by simp)), fun _ => rfl⟩
  have I1 := I.laid (a := s.heap.objs.size) (o := .own (s.heap.objs.size + 1)) (h' := s.heap.push PySem.W.emptyDict) (t' := s.toks) (fun b u q => Heap.get?_push_of_some _ q) (Nat.le_refl _) ⟨_, e1⟩
  refine I1.laid (a := s.heap.objs.size + 1) (o := .ins C s.heap.objs.size []) (t' := s.toks) (fun b u q => Heap.get?_push_of_some _ q) (Nat.le_of_eq (Heap.size_push _ _)) ?_
  have ne : s.heap.objs.size ≠ s.heap.objs.size + 1 := Nat.ne_of_lt (Nat.lt_succ_self _)
  refine ⟨by rw [upd_ne ne, upd_same], Nat.zero_le _, ne, e2, fun _ => none, (Heap.Ns1.of_empty e3).at fun o q => Heap.get?_push_of_some _ q, fun _ => True.intro, fun y hy => absurd rfl hy⟩

/-- e.f where nothing but the object is asked: through attributeBase (super) and the last hold -/
theorem attr_of {prog : Program} {w : World} {env : Env} {e : Expr} {f : Str} {pos : Pos} {s : Shared} {Q : Value → Shared → Prop} (hb : attributeBase e f env (eval e env) = eval e env)
    (h : wpAny (model prog w) A (eval e env) (fun o s₁ => wpAny (model prog w) A (getAttr o f true) Q E s₁) E s) : wpAny (model prog w) A (eval (.Attribute e f pos) env) Q E s :=
  Attribute_any_ h (by rw [arm_eval_Attribute, hb])
end

/-! ### readings and rules -/
/-- e.f, an attribute of the instance -/
def tFld (K : PySem.W.Frag) (ta : TE) (f : Str) : TE := fun σ H Q => ta σ H fun x H1 => ∃ a C dx fs v, x = .ref a ∧ H1 a = some (.ins C dx fs) ∧ Cls K C ∧ NoAttr K C f ∧ fs.lookup f = some v ∧ Q v H1
/-- e.f, a constant of the class -/
def tCon (K : PySem.W.Frag) (ta : TE) (f : Str) : TE := fun σ H Q => ta σ H fun x H1 => ∃ a C dx fs v u, x = .ref a ∧ H1 a = some (.ins C dx fs) ∧ Cls K C ∧ Con K C f v u ∧ fs.lookup f = none ∧ Q v H1
/-- e.f = value -/
def sFld (K : PySem.W.Frag) (ta tv : TE) (f : Str) : TS := fun D σ H => tv σ H fun y H1 => ta σ H1 fun x H2 => ∃ a C dx fs, x = .ref a ∧ H2 a = some (.ins C dx fs) ∧ Cls K C ∧ NoAttr K C f ∧ fs.length < 1000 ∧
  D.nx σ (upd H2 a (.ins C dx (putF f y fs)))
/-- an augmented operator on two values -/
def InOp (X : Cx) (op : Operator) (rd : V → V → Hp → VK → Prop) : Prop :=
  ∀ (pins : List (Addr × Obj)) (s : Shared) (σ : St) (H : Hp) (x y : V) (u v : Value) (Q : VK), Inv X pins σ H s → RelV x u → RelV y v → rd x y H Q → wpAny (model X.prog X.w) X.A (inplaceOp op u v) (EP X pins σ Q) X.xe s
/-- e.f op= value -/
def sFldAug (K : PySem.W.Frag) (ta tv : TE) (rd : V → V → Hp → VK → Prop) (f : Str) : TS := fun D σ H => ta σ H fun x H1 => ∃ a C dx fs v, x = .ref a ∧ H1 a = some (.ins C dx fs) ∧ Cls K C ∧ NoAttr K C f ∧ fs.lookup f = some v ∧
  tv σ H1 fun y H2 => rd v y H2 fun z H3 => ∃ dx' fs', H3 a = some (.ins C dx' fs') ∧ fs'.length < 1000 ∧ D.nx σ (upd H3 a (.ins C dx' (putF f z fs')))

section
variable {X : Cx} {o e value : Expr} {f : Str} {pos pos' tpos : Pos} {ta tv : TE}
theorem pe_fld (he : PE X e ta) (hb : attributeBase e f X.env (eval e X.env) = eval e X.env) : PE X (.Attribute e f pos) (tFld X.K ta f) := by
  intro pins s σ H Q I h
  refine attr_of hb (thn (he pins s σ H _ I h) fun u s1 ⟨x, H1, I1, rx, a, C, dx, fs, v, ex, ea, c, n, l, q⟩ => ?_)
  subst ex
  obtain rfl : u = Value.ref a := rx
  exact getattr_ok I1 ea c n l fun u' s2 I2 ru => ⟨v, H1, I2, ru, q⟩
theorem pe_con (he : PE X e ta) (hb : attributeBase e f X.env (eval e X.env) = eval e X.env) : PE X (.Attribute e f pos) (tCon X.K ta f) := by
  intro pins s σ H Q I h
  refine attr_of hb (thn (he pins s σ H _ I h) fun u s1 ⟨x, H1, I1, rx, a, C, dx, fs, v, u0, ex, ea, c, k, l, q⟩ => ?_)
  subst ex
  obtain rfl : u = Value.ref a := rx
  exact getcon_ok I1 ea c k l fun s2 I2 => ⟨v, H1, I2, k.rel, q⟩
theorem ps_fld (ha : PE X o ta) (hv : PE X value tv) (hs : swapsWith value (some (.Attribute o f pos')) pos.line X.env = pure false) : PS X (.Assign [.Attribute o f pos'] value pos) (sFld X.K ta tv f) := by
  intro pins s σ H D I h
  refine plainObj_wpAny_Assign_Attribute (thn (hv pins s σ H _ I h) fun u s1 ⟨y, H1, I1, ry, q⟩ => thn (ha pins s1 σ H1 _ I1 q) fun ov s2 ⟨x, H2, I2, rx, a, C, dx, fs, ex, ea, c, n, l, q2⟩ => ?_) hs
  subst ex
  obtain rfl : ov = Value.ref a := rx
  exact setattr_ok I2 ea c n l ry fun s3 I3 => ⟨σ, _, I3, q2⟩
theorem ps_fldaug {op : Operator} {rd : V → V → Hp → VK → Prop} (ha : PE X o ta) (hv : PE X value tv) (hop : InOp X op rd) : PS X (.AugAssign (.Attribute o f tpos) op value pos) (sFldAug X.K ta tv rd f) := by
  intro pins s σ H D I h
  refine wpAny_AugAssign_AttributeAny (thn (ha pins s σ H _ I h) fun ov s1 ⟨x, H1, I1, rx, a, C, dx, fs, v, ex, ea, c, n, l, q⟩ => ?_)
  subst ex
  obtain rfl : ov = Value.ref a := rx
  refine getattr_ok I1 ea c n l fun u s2 I2 ru => thn (hv pins s2 σ H1 _ I2 q) fun w3 s3 ⟨y, H2, I3, ry, q3⟩ => thn (hop pins s3 σ H2 v y u w3 _ I3 ru ry q3) fun w4 s4 ⟨z, H3, I4, rz, dx', fs', ea', l', q4⟩ => ?_
  exact setattr_ok I4 ea' c n l' rz fun s5 I5 => ⟨σ, _, I5, q4⟩
def rAdd : V → V → Hp → VK → Prop := fun x y H Q => ∃ i j, x = .int i ∧ y = .int j ∧ Q (.int (i + j)) H
def rSub : V → V → Hp → VK → Prop := fun x y H Q => ∃ i j, x = .int i ∧ y = .int j ∧ Q (.int (i - j)) H
theorem in_add : InOp X .Add rAdd := by
  rintro pins s σ H x y u v Q I rx ry ⟨i, j, rfl, rfl, q⟩
  obtain ⟨t, rfl⟩ := (show ∃ t, u = Value.int i t from rx)
  obtain ⟨t', rfl⟩ := (show ∃ t', v = Value.int j t' from ry)
  exact PyProof.Rows.iadd_int ⟨.int (i + j), H, I.tok _, ⟨_, rfl⟩, q⟩
theorem in_sub : InOp X .Sub rSub := by
  rintro pins s σ H x y u v Q I rx ry ⟨i, j, rfl, rfl, q⟩
  obtain ⟨t, rfl⟩ := (show ∃ t, u = Value.int i t from rx)
  obtain ⟨t', rfl⟩ := (show ∃ t', v = Value.int j t' from ry)
  exact PyProof.Rows.isub_int ⟨.int (i - j), H, I.tok _, ⟨_, rfl⟩, q⟩

/-- what is between an instance and its method: the tree of a method call -/
theorem methcall_of {pl : Sem Bool} {m : Str} {apos : Pos} {args : List Expr} {pins : List (Addr × Obj)} {s : Shared} {σ : St} {H : Hp} {Q : Value → Shared → Prop} {te : TE} (he : PE X e te) (I : Inv X pins σ H s)
    (h : te σ H fun x H1 => ∃ a C dx fs g, x = .ref a ∧ H1 a = some (.ins C dx fs) ∧ Cls X.K C ∧ Meth X.K C m g ∧ fs.lookup m = none ∧
      ∀ s1, Inv X pins σ H1 s1 → wpAny (model X.prog X.w) X.A (callWith pos (.ref g) [.ref a] (backTo pos (starEach args X.env)) (backToKw pos (keywordEach [] X.env))) Q X.xe s1)
    (ht : eval (.Call (.Attribute e m apos) args [] pos) X.env = (do
      let ov ← eval e X.env
      standAt apos.atName
      let (f, first) ← holding [ov] (getMethod ov m pl)
      callWith pos f first (backTo pos (starEach args X.env)) (backToKw pos (keywordEach [] X.env)))) :
    wpAny (model X.prog X.w) X.A (eval (.Call (.Attribute e m apos) args [] pos) X.env) Q X.xe s := by
  refine PySem.W.methodCall_KW (pl := pl) (thn (he pins s σ H _ I h) fun u s1 ⟨x, H1, I1, rx, a, C, dx, fs, g, ex, ea, c, k, l, q⟩ => ?_) ht
  subst ex
  obtain rfl : u = Value.ref a := rx
  exact getmeth_ok I1 ea c k l (q s1 I1)
end

/-! ### isinstance -/
section
variable {X : Cx} {pins : List (Addr × Obj)} {σ : St} {H : Hp} {s : Shared} {A : Around} {E : Value → Shared → Prop} {Q : Value → Shared → Prop} {c : Value} {b : Bool}
/-- the type of a value, as the fragment's deciders take it; for an instance its class -/
inductive TyOf (K : PySem.W.Frag) (H : Hp) : V → Value → Prop where
  | non : TyOf K H .non (.type "NoneType")
  | bl (x : Bool) : TyOf K H (.bl x) (.type "bool")
  | int (i : Int) : TyOf K H (.int i) (.type "int")
  | str (x : Str) : TyOf K H (.str x) (.type "str")
  | flt (x : UInt64) : TyOf K H (.flt x) (.type "float")
  | lst {a : Addr} {xs : List V} (e : H a = some (.lst xs)) : TyOf K H (.ref a) (.type "list")
  | frz {a : Addr} {o : Obj} {xs : List V} (e : H a = some (.frz o (.lst xs))) : TyOf K H (.ref a) (.type "list")
  | tup {a : Addr} {xs : List V} (e : H a = some (.tup xs)) : TyOf K H (.ref a) (.type "tuple")
  | dK {a : Addr} {kvs : List (Key × V)} (e : H a = some (.dK kvs)) : TyOf K H (.ref a) (.type "dict")
  | dT {a : Addr} {kvs : List (List Key × V)} (e : H a = some (.dT kvs)) : TyOf K H (.ref a) (.type "dict")
  | ins {a C dx : Addr} {fs : List (Str × V)} (e : H a = some (.ins C dx fs)) (cl : Cls K C) (ha : PySem.W.findIn K (.ref C) "__class__" = some (some (.builtin "object.__class__")))
      (hn : PySem.W.specialIn K (.builtin "object.__class__") "__get__" = some (some (.builtin "getset_descriptor.__get__"))) (htk : PySem.W.takesIn K (.builtin "object.__class__") = some true)
      (hm : PySem.W.mroIn K C (.type "object") = some true) : TyOf K H (.ref a) (.ref C)
/-- isinstance(x, c) for one class c, a built-in or an own one: kitOne's answer -/
theorem isinst_ok {x : V} {u t : Value} (I : Inv X pins σ H s) (rx : RelV x u) (ty : TyOf X.K H x t) (e : PySem.W.kitOne X.K t c = some b) (h : ∀ tk, Q (.bool b) { s with toks := tk }) :
    wpAny (model X.prog X.w) A (call (.builtin "isinstance") [u, c]) Q E s := by
  cases ty with
  | non => cases (show u = Value.none from rx); exact PySem.W.kia_one PySem.W.kitx_none I.kIn True.intro e (fun z => nomatch z) h
  | bl y => cases (show u = Value.bool y from rx); exact PySem.W.kia_one PySem.W.kitx_bool I.kIn True.intro e (fun z => nomatch z) h
  | int i => obtain ⟨t, q⟩ := (show ∃ t, u = Value.int i t from rx); cases q; exact PySem.W.kia_one PySem.W.kitx_int I.kIn True.intro e (fun z => nomatch z) h
  | str y => obtain ⟨t, q⟩ := (show ∃ t, u = Value.str y t from rx); cases q; exact PySem.W.kia_one PySem.W.kitx_str I.kIn True.intro e (fun z => nomatch z) h
  | flt y => obtain ⟨t, q⟩ := (show ∃ t, u = Value.float y t from rx); cases q; exact PySem.W.kia_one PySem.W.kitx_float I.kIn True.intro e (fun z => nomatch z) h
  | @lst a xs ea =>
    cases (show u = Value.ref a from rx)
    obtain ⟨_, _, n, _, h1⟩ := (show ObjOk X.prog X.w H s.heap a (.lst xs) from I.hok a _ ea)
    exact PySem.W.kia_one PySem.W.kitx_list I.kIn ⟨_, h1, rfl⟩ e (fun z => nomatch z) h
  | @frz a ob xs ea =>
    cases (show u = Value.ref a from rx)
    obtain ⟨_, _, _, n, _, h1⟩ := (show ObjOk X.prog X.w H s.heap a (.frz ob (.lst xs)) from I.hok a _ ea)
    exact PySem.W.kia_one PySem.W.kitx_list I.kIn ⟨_, h1, rfl⟩ e (fun z => nomatch z) h
  | @tup a xs ea =>
    cases (show u = Value.ref a from rx)
    obtain ⟨_, _, _, p⟩ := (show ObjOk X.prog X.w H s.heap a (.tup xs) from I.hok a _ ea)
    obtain ⟨o, h1, h2, _⟩ := p
    exact PySem.W.kia_one PySem.W.kitx_tuple I.kIn ⟨o, h1, h2⟩ e (fun z => nomatch z) h
  | @dK a kvs ea =>
    cases (show u = Value.ref a from rx)
    obtain ⟨_, _, vs, _, p⟩ := (show ObjOk X.prog X.w H s.heap a (.dK kvs) from I.hok a _ ea)
    obtain ⟨o, es, ep, h1, h2, _⟩ := p
    exact PySem.W.kia_one PySem.W.kitx_dict I.kIn ⟨o, h1, h2.1⟩ e (fun z => nomatch z) h
  | @dT a kvs ea =>
    cases (show u = Value.ref a from rx)
    obtain ⟨_, _, xs, _, o, es, ep, h1, h2, _⟩ := (show ObjOk X.prog X.w H s.heap a (.dT kvs) from I.hok a _ ea)
    exact PySem.W.kia_one PySem.W.kitx_dict I.kIn ⟨o, h1, h2.1⟩ e (fun z => nomatch z) h
  | @ins a C dx fs ea cl ha hn htk hm =>
    cases (show u = Value.ref a from rx)
    obtain ⟨mA, O, _⟩ := ins_get I.hok ea
    obtain ⟨od, J, _⟩ := O.look
    exact PySem.W.kia_one (PySem.W.kitx_own (cl.get _) cl.hd ha hn htk hm) I.kIn J e (fun z => nomatch z) h
end
end L2

namespace L2
open PySem PySem.Spec PyProof.Rows

/-! ### room -/
structure Room (k : Nat) (A : Around) : Prop where
  hd : A.handled = none
  dp : A.depth + 3 * k + 5 < recursionLimit
  un : A.units + 16 * k + 200 < cLine
theorem Room.mono {j k : Nat} {A : Around} (r : Room k A) (h : j ≤ k) : Room j A := ⟨r.hd, by have := r.dp; omega, by have := r.un; omega⟩
theorem Room.deeper {k : Nat} {A : Around} (r : Room (k + 1) A) (env : Env) : Room k (A.deeper env) :=
  ⟨r.hd, by have := r.dp; show A.depth + 1 + 3 * k + 5 < _; omega, by have := r.un; show A.units + 3 + 16 * k + 200 < _; omega⟩
theorem Room.in1 {k : Nat} {A : Around} (r : Room (k + 1) A) : Room k A.in1 :=
  ⟨r.hd, by have := r.dp; show A.depth + 3 * k + 5 < _; omega, by have := r.un; show A.units + 1 + 16 * k + 200 < _; omega⟩
theorem make_depth {A : Around} {C : Addr} {us : List Value} {kw : List (Str × Value)} : (A.under (.builtin "type.__call__" ⟨.ref C :: us, kw⟩)).depth = A.depth + 1 := by
  first | rfl | simp [Around.under, Code.weight, Code.isCreation, Code.isGuard, Code.isCaller, Code.frames, Code.isFrame, guardIds]
theorem make_units {A : Around} {C : Addr} {us : List Value} {kw : List (Str × Value)} : (A.under (.builtin "type.__call__" ⟨.ref C :: us, kw⟩)).units = A.units + 1 := by
  first | rfl | simp [Around.under, Code.cUnits, Code.frames, Code.isFrame]
theorem Room.make {k : Nat} {A : Around} (r : Room (k + 1) A) (C : Addr) (us : List Value) (kw : List (Str × Value)) : Room k (A.under (.builtin "type.__call__" ⟨.ref C :: us, kw⟩)) :=
  ⟨r.hd, by have := r.dp; rw [make_depth]; omega, by have := r.un; rw [make_units]; omega⟩
theorem Room.depth {k : Nat} {A : Around} (r : Room k A) : A.depth < recursionLimit := by have := r.dp; omega
theorem Room.units {k : Nat} {A : Around} (r : Room k A) : A.units + 64 < cLine := by have := r.un; omega
theorem Room.units0 {k : Nat} {A : Around} (r : Room k A) : A.units < cLine := by have := r.un; omega

/-! ### argument lists and displays -/
def tNil : TA := fun _ H Q => Q [] H
def tCons (ta : TE) (tr : TA) : TA := fun σ H Q => ta σ H fun x H1 => tr σ H1 fun xs H2 => Q (x :: xs) H2
section
variable {X : Cx} {e : Expr} {es : List Expr} {te : TE} {t : TA} {pos : Pos}
theorem pa_nil : PA X [] tNil := fun _ _ _ _ H Q I h => Calls.spliced_nil ⟨[], H, I, .nil, h⟩
theorem pa_cons (ha : PE X e te) (hr : PA X es t) (hs : starEach (e :: es) X.env = (false, eval e X.env) :: starEach es X.env := by rfl) : PA X (e :: es) (tCons te t) := by
  intro pos pins s σ H Q I h
  rw [hs]
  show wpAny _ _ (spliced ((false, eval e X.env) :: backTo pos (starEach es X.env))) _ _ s
  refine Calls.spliced_cons (thn (ha pins s σ H _ I h) fun u s1 ⟨x, H1, I1, r1, q1⟩ => ?_)
  exact thn (hr pos pins s1 σ H1 _ I1 q1) fun us s2 ⟨xs, H2, I2, r2, q2⟩ => ⟨x :: xs, H2, I2, .cons r1 r2, q2⟩

/-- a tuple, a list of written items -/
def tTup (t : TA) : TE := fun σ H Q => t σ H fun xs H1 => xs.length ≤ sizeLine ∧ ∀ p, H1 p = none → Q (.ref p) (upd H1 p (.tup xs))
def tLst (t : TA) : TE := fun σ H Q => t σ H fun xs H1 => xs.length ≤ sizeLine ∧ ∀ p, H1 p = none → Q (.ref p) (upd H1 p (.lst xs))
theorem pe_tup {x1} (h : PA X es t) : PE X (.Tuple es x1 pos) (tTup t) := by
  intro pins s σ H Q I hq
  refine wpAny_Tuple_spliced (thn (h pos pins s σ H _ I hq) fun us s1 ⟨xs, H1, I1, r, z, q⟩ => ⟨by rw [← r.length]; exact z, ?_⟩)
  have hf : H1 s1.heap.objs.size = none := I1.hok.fresh (Nat.le_refl _)
  refine ⟨.ref s1.heap.objs.size, upd H1 s1.heap.objs.size (.tup xs), I1.laid (t' := s1.toks) (fun b u e => Heap.get?_push_of_some _ e) (Nat.le_refl _) ?_, rfl, q _ hf⟩
  exact ⟨z, us, r, ⟨_, Heap.get?_push_size _ rfl, rfl, _, rfl⟩⟩
theorem pe_lst (h : PA X es t) : PE X (.List es pos) (tLst t) := by
  intro pins s σ H Q I hq
  refine wpAny_List_spliced (thn (h pos pins s σ H _ I hq) fun us s1 ⟨xs, H1, I1, r, z, q⟩ => ⟨by rw [← r.length]; exact z, ?_⟩)
  have hf : H1 s1.heap.objs.size = none := I1.hok.fresh (Nat.le_refl _)
  refine ⟨.ref s1.heap.objs.size, upd H1 s1.heap.objs.size (.lst xs), I1.laid (t' := s1.toks) (fun b u e => Heap.get?_push_of_some _ e) (Nat.le_refl _) ?_, rfl, q _ hf⟩
  exact ⟨z, us, 0, r, Heap.get?_push_size _ rfl⟩
end

/-! ### what a def promises -/
/-- a def's promise: the bound arguments in the parameters' order, the heap, the wanted end, the wanted exception -/
abbrev Sp := List V → Hp → VK → XK → Prop
/-- how an exception lies behind a call (file 08 gives it): the callers' frames, abstract heap and state ahead of the call, the wish, the exception, the state -/
abbrev CXT := List Env → Hp → Shared → XK → Value → Shared → Prop

/-- the state at a call -/
structure Env0 (P : Program) (w : World) (K : PySem.W.Frag) (mg : Str → Option Value) (base : Heap) (A : Around) (outer : List Env) (s : Shared) (H : Hp) : Prop where
  frames : A.frames = some outer
  mod : Mod K mg base
  bs : ∀ b o, base.get? b = some o → s.heap.get? b = some o ∧ H b = none
  bsz : base.objs.size ≤ s.heap.objs.size
  funs : s.heap.FunFrames base outer
  frf : ∀ b ∈ frs outer, H b = none
  hok : HOk P w H s.heap
  bare : AllBare s.gens
/-- a call's end -/
def CE (outer : List Env) (P : Program) (w : World) (H : Hp) (s : Shared) (Q : VK) (u : Value) (s' : Shared) : Prop :=
  ∃ v H', s'.os = s.os ∧ AllBare s'.gens ∧ Un (frs outer) [] H H' s.heap s'.heap ∧ HOk P w H' s'.heap ∧ RelV v u ∧ Q v H'
def CR (CX : CXT) (outer : List Env) (P : Program) (w : World) (H : Hp) (s : Shared) (Q : VK) (E : XK) (r : Result) (s' : Shared) : Prop :=
  match r with
  | .ok (.ret u) => CE outer P w H s Q u s'
  | .ok _ => False
  | .error e => CX outer H s E e s'
structure FnOk (P : Program) (w : World) (K : PySem.W.Frag) (mg : Str → Option Value) (base : Heap) (CX : CXT) (k : Nat) (f : Addr) (fd : FuncData) (ps : List Str) (sp : Sp) : Prop where
  len : ∀ vs H Q E, sp vs H Q E → vs.length = ps.length
  run : ∀ (A : Around) (outer : List Env) (s : Shared) (H : Hp) (args : Args) (us : List Value) (vs : List V) (Q : VK) (E : XK), Room k A → Env0 P w K mg base A outer s H → BindsTo s fd args (ps.zip us) → Vals vs us → sp vs H Q E →
    codeAny (model P w) A (.call (.ref f) args) (CR CX outer P w H s Q E) s
theorem FnOk.mono {P : Program} {w : World} {K : PySem.W.Frag} {mg : Str → Option Value} {base : Heap} {CX : CXT} {j k : Nat} {f : Addr} {fd : FuncData} {ps : List Str} {sp : Sp} (F : FnOk P w K mg base CX j f fd ps sp) (h : j ≤ k) :
    FnOk P w K mg base CX k f fd ps sp := ⟨F.len, fun A outer s H args us vs Q E hr => F.run A outer s H args us vs Q E (hr.mono h)⟩
/-- a weaker promise -/
theorem FnOk.imp {P : Program} {w : World} {K : PySem.W.Frag} {mg : Str → Option Value} {base : Heap} {CX : CXT} {k : Nat} {f : Addr} {fd : FuncData} {ps : List Str} {sp sp' : Sp} (F : FnOk P w K mg base CX k f fd ps sp)
    (h : ∀ vs H Q E, sp' vs H Q E → sp vs H Q E) : FnOk P w K mg base CX k f fd ps sp' :=
  ⟨fun vs H Q E q => F.len vs H Q E (h _ _ _ _ q), fun A outer s H args us vs Q E hr he hb hv hs => F.run A outer s H args us vs Q E hr he hb hv (h _ _ _ _ hs)⟩

theorem Env0.make {P : Program} {w : World} {K : PySem.W.Frag} {mg : Str → Option Value} {base : Heap} {A : Around} {outer : List Env} {s : Shared} {H : Hp} (e : Env0 P w K mg base A outer s H) (C : Addr) (us : List Value) (kw : List (Str × Value)) :
    Env0 P w K mg base (A.under (.builtin "type.__call__" ⟨.ref C :: us, kw⟩)) outer s H := ⟨by first | exact e.frames | (simpa [Around.under, Code.envs, Code.isFrame, pushEnvs] using e.frames), e.mod, e.bs, e.bsz, e.funs, e.frf, e.hok, e.bare⟩
theorem Env0.in1 {P : Program} {w : World} {K : PySem.W.Frag} {mg : Str → Option Value} {base : Heap} {A : Around} {outer : List Env} {s : Shared} {H : Hp} (e : Env0 P w K mg base A outer s H) :
    Env0 P w K mg base A.in1 outer s H := ⟨e.frames, e.mod, e.bs, e.bsz, e.funs, e.frf, e.hok, e.bare⟩

section
variable {X : Cx} {pins : List (Addr × Obj)} {σ : St} {H : Hp} {s s' : Shared}
/-- from a body: what a callee wants -/
theorem Inv.env0 (I : Inv X pins σ H s) : Env0 X.prog X.w X.K X.mg X.base X.A X.stack s H :=
  ⟨I.ok.frames, I.ok.mod, I.bs, Nat.le_trans I.ok.bsz I.sz, I.stack, I.stkFree, I.hok, I.bare⟩
/-- behind a call -/
theorem Inv.after {Q : VK} {u : Value} (I : Inv X pins σ H s) (h : CE X.stack X.prog X.w H s Q u s') : EP X pins σ Q u s' := by
  obtain ⟨v, H', os, bare, un, hok, r, q⟩ := h
  obtain ⟨hh, g, d, t, os'⟩ := s'
  obtain rfl : os' = s.os := os
  exact ⟨v, H', I.call (h' := hh) (g' := g) (d' := d) (t' := t) (ch := []) un hok bare (fun b z => absurd z (by simp)), r, q⟩
end

/-! ### calls -/
/-- f(..): the written arguments, then the defaults dvs; E: what is wanted of an exception -/
def tCall (sp : Sp) (dvs : List V) (E : XK) (t : TA) : TE := fun σ H Q => t σ H fun vs H1 => sp (vs ++ dvs) H1 Q E
/-- o.m(..) of an instance of the class at C -/
def tMeth (C : Addr) (m : Str) (sp : Sp) (dvs : List V) (E : XK) (ta : TE) (t : TA) : TE := fun σ H Q => ta σ H fun x H1 => ∃ a dx fs, x = .ref a ∧ H1 a = some (.ins C dx fs) ∧ fs.lookup m = none ∧
  t σ H1 fun vs H2 => sp (x :: (vs ++ dvs)) H2 Q E
/-- C(..): a new instance and its dict, then __init__ -/
def tMake (C : Addr) (sp : Sp) (dvs : List V) (E : XK) (t : TA) : TE := fun σ H Q => t σ H fun vs H1 => ∀ x dx, H1 x = none → H1 dx = none → dx ≠ x →
  sp (.ref x :: (vs ++ dvs)) (upd (upd H1 dx (.own x)) x (.ins C dx [])) (fun v H2 => v = .non ∧ Q (.ref x) H2) E

/-- how the parameters are bound: us the positional arguments, kw the keywords' values by name, ds the defaults that fill up -/
def Binds (K : PySem.W.Frag) (fd : FuncData) (ps : List Str) (ds : List Value) : Prop :=
  ∀ (s : Shared) (us : List Value), K.In s.heap → (us ++ ds).length = ps.length → BindsTo s fd ⟨us, []⟩ (ps.zip (us ++ ds))
/-- every parameter is given -/
theorem Binds.all {K : PySem.W.Frag} {fd : FuncData} {ps : List Str} (h : ∀ us : List Value, us.length = ps.length → bindArgs fd ⟨us, []⟩ = pure (ps.zip us)) : Binds K fd ps [] := fun s us _ hl => by
  rw [List.append_nil] at hl ⊢
  exact .of_eq (h us hl)

/-- an exception of a callee reaches what this body wants of exceptions -/
def Passes (CX : CXT) (X : Cx) (E : XK) : Prop := ∀ (pins : List (Addr × Obj)) (σ : St) (H : Hp) (s : Shared) (e : Value) (s' : Shared), Inv X pins σ H s → CX X.stack H s E e s' → X.xe e s'

section
variable {X : Cx} {CX : CXT} {k : Nat} {f C : Addr} {fd : FuncData} {ps : List Str} {sp : Sp} {dvs : List V} {ds : List Value} {E : XK} {x m : Str} {p pos apos : Pos} {e o : Expr} {es : List Expr} {ta : TE} {t : TA}

/-- the callee runs -/
theorem run_fn {pins : List (Addr × Obj)} {σ : St} {H : Hp} {s : Shared} {Q : VK} {us : List Value} {vs : List V} (F : FnOk X.prog X.w X.K X.mg X.base CX k f fd ps sp) (hr : Room k X.A) (hb : Binds X.K fd ps ds) (hd : Vals dvs ds) (hx : Passes CX X E)
    (I : Inv X pins σ H s) (r : Vals vs us) (h : sp (vs ++ dvs) H Q E) : wpAny (model X.prog X.w) X.A (call (.ref f) us) (EP X pins σ Q) X.xe s := by
  have r2 : Vals (vs ++ dvs) (us ++ ds) := r.append hd
  have hl : (us ++ ds).length = ps.length := by rw [← r2.length]; exact F.len _ _ _ _ h
  refine wpAny_call (codeAny_mono (F.run X.A X.stack s H ⟨us, []⟩ (us ++ ds) (vs ++ dvs) Q E hr I.env0 (hb s us I.kIn hl) r2 h) fun r s' hq => ?_)
  cases r with
  | error e => exact hx pins σ H s e s' I hq
  | ok fl =>
    cases fl with
    | ret u => exact I.after hq
    | next => exact False.elim hq
    | brk => exact False.elim hq
    | cont => exact False.elim hq

theorem pe_call (F : FnOk X.prog X.w X.K X.mg X.base CX k f fd ps sp) (hr : Room k X.A) (hg : Gl X x) (hm : X.mg x = some (.ref f)) (hk : PySem.W.keepIn X.K (.ref f) = true) (hb : Binds X.K fd ps ds) (hd : Vals dvs ds) (hx : Passes CX X E)
    (ha : PA X (e :: es) t) (hdb : (x == ("__debug__" : Str)) = false := by decide) (he : starEach (e :: es) X.env = (false, eval e X.env) :: starEach es X.env := by rfl) (hpl : (backTo pos (starEach es X.env)).any (·.1) = false := by rfl) :
    PE X (.Call (.Name x p) (e :: es) [] pos) (tCall sp dvs E t) := by
  intro pins s σ H Q I h
  refine wpAny_Call_Name_kw (ld_glob I hg hm ?_ hdb)
  refine PySem.W.callWith_K (h₀ := X.base) I.ok.mod.kin hk (thn (ha pos pins s σ H _ I h) fun us s1 ⟨vs, H1, I1, r, q⟩ => ⟨I1.kIn, ?_⟩) he hpl
  exact run_fn F hr hb hd hx I1 r q
theorem pe_call0 (F : FnOk X.prog X.w X.K X.mg X.base CX k f fd ps sp) (hr : Room k X.A) (hg : Gl X x) (hm : X.mg x = some (.ref f)) (hk : PySem.W.keepIn X.K (.ref f) = true) (hb : Binds X.K fd ps ds) (hd : Vals dvs ds) (hx : Passes CX X E)
    (hdb : (x == ("__debug__" : Str)) = false := by decide) : PE X (.Call (.Name x p) [] [] pos) (tCall sp dvs E tNil) := by
  intro pins s σ H Q I h
  refine wpAny_Call_Name_kw (ld_glob I hg hm ?_ hdb)
  exact PySem.W.callWith_K0 I.kIn hk (run_fn (us := []) F hr hb hd hx I .nil h)

/-- o.m(e, ..) -/
theorem pe_meth {pl : Sem Bool} (he : PE X o ta) (c : Cls X.K C) (hm : Meth X.K C m f) (F : FnOk X.prog X.w X.K X.mg X.base CX k f fd ps sp) (hr : Room k X.A) (hb : Binds X.K fd ps ds) (hd : Vals dvs ds) (hx : Passes CX X E) (ha : PA X (e :: es) t)
    (hst : starEach (e :: es) X.env = (false, eval e X.env) :: starEach es X.env := by rfl) (hpl : (backTo pos (starEach es X.env)).any (·.1) = false := by rfl)
    (ht : eval (.Call (.Attribute o m apos) (e :: es) [] pos) X.env = (do
      let ov ← eval o X.env
      standAt apos.atName
      let (f, first) ← holding [ov] (getMethod ov m pl)
      callWith pos f first (backTo pos (starEach (e :: es) X.env)) (backToKw pos (keywordEach [] X.env))) := by rfl) :
    PE X (.Call (.Attribute o m apos) (e :: es) [] pos) (tMeth C m sp dvs E ta t) := by
  intro pins s σ H Q I h
  refine PySem.W.methodCall_KW (pl := pl) (thn (he pins s σ H _ I h) fun u s1 ⟨x, H1, I1, rx, a, dx, fs, ex, ea, l, q⟩ => ?_) ht
  subst ex
  obtain rfl : u = Value.ref a := rx
  refine getmeth_ok I1 ea c hm l ?_
  refine PySem.W.callWith_K (first := [.ref a]) (h₀ := X.base) I.ok.mod.kin hm.kp (thn (ha pos pins s1 σ H1 _ I1 q) fun us s2 ⟨vs, H2, I2, r, q2⟩ => ⟨I2.kIn, ?_⟩) hst hpl
  exact run_fn (us := .ref a :: us) (vs := .ref a :: vs) F hr hb hd hx I2 (.cons rfl r) q2
/-- o.m() -/
theorem pe_meth0 {pl : Sem Bool} (he : PE X o ta) (c : Cls X.K C) (hm : Meth X.K C m f) (F : FnOk X.prog X.w X.K X.mg X.base CX k f fd ps sp) (hr : Room k X.A) (hb : Binds X.K fd ps ds) (hd : Vals dvs ds) (hx : Passes CX X E)
    (ht : eval (.Call (.Attribute o m apos) [] [] pos) X.env = (do
      let ov ← eval o X.env
      standAt apos.atName
      let (f, first) ← holding [ov] (getMethod ov m pl)
      callWith pos f first (backTo pos (starEach [] X.env)) (backToKw pos (keywordEach [] X.env))) := by rfl) :
    PE X (.Call (.Attribute o m apos) [] [] pos) (tMeth C m sp dvs E ta tNil) := by
  intro pins s σ H Q I h
  refine PySem.W.methodCall_KW (pl := pl) (thn (he pins s σ H _ I h) fun u s1 ⟨x, H1, I1, rx, a, dx, fs, ex, ea, l, q⟩ => ?_) ht
  subst ex
  obtain rfl : u = Value.ref a := rx
  refine getmeth_ok I1 ea c hm l ?_
  exact PySem.W.callWith_K0 (first := [.ref a]) I1.kIn hm.kp (run_fn (us := [.ref a]) (vs := [.ref a]) F hr hb hd hx I1 (.cons rfl .nil) q)

/-- what a class must have to be made -/
structure Mk (K : PySem.W.Frag) (C f : Addr) : Prop where
  makes : PySem.W.makesIn K C = true
  init : PySem.W.findIn K (.ref C) "__init__" = some (some (.ref f))
  fn : PySem.W.isFn K (.ref f) = true
  kp : PySem.W.keepIn K (.ref C) = true

theorem run_make {pins : List (Addr × Obj)} {σ : St} {H : Hp} {s : Shared} {Q : VK} {us : List Value} {vs : List V} (M : Mk X.K C f) (F : FnOk X.prog X.w X.K X.mg X.base CX k f fd ps sp) (hr : Room (k + 1) X.A) (hb : Binds X.K fd ps ds) (hd : Vals dvs ds)
    (hx : Passes CX X E) (I : Inv X pins σ H s) (r : Vals vs us)
    (h : ∀ x dx, H x = none → H dx = none → dx ≠ x → sp (.ref x :: (vs ++ dvs)) (upd (upd H dx (.own x)) x (.ins C dx [])) (fun v H2 => v = .non ∧ Q (.ref x) H2) E) :
    wpAny (model X.prog X.w) X.A (call (.ref C) us) (EP X pins σ Q) X.xe s := by
  have hq := h (s.heap.objs.size + 1) s.heap.objs.size (I.hok.fresh (Nat.le_succ _)) (I.hok.fresh (Nat.le_refl _)) (Nat.ne_of_lt (Nat.lt_succ_self _))
  have I2 := Inv.made (C := C) I
  have r2 : Vals (V.ref (s.heap.objs.size + 1) :: (vs ++ dvs)) (Value.ref (s.heap.objs.size + 1) :: (us ++ ds)) := .cons rfl (r.append hd)
  have hl : (Value.ref (s.heap.objs.size + 1) :: us ++ ds).length = ps.length := by
    have e := r2.length
    rw [F.len _ _ _ _ hq] at e
    exact e.symm
  refine wpAny_call (make_map (f := f) I.kIn M.makes M.init (beq_iff_eq.mp M.fn) (codeAny_mono (F.run _ X.stack _ _ ⟨Value.ref (s.heap.objs.size + 1) :: us, []⟩ (Value.ref (s.heap.objs.size + 1) :: (us ++ ds)) _ _ E (hr.make C us [])
    (I2.env0.make C us []) (hb _ (Value.ref (s.heap.objs.size + 1) :: us) I2.kIn hl) r2 hq) fun r s' hq' => ?_))
  cases r with
  | error e => exact hx pins σ _ _ e s' I2 hq'
  | ok fl =>
    cases fl with
    | ret u =>
      obtain ⟨v, H', I3, rv, ev, q3⟩ := I2.after hq'
      subst ev
      exact ⟨rv, ⟨V.ref (s.heap.objs.size + 1), H', I3, rfl, q3⟩⟩
    | next => exact False.elim hq'
    | brk => exact False.elim hq'
    | cont => exact False.elim hq'
theorem pe_make (M : Mk X.K C f) (F : FnOk X.prog X.w X.K X.mg X.base CX k f fd ps sp) (hr : Room (k + 1) X.A) (hg : Gl X x) (hm : X.mg x = some (.ref C)) (hb : Binds X.K fd ps ds) (hd : Vals dvs ds) (hx : Passes CX X E)
    (ha : PA X (e :: es) t) (hdb : (x == ("__debug__" : Str)) = false := by decide) (he : starEach (e :: es) X.env = (false, eval e X.env) :: starEach es X.env := by rfl) (hpl : (backTo pos (starEach es X.env)).any (·.1) = false := by rfl) :
    PE X (.Call (.Name x p) (e :: es) [] pos) (tMake C sp dvs E t) := by
  intro pins s σ H Q I h
  refine wpAny_Call_Name_kw (ld_glob I hg hm ?_ hdb)
  refine PySem.W.callWith_K (h₀ := X.base) I.ok.mod.kin M.kp (thn (ha pos pins s σ H _ I h) fun us s1 ⟨vs, H1, I1, r, q⟩ => ⟨I1.kIn, ?_⟩) he hpl
  exact run_make M F hr hb hd hx I1 r q
theorem pe_make0 (M : Mk X.K C f) (F : FnOk X.prog X.w X.K X.mg X.base CX k f fd ps sp) (hr : Room (k + 1) X.A) (hg : Gl X x) (hm : X.mg x = some (.ref C)) (hb : Binds X.K fd ps ds) (hd : Vals dvs ds) (hx : Passes CX X E)
    (hdb : (x == ("__debug__" : Str)) = false := by decide) : PE X (.Call (.Name x p) [] [] pos) (tMake C sp dvs E tNil) := by
  intro pins s σ H Q I h
  refine wpAny_Call_Name_kw (ld_glob I hg hm ?_ hdb)
  exact PySem.W.callWith_K0 I.kIn M.kp (run_make (us := []) M F hr hb hd hx I .nil h)
end

/-! ### keywords -/
/-- the values of the keywords, from the left -/
def PK (X : Cx) (kws : List Keyword) (t : TA) : Prop :=
  ∀ (pos : Pos) (pins : List (Addr × Obj)) (s : Shared) (σ : St) (H : Hp) (Q : List V → Hp → Prop), Inv X pins σ H s → t σ H Q → wpAny (model X.prog X.w) X.A (evalAll ((backToKw pos (keywordEach kws X.env)).map (·.2))) (AP X pins σ Q) X.xe s
section
variable {X : Cx} {CX : CXT} {k : Nat} {f C : Addr} {fd : FuncData} {ps ks : List Str} {sp : Sp} {E : XK} {x m : Str} {p pos apos kpos : Pos} {e o : Expr} {es : List Expr} {kws : List Keyword} {te ta : TE} {t tk : TA} {nm : Option Str}
theorem pk_nil : PK X [] tNil := fun _ _ _ _ H Q I h => wpAny_evalAll_nil ⟨[], H, I, .nil, h⟩
theorem pk_cons (ha : PE X e te) (hr : PK X kws t) : PK X (⟨nm, e, kpos⟩ :: kws) (tCons te t) := by
  intro pos pins s σ H Q I h
  show wpAny _ _ (evalAll ((do let v ← eval e X.env; standAt pos; pure v) :: (backToKw pos (keywordEach kws X.env)).map (·.2))) _ _ s
  refine wpAny_evalAll_cons (wpAny_bind (thn (ha pins s σ H _ I h) fun u s1 ⟨x, H1, I1, r1, q1⟩ => wpAny_bind (wpAny_standAt (wpAny_pure ?_))))
  exact thn (hr pos pins s1 σ H1 _ I1 q1) fun us s2 ⟨xs, H2, I2, r2, q2⟩ => ⟨x :: xs, H2, I2, .cons r1 r2, q2⟩

/-- how a call with keywords binds: g puts the positional values us and the keywords' values ws (names ks) in the parameters' order, defaults among them -/
structure KBinds (K : PySem.W.Frag) (fd : FuncData) (ps ks : List Str) (g : List Value → List Value → List Value) (gV : List V → List V → List V) : Prop where
  to : ∀ (s : Shared) (us ws : List Value), K.In s.heap → (g us ws).length = ps.length → BindsTo s fd ⟨us, ks.zip ws⟩ (ps.zip (g us ws))
  rel : ∀ {vs : List V} {us : List Value} {zs : List V} {ws : List Value}, Vals vs us → Vals zs ws → Vals (gV vs zs) (g us ws)
def tCallK (sp : Sp) (gV : List V → List V → List V) (E : XK) (t tk : TA) : TE := fun σ H Q => t σ H fun vs H1 => tk σ H1 fun zs H2 => sp (gV vs zs) H2 Q E
variable {g : List Value → List Value → List Value} {gV : List V → List V → List V}
theorem run_fnk {pins : List (Addr × Obj)} {σ : St} {H : Hp} {s : Shared} {Q : VK} {us ws : List Value} {vs zs : List V} (F : FnOk X.prog X.w X.K X.mg X.base CX k f fd ps sp) (hr : Room k X.A) (hb : KBinds X.K fd ps ks g gV) (hx : Passes CX X E)
    (I : Inv X pins σ H s) (r : Vals vs us) (rz : Vals zs ws) (h : sp (gV vs zs) H Q E) : wpAny (model X.prog X.w) X.A (call (.ref f) us (ks.zip ws)) (EP X pins σ Q) X.xe s := by
  have r2 := hb.rel r rz
  have hl : (g us ws).length = ps.length := by rw [← r2.length]; exact F.len _ _ _ _ h
  refine wpAny_call (codeAny_mono (F.run X.A X.stack s H ⟨us, ks.zip ws⟩ (g us ws) (gV vs zs) Q E hr I.env0 (hb.to s us ws I.kIn hl) r2 h) fun r s' hq => ?_)
  cases r with
  | error e => exact hx pins σ H s e s' I hq
  | ok fl =>
    cases fl with
    | ret u => exact I.after hq
    | next => exact False.elim hq
    | brk => exact False.elim hq
    | cont => exact False.elim hq
/-- f(e, .., k = v, ..) -/
theorem pe_callK (F : FnOk X.prog X.w X.K X.mg X.base CX k f fd ps sp) (hr : Room k X.A) (hg : Gl X x) (hm : X.mg x = some (.ref f)) (hk : PySem.W.keepIn X.K (.ref f) = true) (hb : KBinds X.K fd ps ks g gV) (hx : Passes CX X E)
    (ha : PA X (e :: es) t) (hkw : PK X kws tk) (hall : (backToKw pos (keywordEach kws X.env)).all (·.1.isSome) = true := by rfl) (hks : (backToKw pos (keywordEach kws X.env)).filterMap (·.1) = ks := by rfl)
    (hdb : (x == ("__debug__" : Str)) = false := by decide) (he : starEach (e :: es) X.env = (false, eval e X.env) :: starEach es X.env := by rfl)
    (hpl : ((backTo pos (starEach (e :: es) X.env)).any (·.1) || (backToKw pos (keywordEach kws X.env)).any (·.1.isNone)) = false := by rfl) :
    PE X (.Call (.Name x p) (e :: es) kws pos) (tCallK sp gV E t tk) := by
  intro pins s σ H Q I h
  refine wpAny_Call_Name_kw (ld_glob I hg hm ?_ hdb)
  refine PySem.W.callWith_KW (h₀ := X.base) I.ok.mod.kin hk hall (thn (ha pos pins s σ H _ I h) fun us s1 ⟨vs, H1, I1, r, q⟩ => ?_) hpl he
  refine thn (hkw pos pins s1 σ H1 _ I1 q) fun ws s2 ⟨zs, H2, I2, rz, q2⟩ => ⟨I2.kIn, ?_⟩
  rw [hks]
  exact run_fnk F hr hb hx I2 r rz q2
end

/-! ### a def's body keeps its promise -/
/-- names: the parameters first -/
structure FnScope (N P : List Str) (sc : Scope) : Prop where
  kind : sc.kind = .function
  co : sc.isCoroutine = false
  gen : sc.isGenerator = false
  nd : N.Nodup
  pre : N.take P.length = P
  par : ∀ x ∈ P, sc.names.lookup x = some .local ∨ sc.names.lookup x = some .cell
  nofree : ∀ y ∈ sc.names, y.2 ≠ .free

theorem bindL_out {kindOf : Str → Option NameKind} {x : Str} : ∀ {binds : List (Str × Value)} {m : Str → Option Value}, (∀ v, (x, v) ∉ binds) → bindL kindOf binds m x = m x
  | [], _, _ => rfl
  | (n, v) :: r, m, h => by
    unfold bindL
    rw [bindL_out fun w hw => h w (List.mem_cons_of_mem _ hw)]
    split
    · have : x ≠ n := by rintro rfl; exact h v List.mem_cons_self
      simp [this]
    · rfl
theorem bindC_out {kindOf : Str → Option NameKind} {x : Str} : ∀ {binds : List (Str × Value)} {m : Str → Option Value}, (∀ v, (x, v) ∉ binds) → bindC kindOf binds m x = m x
  | [], _, _ => rfl
  | (n, v) :: r, m, h => by
    unfold bindC
    rw [bindC_out fun w hw => h w (List.mem_cons_of_mem _ hw)]
    split
    · rfl
    · have : x ≠ n := by rintro rfl; exact h v List.mem_cons_self
      simp [this]
theorem bindL_get {kindOf : Str → Option NameKind} {x : Str} {v : Value} : ∀ {P : List Str} {vs : List Value} {i : Nat} {m : Str → Option Value}, P.Nodup → P[i]? = some x → vs[i]? = some v → kindOf x = some .local →
    bindL kindOf (P.zip vs) m x = some v
  | [], _, _, _, _, h, _, _ => by simp at h
  | _ :: _, [], _, _, _, _, h, _ => by simp at h
  | p :: P, w :: vs, 0, m, nd, h1, h2, hk => by
    simp at h1 h2; subst h1; subst h2
    show bindL kindOf ((p, w) :: P.zip vs) m p = _
    unfold bindL
    rw [bindL_out fun v hv => (List.nodup_cons.mp nd).1 (List.of_mem_zip hv).1, if_pos hk]
    simp
  | p :: P, w :: vs, i + 1, m, nd, h1, h2, hk => by
    show bindL kindOf ((p, w) :: P.zip vs) m x = _
    unfold bindL
    exact bindL_get (i := i) (List.nodup_cons.mp nd).2 (by simpa using h1) (by simpa using h2) hk
theorem bindC_get {kindOf : Str → Option NameKind} {x : Str} {v : Value} : ∀ {P : List Str} {vs : List Value} {i : Nat} {m : Str → Option Value}, P.Nodup → P[i]? = some x → vs[i]? = some v → kindOf x ≠ some .local →
    bindC kindOf (P.zip vs) m x = some v
  | [], _, _, _, _, h, _, _ => by simp at h
  | _ :: _, [], _, _, _, _, h, _ => by simp at h
  | p :: P, w :: vs, 0, m, nd, h1, h2, hk => by
    simp at h1 h2; subst h1; subst h2
    show bindC kindOf ((p, w) :: P.zip vs) m p = _
    unfold bindC
    rw [bindC_out fun v hv => (List.nodup_cons.mp nd).1 (List.of_mem_zip hv).1, if_neg hk]
    simp
  | p :: P, w :: vs, i + 1, m, nd, h1, h2, hk => by
    show bindC kindOf ((p, w) :: P.zip vs) m x = _
    unfold bindC
    exact bindC_get (i := i) (List.nodup_cons.mp nd).2 (by simpa using h1) (by simpa using h2) hk

/-- the names' values at the entry -/
def start (N : List Str) (vs : List V) : St := vs.map some ++ List.replicate (N.length - vs.length) none

/-- the context of a def's body, at its entry; an exception leaves the frame, then lies as CX says -/
def cxOf (CX : CXT) (P : Program) (w : World) (K : PySem.W.Frag) (mg : Str → Option Value) (base : Heap) (N : List Str) (qual : Str) (scope : Scope) (f : Addr) (cd : Value) (A : Around) (outer : List Env) (s : Shared) (H : Hp) (E : XK) : Cx where
  prog := P
  w := w
  K := K
  mg := mg
  base := base
  A := A.deeper (envOfC qual scope s.heap.objs.size f cd)
  N := N
  s₀ := s
  H₀ := H
  env := envOfC qual scope s.heap.objs.size f cd
  outer := outer
  stack := envOfC qual scope s.heap.objs.size f cd :: outer
  ex := []
  calm := true
  fn := fun _ => true
  pn := []
  xe := fun e s' => wpAny (model P w) (A.deeper (envOfC qual scope s.heap.objs.size f cd)) (leaving (envOfC qual scope s.heap.objs.size f cd) e) (fun _ s'' => CX outer H s E e s'') (fun e' s'' => CX outer H s E e' s'') s'

theorem cell_has {sc : Scope} {n : Nat} {x : Str} (h : sc.names.lookup x = some .cell) : ∃ c, (cellsFrom n sc.names []).lookup x = some c := by
  have q := PySem.W.cellsFrom_some sc.names n [] (.inl h)
  exact Option.isSome_iff_exists.mp q

theorem inv_start {CX : CXT} {P : Program} {w : World} {K : PySem.W.Frag} {mg : Str → Option Value} {base : Heap} {N ps : List Str} {qual : Str} {scope : Scope} {f : Addr} {cd : Value} {A : Around} {outer : List Env} {s s1 : Shared} {H : Hp} {E : XK} {us : List Value} {vs : List V}
    (S : FnScope N ps scope) (hd : A.handled = none) (e0 : Env0 P w K mg base A outer s H) (hl : vs.length = ps.length) (r : Vals vs us)
    (x : InCallC s s.heap.objs.size (bindL (envOfC qual scope s.heap.objs.size f cd).kindOf (ps.zip us) fun _ => none) (cellsFrom (s.heap.objs.size + 1) scope.names []) (bindC (envOfC qual scope s.heap.objs.size f cd).kindOf (ps.zip us) fun _ => none) s1) :
    Inv (cxOf CX P w K mg base N qual scope f cd A outer s H E) [] (start N vs) H s1 := by
  have hpl : ps.length ≤ N.length := by have := congrArg List.length S.pre; rw [List.length_take] at this; omega
  obtain ⟨h1, tk, rfl, hk⟩ := x.done
  have noA : ∀ b : Addr, b ∉ (cxOf CX P w K mg base N qual scope f cd A outer s H E).ex := fun b z => absurd (show b ∈ ([] : List Addr) from z) (by simp)
  refine ⟨⟨e0.mod, S.kind, rfl, rfl, Nat.le_refl _, fun y z c h1 h2 => ?_, fun y hy => ?_, fun y c _ h => ?_, fun _ => hd, Around.frames_deeper e0.frames, .inr ⟨rfl, rfl⟩, fun b z => absurd z (noA b), e0.bs, e0.bsz, fun b _ _ => noA b, fun b z => absurd z (noA b), e0.funs, e0.frf⟩,
    rfl, e0.bare, Un.kept hk, ⟨_, x.toInCall.ns, fun i y v h1 h2 h3 => ?_⟩, fun y c h => ⟨_, x.cell y c h⟩, e0.hok.fresh (Nat.le_refl _), fun y c h => ?_, fun p hp => absurd (show p ∈ ([] : List (Addr × Obj)) from hp) (by simp), e0.hok.kept hk, ?_⟩
  · exact name_of_addr x.apart (PySem.mem_of_lookup h1) (PySem.mem_of_lookup h2)
  · have hy : scope.names.lookup y = some .cell ∨ scope.names.lookup y = some .free := hy
    rcases hy with hy | hy
    · exact cell_has hy
    · exact absurd rfl (S.nofree _ (PySem.mem_of_lookup hy))
  · exact Nat.le_of_lt (x.above y c (PySem.mem_of_lookup h))
  · have hi : i < vs.length := by
      unfold start at h2
      by_cases hi : i < vs.length
      · exact hi
      · rw [List.getElem?_append_right (by simpa using hi)] at h2
        rw [List.getElem?_replicate] at h2
        split at h2 <;> cases h2
    have ha : vs[i]? = some v := by
      unfold start at h2
      rw [List.getElem?_append_left (by simpa using hi), List.getElem?_map] at h2
      cases e : vs[i]? with
      | none => rw [e] at h2; cases h2
      | some a => rw [e] at h2; cases h2; rfl
    obtain ⟨u, hu, rv⟩ := r.get ha
    have hp : ps[i]? = some y := by
      rw [← S.pre, List.getElem?_take_of_lt (by omega)]; exact h1
    have ndP : ps.Nodup := by rw [← S.pre]; exact S.nd.sublist (List.take_sublist _ _)
    refine ⟨u, rv, ?_⟩
    rcases S.par y (List.mem_of_getElem? hp) with k | k
    · exact .inl ⟨k, bindL_get ndP hp hu k⟩
    · obtain ⟨c, e⟩ := cell_has (n := s.heap.objs.size + 1) k
      refine .inr ⟨.inl k, c, e, ?_⟩
      have q := x.cell y c e
      rw [bindC_get ndP hp hu (by show scope.names.lookup y ≠ _; rw [k]; decide)] at q
      exact q
  · exact e0.hok.fresh (Nat.le_of_lt (x.above y c (PySem.mem_of_lookup h)))
  · unfold start
    show _ = N.length
    rw [List.length_append, List.length_map, List.length_replicate]
    omega

/-- THE RULE: a def (or a method) of the text, by its body. The body's reading t is chosen for each entry; it is run at the parameters' values -/
theorem fn_of {CX : CXT} {P : Program} {w : World} {K : PySem.W.Frag} {mg : Str → Option Value} {base : Heap} {k : Nat} {f : Addr} {name qual : Str} {params : Arguments} {body : List Stmt} {scope : Scope} {dV kV doc pm cdv ct oc : Value} {an od : Option Addr}
    {osl : Array (Option Value)} {N ps : List Str} {sp : Sp} (lk : K.lookup f = some ⟨oc, od, .func (PySem.W.fnOf name qual params body scope dV kV doc pm an cdv ct), osl⟩) (hcd : PySem.W.codeIn K cdv qual = true) (S : FnScope N ps scope)
    (len : ∀ vs H Q E, sp vs H Q E → vs.length = ps.length)
    (hbody : ∀ (A : Around) (outer : List Env) (s : Shared) (H : Hp) (vs : List V) (Q : VK) (E : XK), Room k (A.deeper (envOfC qual scope s.heap.objs.size f cdv)) → sp vs H Q E →
      ∃ t, PSs (cxOf CX P w K mg base N qual scope f cdv A outer s H E) body t ∧ t { nx := fun _ H' => Q .non H', rt := Q } (start N vs) H) :
    FnOk P w K mg base CX (k + 1) f (PySem.W.fnOf name qual params body scope dV kV doc pm an cdv ct) ps sp := by
  refine ⟨len, fun A outer s H args us vs Q E hr e0 hb r hsp => ?_⟩
  have hl := len _ _ _ _ hsp
  have KX : K.In s.heap := e0.mod.kin.keeps fun b o e => (e0.bs b o e).1
  have lim : s.heap.NoLimit := e0.mod.nolimit.keeps fun b o e => (e0.bs b o e).1
  have hkind : ∀ y ∈ ps.zip us, scope.names.lookup y.1 = some .local ∨ (scope.names.lookup y.1 = some .cell ∧ ((cellsFrom (s.heap.objs.size + 1) scope.names []).lookup y.1).isSome = true) := fun ⟨n, v⟩ hy => by
    rcases S.par n (List.of_mem_zip hy).1 with q | q
    · exact .inl q
    · exact .inr ⟨q, PySem.W.cellsFrom_some _ _ _ (.inl q)⟩
  refine codeAny_call_function hr.depth (KX _ _ lk) rfl S.co S.gen rfl (PySem.W.codeRec_of KX hcd) (hb _ _ _ _ ?_)
  refine wpAny_newFunctionEnv_cells S.kind hkind fun env he s1 x => ?_
  subst he
  refine ⟨lim.keeps x.toInCall.keep, codeAny_func ?_⟩
  obtain ⟨t, ht, hq⟩ := hbody A outer s H vs Q E (hr.deeper _) hsp
  have I : Inv (cxOf CX P w K mg base N qual scope f cdv A outer s H E) [] (start N vs) H s1 := inv_start S hr.hd e0 hl r x
  refine wpAny_mono (ht [] s1 (start N vs) H _ I hq) (fun fl s' hs => ?_) fun e s' hs => hs
  have fin : ∀ {σ' : St} {H' : Hp} {v : V} {u : Value}, Inv (cxOf CX P w K mg base N qual scope f cdv A outer s H E) [] σ' H' s' → RelV v u → Q v H' → CE outer P w H s Q u s' :=
    fun {σ' H' v u} J rv q => ⟨v, H', J.os, J.bare, J.base, J.hok, rv, q⟩
  cases fl with
  | ret u =>
    obtain ⟨v, σ', H', J, rv, q⟩ := hs
    exact fin J rv q
  | next =>
    obtain ⟨σ', H', J, q⟩ := hs
    exact fin (v := V.non) (u := Value.none) J rfl q
  | brk =>
    obtain ⟨_, _, _, q⟩ := hs
    exact False.elim q
  | cont =>
    obtain ⟨_, _, _, q⟩ := hs
    exact False.elim q
end L2

namespace L2
open PySem PySem.Spec PyProof.Rows
section
variable {X : Cx} {x : Str} {p pos : Pos} {e : Expr} {es : List Expr} {t : TA} {id T : String} {r : List V → Hp → VK → Prop}

def tCB (r : List V → Hp → VK → Prop) (t : TA) : TE := fun σ H Q => t σ H fun vs H1 => r vs H1 Q
/-- f(e, ..), f a built-in function -/
theorem pe_callB (hc : CallR X (.builtin id) r) (hg : Gl X x) (hm : X.mg x = none) (hv : bootBuiltins x = some (.builtin id)) (ha : PA X (e :: es) t) (hn : x ≠ "__name__" := by decide) (hdb : (x == ("__debug__" : Str)) = false := by decide)
    (he : starEach (e :: es) X.env = (false, eval e X.env) :: starEach es X.env := by rfl) (hpl : (backTo pos (starEach es X.env)).any (·.1) = false := by rfl) : PE X (.Call (.Name x p) (e :: es) [] pos) (tCB r t) := by
  intro pins s σ H Q I h
  refine wpAny_Call_Name_kw (ld_blt I hg hm hv ?_ hn hdb)
  exact PyProof.Rows.callWith_builtin1 (thn (ha pos pins s σ H _ I h) fun us s1 ⟨vs, H1, I1, r1, q1⟩ => hc pins s1 σ H1 vs us Q I1 r1 q1) he hpl
/-- T(e, ..), T a built-in type -/
theorem pe_callTy (hc : CallR X (.type T) r) (hg : Gl X x) (hm : X.mg x = none) (hv : bootBuiltins x = some (.type T)) (ha : PA X (e :: es) t) (hn : x ≠ "__name__" := by decide) (hdb : (x == ("__debug__" : Str)) = false := by decide)
    (he : starEach (e :: es) X.env = (false, eval e X.env) :: starEach es X.env := by rfl) (hpl : (backTo pos (starEach es X.env)).any (·.1) = false := by rfl) : PE X (.Call (.Name x p) (e :: es) [] pos) (tCB r t) := by
  intro pins s σ H Q I h
  refine wpAny_Call_Name_kw (ld_blt I hg hm hv ?_ hn hdb)
  exact PyProof.Rows.callWith_type1 (thn (ha pos pins s σ H _ I h) fun us s1 ⟨vs, H1, I1, r1, q1⟩ => hc pins s1 σ H1 vs us Q I1 r1 q1) he hpl
/-- T() -/
theorem pe_callTy0 (hc : CallR X (.type T) r) (hg : Gl X x) (hm : X.mg x = none) (hv : bootBuiltins x = some (.type T)) (hn : x ≠ "__name__" := by decide) (hdb : (x == ("__debug__" : Str)) = false := by decide) :
    PE X (.Call (.Name x p) [] [] pos) (tCB r tNil) := by
  intro pins s σ H Q I h
  refine wpAny_Call_Name_kw (ld_blt I hg hm hv ?_ hn hdb)
  exact PyProof.Rows.callWith_type0 (hc pins s σ H [] [] Q I .nil h)
end
end L2

namespace HT
open PySem PyProof.Rows

/-- t < u of tuples of ints -/
def lexLt : List Int → List Int → Bool
  | [], [] => false
  | [], _ :: _ => true
  | _ :: _, [] => false
  | x :: xs, y :: ys => if x = y then lexLt xs ys else decide (x < y)
theorem lexLt_cons (x y : Int) (xs ys : List Int) : lexLt (x :: xs) (y :: ys) = if x = y then lexLt xs ys else decide (x < y) := rfl
theorem lexLt_nil_nil : lexLt [] [] = false := rfl
theorem lexLt_nil_cons (y : Int) (ys : List Int) : lexLt [] (y :: ys) = true := rfl
theorem lexLt_cons_nil (x : Int) (xs : List Int) : lexLt (x :: xs) [] = false := rfl

theorem eqAt_int (A : Around) (s : Shared) (a : Int) (t : Tok) (c : Int) (u : Tok) : ∃ e, SeqAt.EqAt A s (.int a t) (.int c u) e ∧ (e = true ↔ a = c) :=
  ⟨(a == c), SeqAt.EqAt.int_int a t c u, by simp⟩
theorem rcLt_int (A : Around) (s : Shared) (a : Int) (t : Tok) (c : Int) (u : Tok) (prog : Program) (w : World) (E : Value → Shared → Prop) (Q : Value → Shared → Prop) (h : Q (.bool (decide (a < c))) s) :
    wpAny (model prog w) A (richCompare .Lt (.int a t) (.int c u)) Q E s :=
  (PyProof.Rows.lt_int h : wpAny (model prog w) A (compareOp .Lt (.int a t) (.int c u)) Q E s)

section
open PySem.SeqAt
open PySem.AutoSeq1 (wpAny_loadPart')
open PySem.MeetsSeq PySem.MeetsSeq2 PySem.MeetsSeq3

theorem tuple_lt_ints (l b : Addr) (items items2 : Array Value) (n n2 : Nat) (dd dd2 : Option Addr) (sl sl2 : Array (Option Value)) (ns ms : List Int) (hi : IntsAre items.toList ns) (hj : IntsAre items2.toList ms) :
    Meets (Builtin.«tuple.__lt__» ⟨[.ref l, .ref b], []⟩)
      (fun _ R s => s.heap.get? l = some { cls := .type "tuple", dict := dd, data := .seq items n, slots := sl } ∧ s.heap.get? b = some { cls := .type "tuple", dict := dd2, data := .seq items2 n2, slots := sl2 } ∧
        R (.ok (.ret (.bool (lexLt ns ms)))) s) :=
  .of_wp fun prog w A R s h => by
    obtain ⟨hp, g, d, tk, os⟩ := s; obtain ⟨hl, hb, h⟩ := h
    have f2 := AutoSeq1.sub_tuple_tuple
    have z1 : items.size = ns.length := by rw [← hi.length]; simp
    have z2 : items2.size = ms.length := by rw [← hj.length]; simp
    wp_walk using wpAny_loadPart' hl, wpAny_loadPart' hb, wpAny_forIn_list _ (fun rest b s' => b.1 = none ∧ s' = ⟨hp, g, d, tk, os⟩ ∧ ∃ (vs ws : List Value) (ns' ms' : List Int), rest = vs.zip ws ∧
      IntsAre vs ns' ∧ IntsAre ws ms' ∧ ns'.length + items2.size = ms'.length + items.size ∧ R (.ok (.ret (.bool (lexLt ns' ms')))) ⟨hp, g, d, tk, os⟩) _
    case turn =>
      rintro ⟨y, x⟩ rest b s' ⟨hb', rfl, vs, ws, ns', ms', hz, hvi, hwi, hlen, hR⟩
      cases hvi with
      | nil => rw [List.zip_nil_left] at hz; cases hz
      | cons a t hvi' =>
        cases hwi with
        | nil => rw [List.zip_nil_right] at hz; cases hz
        | cons c u hwi' =>
          rw [List.zip_cons_cons] at hz
          injection hz with hyx hrest
          injection hyx with hy hx
          subst hy hx
          rw [lexLt_cons] at hR
          simp only [List.length_cons] at hlen
          obtain ⟨e, he, hiff⟩ := eqAt_int A.in1 ⟨hp, g, d, tk, os⟩ a t c u
          refine wpAny_bind (he prog w _ _ ?_)
          cases e with
          | true =>
            rw [if_pos (hiff.mp rfl)] at hR
            wp_walk
            exact ⟨rfl, rfl, _, _, _, _, hrest, hvi', hwi', by omega, hR⟩
          | false =>
            rw [if_neg (fun q => absurd (hiff.mpr q) Bool.false_ne_true)] at hR
            have hri := rcLt_int A.in1 ⟨hp, g, d, tk, os⟩ a t c u prog w
            wp_walk using hri
            exact ⟨_, rfl, by simpa using hR⟩
    case fin =>
      rintro ⟨b1, b2⟩ s' ⟨hb', rfl, vs, ws, ns', ms', hz, hvi, hwi, hlen, hR⟩
      simp only at hb'
      subst hb'
      have hv : lexLt ns' ms' = decide (items.size < items2.size) := by
        cases hvi with
        | nil =>
          cases hwi with
          | nil =>
            simp only [List.length_nil] at hlen
            rw [lexLt_nil_nil]
            exact (decide_eq_false (by omega)).symm
          | cons c u hw =>
            simp only [List.length_nil, List.length_cons] at hlen
            rw [lexLt_nil_cons]
            exact (decide_eq_true (by omega)).symm
        | cons a t hv =>
          cases hwi with
          | nil =>
            simp only [List.length_nil, List.length_cons] at hlen
            rw [lexLt_cons_nil]
            exact (decide_eq_false (by omega)).symm
          | cons c u hw =>
            rw [List.zip_cons_cons] at hz
            cases hz
      rw [hv] at hR
      wp_walk
      exact ⟨_, rfl, by simpa [Builtin.Tuple.tupleCompareSizes] using hR⟩
    case h =>
      exact ⟨rfl, rfl, items.toList, items2.toList, ns, ms, rfl, hi, hj, by omega, h⟩
end

section
variable {prog : Program} {w : World} {A : Around} {E : Value → Shared → Prop} {s : Shared}

theorem lt_tupInts {l b : Addr} {items items2 : Array Value} {ns ms : List Int} {Q : Value → Shared → Prop} (hl : IsTup s.heap l items) (hb : IsTup s.heap b items2) (hi : IntsAre items.toList ns) (hj : IntsAre items2.toList ms)
    (hu : A.units < cLine) (h : Q (.bool (lexLt ns ms)) s) : wpAny (model prog w) A (compareOp .Lt (.ref l) (.ref b)) Q E s := by
  obtain ⟨⟨cls, dd, data, sl⟩, ho, hc, n, hd⟩ := id hl
  obtain ⟨⟨cls2, dd2, data2, sl2⟩, ho2, hc2, n2, hd2⟩ := id hb
  simp only at hc hd hc2 hd2
  subst hc hd hc2 hd2
  exact richCompare_meets_room (op := .Lt) ⟨_, ho, rfl⟩ ⟨_, ho2, rfl⟩ PySem.F.slot_tuple_lt PySem.F.entry_tuple_lt (PySem.F.args_tuple_lt_2 _ _) (tuple_lt_ints l b items items2 n n2 dd dd2 sl sl2 ns ms hi hj)
    ⟨ho, ho2, show Value.bool (lexLt ns ms) ≠ Value.notImplemented ∧ Q (.bool (lexLt ns ms)) s from ⟨(fun x => nomatch x), h⟩⟩ hu

/-- t + u, t not empty -/
theorem cat_tup {t b : Addr} {vs ws : List Value} {Q : Value → Shared → Prop} (ht : IsTup s.heap t vs.toArray) (hb : IsTup s.heap b ws.toArray) (hv : vs ≠ [])
    (h1 : ws = [] → Q (.ref t) s) (h2 : ws ≠ [] → Q (.ref s.heap.objs.size) { s with heap := s.heap.push { cls := .type "tuple", data := .seq (vs ++ ws).toArray } })
    (hsz : vs.length + ws.length ≤ sizeLine) : wpAny (model prog w) A (binaryOp .Add (.ref t) (.ref b)) Q E s := by
  obtain ⟨⟨cls, dd, data, sl⟩, ho, hc, n, hd⟩ := id ht
  obtain ⟨⟨cls2, dd2, data2, sl2⟩, ho2, hc2, n2, hd2⟩ := id hb
  simp only at hc hd hc2 hd2
  subst hc hd hc2 hd2
  have e : vs.toArray ++ ws.toArray = (vs ++ ws).toArray := by simp
  by_cases hw : ws = []
  · exact concat_meets ⟨_, ho, rfl⟩ ⟨_, ho2, rfl⟩ noFill_tuple_add seq_tuple_add PySem.F.slot_tuple_add PySem.F.entry_tuple_add (PySem.F.args_tuple_add_2 _ _)
      (tuple_addW1 t b vs.toArray ws.toArray n n2 dd dd2 sl sl2 (by simpa using hv) (by simp [hw])) ⟨ho, ho2, h1 hw⟩
  · refine concat_meets ⟨_, ho, rfl⟩ ⟨_, ho2, rfl⟩ noFill_tuple_add seq_tuple_add PySem.F.slot_tuple_add PySem.F.entry_tuple_add (PySem.F.args_tuple_add_2 _ _)
      (tuple_addW2 t b vs.toArray ws.toArray n n2 dd dd2 sl sl2 (by simpa using hv) (by simpa using hw) (by rw [List.size_toArray, List.size_toArray]; exact hsz)) ⟨ho, ho2, ?_⟩
    rw [e]
    exact h2 hw

/-! ### t[a:b], not the whole -/
/-- a slice's bound as a place among n (d where it is left out) -/
def sIx (n d : Nat) : Option Int → Nat
  | none => d
  | some v => if v < 0 then (v + (n : Int)).toNat else min v.toNat n
theorem sIx_none (n d : Nat) : sIx n d none = d := rfl
theorem sIx_nat (n d k : Nat) : sIx n d (some (k : Int)) = min k n := by
  show (if (k : Int) < 0 then ((k : Int) + (n : Int)).toNat else min (k : Int).toNat n) = min k n
  rw [if_neg (by omega), Int.toNat_natCast]
theorem sIx_le (n d : Nat) (hd : d ≤ n) (o : Option Int) : sIx n d o ≤ n := by
  cases o with
  | none => exact hd
  | some v =>
    show (if v < 0 then (v + (n : Int)).toNat else min v.toNat n) ≤ n
    by_cases hv : v < 0
    · rw [if_pos hv]; omega
    · rw [if_neg hv]; exact Nat.min_le_right _ _
theorem clip_eq (v : Int) (n d : Nat) : (if v < 0 then max (v + (n : Int)) 0 else min v (n : Int)) = ((sIx n d (some v) : Nat) : Int) := by
  show (if v < 0 then max (v + (n : Int)) 0 else min v (n : Int)) = (((if v < 0 then (v + (n : Int)).toNat else min v.toNat n) : Nat) : Int)
  by_cases hv : v < 0
  · simp only [if_pos hv]; omega
  · simp only [if_neg hv]; omega
theorem adjust_gen (lo hi : Option Int) (n : Nat) : Builtin.Slice.sliceAdjust lo hi 1 (n : Int) = (((sIx n 0 lo : Nat) : Int), ((sIx n n hi : Nat) : Int)) := by
  have h1 : ¬ ((1 : Int) < 0) := by omega
  unfold Builtin.Slice.sliceAdjust
  simp only [h1, if_false]
  refine Prod.ext ?_ ?_
  · cases lo with
    | none => rfl
    | some v => exact clip_eq v n 0
  · cases hi with
    | none => rfl
    | some v => exact clip_eq v n n
theorem places_gen (i j : Nat) : Builtin.Slice.slicePlaces (i : Int) (j : Int) 1 = j - i := by
  unfold Builtin.Slice.slicePlaces
  have h1 : (1 : Int) > 0 := by omega
  simp only [h1, if_true, Int.ediv_one]
  split <;> omega
theorem slicePart_ {v : Value} {o : Option Int} {Q : Option Int → Shared → Prop} (p : IsPart v o) (h : Q o s) : wpAny (model prog w) A (Builtin.Slice.slicePartIndex v) Q E s := by
  cases p with
  | none => exact slicePart_none h
  | int i t => exact slicePart_int h
theorem sliceApplied_gen {sl : Addr} {vl vu : Value} {lo hi : Option Int} {n : Nat} {Q : Int × Int × Nat → Shared → Prop} (hs : s.heap.IsSliceOf sl vl vu .none) (pl : IsPart vl lo) (pu : IsPart vu hi)
    (h : Q (((sIx n 0 lo : Nat) : Int), 1, sIx n n hi - sIx n 0 lo) s) : wpAny (model prog w) A (Builtin.Slice.sliceApplied (.ref sl) (pure (n : Int))) Q E s := by
  obtain ⟨os, hos, hcs, hds⟩ := id hs
  unfold Builtin.Slice.sliceApplied Builtin.Slice.sliceFields
  refine wpAny_bind (wpAny_bind (wpAny_field hos hds (x := vl) rfl (wpAny_bind (wpAny_field hos hds (x := vu) rfl (wpAny_bind (wpAny_field hos hds (x := .none) rfl (wpAny_pure ?_)))))))
  refine wpAny_bind (slicePart_none ?_)
  show wpAny _ _ (if ((1 : Int) == 0) = true then _ else _) _ _ s
  rw [if_neg (by decide)]
  refine wpAny_bind (slicePart_ pl (wpAny_bind (slicePart_ pu (wpAny_bind (wpAny_pure ?_)))))
  show wpAny _ _ (match Builtin.Slice.sliceAdjust lo hi 1 (n : Int) with | (lo, hi) => pure (lo, (1 : Int), Builtin.Slice.slicePlaces lo hi 1)) _ _ s
  rw [adjust_gen lo hi n]
  show wpAny _ _ (pure (((sIx n 0 lo : Nat) : Int), (1 : Int), Builtin.Slice.slicePlaces ((sIx n 0 lo : Nat) : Int) ((sIx n n hi : Nat) : Int) 1)) _ _ s
  rw [places_gen]
  exact wpAny_pure h
theorem pick_gen (xs : Array Value) (i k : Nat) : ((List.range k).filterMap fun (m : Nat) => xs[((i : Int) + (m : Int) * 1).toNat]?).toArray = ((xs.toList.drop i).take k).toArray := by
  have e : (fun (m : Nat) => xs[((i : Int) + (m : Int) * 1).toNat]?) = fun m => xs[i + m]? := by
    funext m
    have : ((i : Int) + (m : Int) * 1).toNat = i + m := by omega
    rw [this]
  rw [e]
  have := pick_run xs i k
  rw [List.filterMap_map] at this
  have e2 : ((fun x => xs[x]?) ∘ fun x => i + x) = fun m => xs[i + m]? := rfl
  rw [e2] at this
  rw [this]

theorem getItem_tuple_cut {t sl : Addr} {items : Array Value} {vl vu : Value} {lo hi : Option Int} {Q : Value → Shared → Prop} (ht : IsTup s.heap t items) (hs : s.heap.IsSliceOf sl vl vu .none) (pl : IsPart vl lo) (pu : IsPart vu hi)
    (hw : ¬ (sIx items.size 0 lo = 0 ∧ sIx items.size items.size hi = items.size))
    (h : Q (.ref s.heap.objs.size) { s with heap := s.heap.push { cls := .type "tuple", data := .seq ((items.toList.drop (sIx items.size 0 lo)).take (sIx items.size items.size hi - sIx items.size 0 lo)).toArray } })
    (hsz : items.size ≤ sizeLine) : wpAny (model prog w) A (getItem (.ref t) (.ref sl)) Q E s := by
  have htake : sizeOk (.seq ((items.toList.drop (sIx items.size 0 lo)).take (sIx items.size items.size hi - sIx items.size 0 lo)).toArray) := by
    show ((items.toList.drop (sIx items.size 0 lo)).take (sIx items.size items.size hi - sIx items.size 0 lo)).toArray.size ≤ sizeLine
    rw [List.size_toArray, List.length_take, List.length_drop, Array.length_toList]
    omega
  have hj : sIx items.size items.size hi ≤ items.size := sIx_le _ _ (Nat.le_refl _) hi
  obtain ⟨os, hos, hcs, hds⟩ := id hs
  have hTs : s.TypeIs (.ref sl) "slice" := ⟨os, hos, hcs⟩
  unfold getItem
  try with_reducible refine wpAny_holding ?_
  first | refine wpAny_bind (wpAny_pure ?_) | skip
  refine wpAny_bind (wpAny_sequenceKey ht.typeIs (by decide) ?_)
  refine wpAny_bind (wpAny_callSpecial?_slot (name := Str.ofString "__getitem__") ht.typeIs PyProof.Rows.slot_tuple_getitem
    (wpAny_call_entry PyProof.Rows.slot_tuple_getitem ht.typeIs entry_tuple_getitem ?_ (args_tuple_getitem _ _)))
  show wpAny _ _ (Builtin.Tuple.tupleItemsOf (.ref t) >>= _) _ _ s
  refine wpAny_bind (tupleItemsOf_ ht ?_)
  refine wpAny_bind (wpAny_typeOf hTs ?_)
  rw [if_pos (by decide)]
  refine wpAny_bind (sliceApplied_gen hs pl pu ?_)
  have hno : ¬ ((((sIx items.size 0 lo : Nat) : Int) == 0 && (1 : Int) == 1 && (sIx items.size items.size hi - sIx items.size 0 lo) == items.size) = true) := by
    intro q
    rw [Bool.and_eq_true, Bool.and_eq_true] at q
    have q1 : ((sIx items.size 0 lo : Nat) : Int) = 0 := eq_of_beq q.1.1
    have q2 : sIx items.size items.size hi - sIx items.size 0 lo = items.size := eq_of_beq q.2
    exact hw ⟨by omega, by omega⟩
  show wpAny _ _ (if (((sIx items.size 0 lo : Nat) : Int) == 0 && (1 : Int) == 1 && (sIx items.size items.size hi - sIx items.size 0 lo) == items.size) = true then _ else _) _ _ s
  rw [if_neg hno, pick_gen]
  first
    | exact wpAny_bind (m := Builtin.Tuple.tupleExact _) (wpAny_newObj_type (wpAny_pure ⟨_, rfl, wpAny_pure h⟩) htake)
    | exact wpAny_bind (m := Builtin.Tuple.tupleExact _) (wpAny_newObj_type (wpAny_bind (wpAny_pure (wpAny_pure ⟨_, rfl, wpAny_pure h⟩))) htake)
    | exact wpAny_bind (wpAny_bind (m := Builtin.Tuple.tupleExact _) (wpAny_newObj_type (wpAny_pure (wpAny_pure ⟨_, rfl, wpAny_pure h⟩)) htake))
    | exact wpAny_bind (wpAny_bind (m := Builtin.Tuple.tupleExact _) (wpAny_newObj_type (wpAny_pure ⟨_, rfl, wpAny_pure h⟩) htake))
end
end HT

namespace L2
open PySem PySem.Spec PyProof.Rows

/-! ### the parts of a slice -/
abbrev TO := St → Hp → (Option Int → Hp → Prop) → Prop
/-- a slice's part (left out, or an int) -/
def PO (X : Cx) (e : Option Expr) (t : TO) : Prop :=
  ∀ (pins : List (Addr × Obj)) (s : Shared) (σ : St) (H : Hp) (Q : Option Int → Hp → Prop), Inv X pins σ H s → t σ H Q →
    wpAny (model X.prog X.w) X.A (evalPart e X.env) (fun u s' => ∃ o H', Inv X pins σ H' s' ∧ IsPart u o ∧ Q o H') X.xe s
def tNoPart : TO := fun _ H Q => Q none H
def tPart (t : TE) : TO := fun σ H Q => t σ H fun x H1 => ∃ i, x = .int i ∧ Q (some i) H1

theorem intsAre_of {ns : List Int} : ∀ {us : List Value}, Vals (ns.map V.int) us → IntsAre us ns := by
  induction ns with
  | nil => intro us r; rw [List.map_nil] at r; cases r; exact .nil
  | cons n ns ih =>
    intro us r
    rw [List.map_cons] at r
    cases r with
    | cons r1 r2 =>
      obtain ⟨t, e⟩ := r1
      subst e
      exact .cons n t (ih r2)

section
variable {X : Cx} {e : Expr} {te : TE} {lo hi : Option Expr} {tl th : TO} {pos p2 : Pos}

theorem po_none : PO X none tNoPart := by
  intro pins s σ H Q I h
  rw [evalPart_none]
  exact wpAny_pure ⟨none, H, I, .none, h⟩
theorem po_some (h : PE X e te) : PO X (some e) (tPart te) := by
  intro pins s σ H Q I hw
  rw [evalPart_some]
  refine thn (h pins s σ H _ I hw) fun u s1 ⟨x, H1, I1, r1, q1⟩ => ?_
  obtain ⟨i, rfl, q⟩ := q1
  obtain ⟨t, rfl⟩ := r1
  exact ⟨some i, H1, I1, .int i t, q⟩

/-- what a slice of a value is, by values: the slice object stands at sl -/
def SlR (X : Cx) (r : V → Option Int → Option Int → Hp → VK → Prop) : Prop :=
  ∀ (pins : List (Addr × Obj)) (s : Shared) (σ : St) (H : Hp) (x : V) (v vl vu : Value) (lo hi : Option Int) (sl : Addr) (Q : VK), Inv X pins σ H s → RelV x v → s.heap.IsSliceOf sl vl vu .none → IsPart vl lo → IsPart vu hi → r x lo hi H Q →
    ∃ T id, typeLookup (.type T) "__getitem__" = pure (some (.builtin id)) ∧ s.TypeIs v T ∧ wpAny (model X.prog X.w) X.A (getItem v (.ref sl)) (EP X pins σ Q) X.xe s
theorem SlR.or {r r' : V → Option Int → Option Int → Hp → VK → Prop} (h : SlR X r) (h' : SlR X r') : SlR X (fun x lo hi H Q => r x lo hi H Q ∨ r' x lo hi H Q) := by
  intro pins s σ H x v vl vu lo hi sl Q I rx hs pl pu q
  rcases q with q | q
  · exact h pins s σ H x v vl vu lo hi sl Q I rx hs pl pu q
  · exact h' pins s σ H x v vl vu lo hi sl Q I rx hs pl pu q
def tSl (r : V → Option Int → Option Int → Hp → VK → Prop) (te : TE) (tl th : TO) : TE := fun σ H Q => te σ H fun x H1 => tl σ H1 fun l H2 => th σ H2 fun u H3 => r x l u H3 Q
/-- a[lo:hi], any a -/
theorem pe_slice {r : V → Option Int → Option Int → Hp → VK → Prop} (hr : SlR X r) (he : PE X e te) (hl : PO X lo tl) (hu : PO X hi th) : PE X (.Subscript e (.Slice lo hi none p2) pos) (tSl r te tl th) := by
  intro pins s σ H Q I h
  refine Subscript_ (thn (he pins s σ H _ I h) fun v s1 ⟨x, H1, I1, r1, q1⟩ => ?_)
  refine wpAny_Slice (thn (hl pins s1 σ H1 _ I1 q1) fun vl s2 ⟨l, H2, I2, pl, q2⟩ => thn (hu pins s2 σ H2 _ I2 q2) fun vu s3 ⟨u, H3, I3, pu, q3⟩ => ?_)
  rw [evalPart_none]
  refine wpAny_pure ?_
  have I4 : Inv X pins σ H3 { s3 with heap := s3.heap.push { cls := .type "slice", data := .fields #[vl, vu, .none] } } := I3.kept (t' := s3.toks) fun b ob q => Heap.get?_push_of_some _ q
  obtain ⟨T, id, hT, ht, hg⟩ := hr pins { s3 with heap := s3.heap.push { cls := .type "slice", data := .fields #[vl, vu, .none] } } σ H3 x v vl vu l u s3.heap.objs.size Q I4 r1 (Heap.IsSliceOf.new ..) pl pu q3
  show wpAny (model X.prog X.w) X.A (subscriptTail e (.Slice lo hi none p2) v (.ref s3.heap.objs.size)) (EP X pins σ Q) X.xe { s3 with heap := s3.heap.push { cls := .type "slice", data := .fields #[vl, vu, .none] } }
  exact tail_any (ops := [.ref s3.heap.objs.size, v]) ht hT hg (by with_unfolding_all rfl)

/-- the items of xs[lo:hi] -/
def cutV (xs : List V) (lo hi : Option Int) : List V := (xs.drop (HT.sIx xs.length 0 lo)).take (HT.sIx xs.length xs.length hi - HT.sIx xs.length 0 lo)
theorem cutV_length (xs : List V) (lo hi : Option Int) : (cutV xs lo hi).length ≤ xs.length := by
  unfold cutV
  rw [List.length_take, List.length_drop]
  omega
/-- t[lo:hi], not the whole of it (the whole would be t itself) -/
def rSlT (K : PySem.W.Frag) : V → Option Int → Option Int → Hp → VK → Prop := fun x lo hi H Q => ∃ a xs, x = .ref a ∧ SqT K H a xs ∧
  ¬ (HT.sIx xs.length 0 lo = 0 ∧ HT.sIx xs.length xs.length hi = xs.length) ∧ ∀ p, H p = none → Q (.ref p) (upd H p (.tup (cutV xs lo hi)))
theorem sl_tup : SlR X (rSlT X.K) := by
  intro pins s σ H x v vl vu lo hi sl Q I rx hs pl pu h
  obtain ⟨a, xs, rfl, hx, hw, q⟩ := h
  cases rx
  obtain ⟨its, r, ht, hz⟩ := I.tuple hx
  have hlen : its.toArray.size = xs.length := by rw [List.size_toArray]; exact r.length.symm
  refine ⟨"tuple", _, PyProof.Rows.slot_tuple_getitem.lookup, ht.typeIs, ?_⟩
  refine HT.getItem_tuple_cut ht hs pl pu (by rw [hlen]; exact hw) ?_ (by rw [hlen]; exact hz)
  rw [hlen]
  refine ⟨.ref s.heap.objs.size, _, I.laid (t' := s.toks) (o := .tup (cutV xs lo hi)) (fun b ob q => Heap.get?_push_of_some _ q) (Nat.le_refl _) ?_, rfl, q _ (I.hok.fresh (Nat.le_refl _))⟩
  exact ⟨Nat.le_trans (cutV_length xs lo hi) hz, _, (r.drop (HT.sIx xs.length 0 lo)).take (HT.sIx xs.length xs.length hi - HT.sIx xs.length 0 lo), IsTup.new _ _⟩

/-! ### t < u, t + u -/
def rLtT (K : PySem.W.Frag) : R2 := fun x y H Q => ∃ a b ns ms, x = .ref a ∧ y = .ref b ∧ SqT K H a (ns.map V.int) ∧ SqT K H b (ms.map V.int) ∧ Q (.bl (HT.lexLt ns ms)) H
theorem op_ltT (hu : X.A.units < cLine) : OpR X (compareOp .Lt) (rLtT X.K) := by
  intro pins s σ H x y v u Q I rx ry h
  obtain ⟨a, b, ns, ms, rfl, rfl, ha, hb, q⟩ := h
  cases rx
  cases ry
  obtain ⟨its, r1, p1, _⟩ := I.tuple ha
  obtain ⟨its2, r2, p2, _⟩ := I.tuple hb
  have i1 : IntsAre its.toArray.toList ns := intsAre_of r1
  have i2 : IntsAre its2.toArray.toList ms := intsAre_of r2
  exact HT.lt_tupInts p1 p2 i1 i2 hu ⟨.bl (HT.lexLt ns ms), H, I, rfl, q⟩
/-- t + u, t not empty: u empty gives t itself -/
def rCatT (K : PySem.W.Frag) : R2 := fun x y H Q => ∃ a b xs ys, x = .ref a ∧ y = .ref b ∧ SqT K H a xs ∧ SqT K H b ys ∧ xs ≠ [] ∧ xs.length + ys.length ≤ sizeLine ∧
  (ys = [] → Q (.ref a) H) ∧ (ys ≠ [] → ∀ p, H p = none → Q (.ref p) (upd H p (.tup (xs ++ ys))))
theorem Vals.nil_iff {xs : List V} {us : List Value} (r : Vals xs us) : us = [] ↔ xs = [] := by
  cases r with
  | nil => simp
  | cons _ _ => simp
theorem op_catT : OpR X (binaryOp .Add) (rCatT X.K) := by
  intro pins s σ H x y v u Q I rx ry h
  obtain ⟨a, b, xs, ys, rfl, rfl, ha, hb, hx, hz, q1, q2⟩ := h
  cases rx
  cases ry
  obtain ⟨its, r1, p1, _⟩ := I.tuple ha
  obtain ⟨its2, r2, p2, _⟩ := I.tuple hb
  refine HT.cat_tup p1 p2 (fun z => hx (r1.nil_iff.mp z)) (fun z => ⟨.ref a, H, I, rfl, q1 (r2.nil_iff.mp z)⟩) (fun z => ?_) (by rw [← r1.length, ← r2.length]; exact hz)
  refine ⟨.ref s.heap.objs.size, _, I.laid (t' := s.toks) (o := .tup (xs ++ ys)) (fun b ob q => Heap.get?_push_of_some _ q) (Nat.le_refl _) ?_, rfl, q2 (fun w => z (r2.nil_iff.mpr w)) _ (I.hok.fresh (Nat.le_refl _))⟩
  exact ⟨by rw [List.length_append]; exact hz, _, r1.append r2, IsTup.new _ _⟩
/-- tuple(t) -/
theorem call_tupleT : CallR X (.type "tuple") (fun xs H Q => ∃ a ys, xs = [.ref a] ∧ SqT X.K H a ys ∧ Q (.ref a) H) := by
  intro pins s σ H xs us Q I r h
  obtain ⟨a, ys, rfl, ha, q⟩ := h
  obtain ⟨u, rfl, ru⟩ := vals1 r
  cases ru
  obtain ⟨its, _, p1, _⟩ := I.tuple ha
  exact call_tuple_same (items := its.toArray) p1 ⟨.ref a, H, I, rfl, q⟩
end
end L2

namespace L2
open PySem PySem.Spec PyProof.Rows

/-! ### places -/
/-- the place that an index of any sign means -/
def ixN (n : Nat) (i : Int) : Option Nat := if 0 ≤ i then (if i < n then some i.toNat else none) else if -(n : Int) ≤ i then some (i + n).toNat else none
def atI {α : Type} (xs : List α) (i : Int) : Option α := (ixN xs.length i).bind fun j => xs[j]?
theorem ixN_seq {n : Nat} {i : Int} {j : Nat} (h : ixN n i = some j) : seqIndex? i n = some j ∧ j < n ∧ -(n : Int) ≤ i ∧ i < n := by
  unfold ixN at h
  by_cases h0 : 0 ≤ i
  · rw [if_pos h0] at h
    by_cases h1 : i < n
    · rw [if_pos h1] at h
      have e : i.toNat = j := Option.some.inj h
      exact ⟨by rw [seqIndex_of h0 h1, e], by omega, by omega, h1⟩
    · rw [if_neg h1] at h; cases h
  · rw [if_neg h0] at h
    by_cases h1 : -(n : Int) ≤ i
    · rw [if_pos h1] at h
      have e : (i + n).toNat = j := Option.some.inj h
      exact ⟨by rw [seqIndex_neg (by omega) h1, e], by omega, h1, by omega⟩
    · rw [if_neg h1] at h; cases h
theorem atI_get {α : Type} {xs : List α} {i : Int} {v : α} (h : atI xs i = some v) : ∃ j, seqIndex? i xs.length = some j ∧ xs[j]? = some v ∧ j < xs.length ∧ -(xs.length : Int) ≤ i ∧ i < xs.length := by
  unfold atI at h
  cases e : ixN xs.length i with
  | none => rw [e] at h; cases h
  | some j =>
    rw [e] at h
    obtain ⟨h1, h2, h3, h4⟩ := ixN_seq e
    exact ⟨j, h1, h, h2, h3, h4⟩
theorem atI_nat {α : Type} {xs : List α} {j : Nat} {v : α} (h : xs[j]? = some v) : atI xs (j : Int) = some v := by
  have hj : j < xs.length := (List.getElem?_eq_some_iff.mp h).1
  have e : ixN xs.length (j : Int) = some j := by
    unfold ixN
    rw [if_pos (by omega), if_pos (by omega)]; simp
  unfold atI; rw [e]; exact h
theorem atI_last {α : Type} (xs : List α) (v : α) : atI (xs ++ [v]) (-1) = some v := by
  have hl : (xs ++ [v]).length = xs.length + 1 := by simp
  have e : ixN (xs ++ [v]).length (-1) = some xs.length := by
    unfold ixN
    rw [hl, if_neg (by decide), if_pos (by omega)]
    congr 1
    omega
  unfold atI
  rw [e]
  show (xs ++ [v])[xs.length]? = some v
  simp

/-! ### what may be subscripted -/
/-- what stands as an index of a plain subscript -/
def PlainIx (b : Expr) : Prop := ∀ o i, subscripted b false o i = operate [o, i] (getItem o i)
/-- a subscript by values -/
def IxR (X : Cx) (r : R2) : Prop :=
  ∀ (value slice : Expr) (pins : List (Addr × Obj)) (s : Shared) (σ : St) (H : Hp) (x y : V) (v u : Value) (Q : VK), Inv X pins σ H s → RelV x v → RelV y u → r x y H Q →
    subscripted slice false v u = operate [v, u] (getItem v u) → wpAny (model X.prog X.w) X.A (subscriptTail value slice v u) (EP X pins σ Q) X.xe s
/-- a call of a builtin's method by values: the receiver, the arguments -/
def MtR (X : Cx) (id : String) (r : V → List V → Hp → VK → Prop) : Prop :=
  ∀ (pins : List (Addr × Obj)) (s : Shared) (σ : St) (H : Hp) (x : V) (xs : List V) (v : Value) (us : List Value) (Q : VK), Inv X pins σ H s → RelV x v → Vals xs us → r x xs H Q →
    wpAny (model X.prog X.w) X.A (call (.builtin id) (v :: us)) (EP X pins σ Q) X.xe s
section
variable {X : Cx} {a b : Expr} {ta tb : TE} {pos : Pos}
theorem IxR.or {r r' : R2} (h : IxR X r) (h' : IxR X r') : IxR X (fun x y H Q => r x y H Q ∨ r' x y H Q) := by
  intro value slice pins s σ H x y v u Q I rx ry q hs
  rcases q with q | q
  · exact h value slice pins s σ H x y v u Q I rx ry q hs
  · exact h' value slice pins s σ H x y v u Q I rx ry q hs
theorem MtR.or {id : String} {r r' : V → List V → Hp → VK → Prop} (h : MtR X id r) (h' : MtR X id r') : MtR X id (fun x xs H Q => r x xs H Q ∨ r' x xs H Q) := by
  intro pins s σ H x xs v us Q I rx rs q
  rcases q with q | q
  · exact h pins s σ H x xs v us Q I rx rs q
  · exact h' pins s σ H x xs v us Q I rx rs q
/-- a[b] -/
theorem pe_ix {r : R2} (hr : IxR X r) (ha : PE X a ta) (hb : PE X b tb) (hs : PlainIx b) : PE X (.Subscript a b pos) (tOp r ta tb) := by
  intro pins s σ H Q I h
  exact Subscript_ (binT ha hb I h fun v u s2 x y H2 I2 rx ry q => hr a b pins s2 σ H2 x y v u Q I2 rx ry q (hs _ _))

def rIxL (K : PySem.W.Frag) : R2 := fun x y H Q => ∃ p xs i v, x = .ref p ∧ y = .int i ∧ SqL K H p xs ∧ atI xs i = some v ∧ Q v H
def rIxT (K : PySem.W.Frag) : R2 := fun x y H Q => ∃ p xs i v, x = .ref p ∧ y = .int i ∧ SqT K H p xs ∧ atI xs i = some v ∧ Q v H
def rIxS : R2 := fun x y H Q => ∃ z i c, x = .str z ∧ y = .int i ∧ z.length ≤ sizeLine ∧ atI z.cps.toList i = some c ∧ Q (.str ⟨#[c]⟩) H
theorem ix_list : IxR X (rIxL X.K) := by
  intro value slice pins s σ H x y v u Q I rx ry h hs
  obtain ⟨p, xs, i, z, rfl, rfl, hq, he, q⟩ := h
  cases rx
  obtain ⟨t, rfl⟩ := ry
  obtain ⟨its, r, pl, hz⟩ := I.list hq
  obtain ⟨j, h1, h2, h3, h4, h5⟩ := atI_get he
  obtain ⟨w, ew, rw'⟩ := r.get h2
  have hl := r.length
  have hn := line63
  have fin : EP X pins σ Q w s := ⟨z, H, I, rw', q⟩
  by_cases h0 : 0 ≤ i
  · have hj : i.toNat = j := by
      rw [seqIndex_of h0 h5] at h1
      exact Option.some.inj h1
    exact item_listR pl.isList h0 (by omega) (by rw [hj]; simpa using ew) fin hs
  · have hj : (i + (its.toArray.size : Int)).toNat = j := by
      rw [seqIndex_neg (by omega) h4] at h1
      rw [List.size_toArray, ← hl]
      exact Option.some.inj h1
    exact subscriptTail_builtinR (x := w) pl.isList.typeIs slot_list_getitem.lookup
      (wpAny_getItem_list_neg (Q := fun r s' => r = w ∧ EP X pins σ Q r s') pl.isList (by omega) (by rw [List.size_toArray] <;> omega) (by omega) (by rw [hj]; simpa using ew) ⟨rfl, fin⟩) hs
theorem ix_tup : IxR X (rIxT X.K) := by
  intro value slice pins s σ H x y v u Q I rx ry h hs
  obtain ⟨p, xs, i, z, rfl, rfl, hq, he, q⟩ := h
  cases rx
  obtain ⟨t, rfl⟩ := ry
  obtain ⟨its, r, pl, hz⟩ := I.tuple hq
  obtain ⟨j, h1, h2, h3, h4, h5⟩ := atI_get he
  obtain ⟨w, ew, rw'⟩ := r.get h2
  have hl := r.length
  have hn := line63
  have fin : EP X pins σ Q w s := ⟨z, H, I, rw', q⟩
  exact subscriptTail_builtinR (x := w) pl.typeIs slot_tuple_getitem.lookup
    (getItem_tuple (j := j) (Q := fun r s' => r = w ∧ EP X pins σ Q r s') pl (by omega) (by omega) (by rw [List.size_toArray, ← hl]; exact h1) (by simpa using ew) ⟨rfl, fin⟩) hs
theorem ix_str : IxR X rIxS := by
  intro value slice pins s σ H x y v u Q I rx ry h hs
  obtain ⟨z, i, c, rfl, rfl, hz, he, q⟩ := h
  obtain ⟨t, rfl⟩ := rx
  obtain ⟨t', rfl⟩ := ry
  obtain ⟨j, h1, h2, h3, h4, h5⟩ := atI_get he
  have hl : z.cps.toList.length = z.length := by simp [Str.length]
  rw [hl] at h1 h4 h5
  have hn := line63
  exact tail_any (typeIs_str s z t) slot_str_getitem.lookup (getItem_str (c := c) (by
    have e1 : decide (i < -(2 ^ 63 : Int)) = false := decide_eq_false (by omega)
    have e2 : decide (i ≥ 2 ^ 63) = false := decide_eq_false (by omega)
    rw [e1, e2, Bool.or_false]) (by rw [h1]; simpa using h2) ⟨.str ⟨#[c]⟩, H, I.tok _, ⟨_, rfl⟩, q⟩) hs
/-- list, tuple or str -/
def rIx (K : PySem.W.Frag) : R2 := fun x y H Q => rIxL K x y H Q ∨ rIxT K x y H Q ∨ rIxS x y H Q
theorem ix_seq : IxR X (rIx X.K) := ix_list.or (ix_tup.or ix_str)

/-! ### xs[i] = v, any sign -/
/-- the list's object behind a store -/
theorem mapSeq_set (its : List Value) (n j : Nat) (u : Value) : Obj.mapSeq (·.setIfInBounds j u) { cls := .type "list", data := .seq its.toArray n } = { cls := .type "list", data := .seq (its.set j u).toArray n } := by
  simp [Obj.mapSeq]
theorem Inv.lst {pins : List (Addr × Obj)} {σ : St} {H : Hp} {s : Shared} {p : Addr} {xs : List V} (I : Inv X pins σ H s) (h : H p = some (.lst xs)) :
    ∃ (its : List Value) (n : Nat), Vals xs its ∧ s.heap.get? p = some { cls := .type "list", data := .seq its.toArray n } ∧ xs.length ≤ sizeLine := by
  obtain ⟨z, its, n, r, e⟩ := I.hok p _ h
  exact ⟨its, n, r, e, z⟩
/-- the list at p is written by an update of its object -/
theorem Inv.lstUpd {pins : List (Addr × Obj)} {σ : St} {H : Hp} {s : Shared} {p : Addr} {xs ys : List V} {its its' : List Value} {n n' : Nat} {f : Obj → Obj} (I : Inv X pins σ H s) (h : H p = some (.lst xs))
    (ho : s.heap.get? p = some { cls := .type "list", data := .seq its.toArray n }) (hf : f { cls := .type "list", data := .seq its.toArray n } = { cls := .type "list", data := .seq its'.toArray n' }) (r : Vals ys its') (hz : ys.length ≤ sizeLine) (t : Nat) :
    Inv X pins σ (upd H p (.lst ys)) { s with heap := s.heap.update p f, toks := t } := by
  have e : (s.heap.update p f).get? p = some { cls := .type "list", data := .seq its'.toArray n' } := by
    rw [Heap.get?_update_self f ho (by rw [hf] <;> rfl), hf]
  refine I.write (x := p) (e := p) (by rw [h]; trivial) (.inl rfl) (fun b u hb q => (Heap.get?_update_other _ _ (Ne.symm hb)).trans q) ⟨_, e⟩ ?_
  exact ⟨hz, its', n', r, e⟩
def rSetL : V → V → V → Hp → (Hp → Prop) → Prop := fun o i v H Q => ∃ p xs k j, o = .ref p ∧ i = .int k ∧ H p = some (.lst xs) ∧ ixN xs.length k = some j ∧ Q (upd H p (.lst (xs.set j v)))
theorem set_list : PSet X rSetL := by
  intro pins s σ H o i v ov iv u Q I ro ri rv h
  obtain ⟨p, xs, k, j, rfl, rfl, hp, hj, q⟩ := h
  cases ro
  obtain ⟨t, rfl⟩ := ri
  obtain ⟨its, n, r, ho, hz⟩ := I.lst hp
  obtain ⟨h1, h2, h3, h4⟩ := ixN_seq hj
  have hl := r.length
  have hn := line63
  have I' : Inv X pins σ (upd H p (.lst (xs.set j v))) { s with heap := s.heap.update p (Obj.mapSeq (·.setIfInBounds j u)) } :=
    I.lstUpd hp ho (mapSeq_set its n j u) (r.set rv j) (by rw [List.length_set]; exact hz) s.toks
  by_cases h0 : 0 ≤ k
  · have hk : k.toNat = j := by
      rw [seqIndex_of h0 h4] at h1
      exact Option.some.inj h1
    exact PySem.W.ki_setAt ho h0 (by omega) (by rw [List.size_toArray, ← hl]; exact h4) (by rw [hk]; exact ⟨_, I', q⟩)
  · have hk : (k + (its.toArray.size : Int)).toNat = j := by
      rw [seqIndex_neg (by omega) h3] at h1
      rw [List.size_toArray, ← hl]
      exact Option.some.inj h1
    exact PySem.W.ki_setBack ho (by omega) (by rw [List.size_toArray, ← hl]; exact h3) (by omega) (by rw [hk]; exact ⟨_, I', q⟩)

/-! ### slices -/
theorem slice_bounds (lo hi : Option Int) (n : Nat) : (sliceBounds lo hi none n).1 = ((HT.sIx n 0 lo : Nat) : Int) ∧ (sliceBounds lo hi none n).2.1 = ((HT.sIx n n hi : Nat) : Int) ∧ (sliceBounds lo hi none n).2.2 = 1 := by
  refine ⟨?_, ?_, rfl⟩
  · cases lo with
    | none => simp [sliceBounds, HT.sIx]
    | some i =>
      simp only [sliceBounds, HT.sIx, Option.getD_none, show (1 : Int) > 0 by decide, if_true]
      by_cases h : i < 0
      · simp only [h, if_true] <;> omega
      · simp only [h, if_false] <;> omega
  · cases hi with
    | none => simp [sliceBounds, HT.sIx]
    | some i =>
      simp only [sliceBounds, HT.sIx, Option.getD_none, show (1 : Int) > 0 by decide, if_true]
      by_cases h : i < 0
      · simp only [h, if_true] <;> omega
      · simp only [h, if_false] <;> omega
theorem slicePick_cut (its : List Value) (lo hi : Option Int) : slicePick its.toArray lo hi none = ((its.drop (HT.sIx its.length 0 lo)).take (HT.sIx its.length its.length hi - HT.sIx its.length 0 lo)).toArray := by
  obtain ⟨h1, h2, h3⟩ := slice_bounds lo hi its.toArray.size
  unfold slicePick
  rw [h1, h2, h3]
  simp only [sliceRange_one, pick_run, List.size_toArray] <;> rfl
/-- xs[lo:hi] of a list: a new list -/
def rSlL (K : PySem.W.Frag) : V → Option Int → Option Int → Hp → VK → Prop := fun x lo hi H Q => ∃ a xs, x = .ref a ∧ SqL K H a xs ∧ ∀ p, H p = none → Q (.ref p) (upd H p (.lst (cutV xs lo hi)))
theorem sl_list : SlR X (rSlL X.K) := by
  intro pins s σ H x v vl vu lo hi sl Q I rx hs pl pu h
  obtain ⟨a, xs, rfl, hx, q⟩ := h
  cases rx
  obtain ⟨its, r, ht, hz⟩ := I.list hx
  have hlen := r.length
  refine ⟨"list", _, slot_list_getitem.lookup, ht.isList.typeIs, ?_⟩
  refine wpAny_getItem_list_slice ht.isList hs pl pu .none (by simp) ?_ (by rw [List.size_toArray] <;> omega)
  rw [slicePick_cut, ← hlen]
  refine ⟨.ref s.heap.objs.size, _, I.laid (t' := s.toks) (o := .lst (cutV xs lo hi)) (fun b ob q => Heap.get?_push_of_some _ q) (Nat.le_refl _) ?_, rfl, q _ (I.hok.fresh (Nat.le_refl _))⟩
  exact ⟨Nat.le_trans (cutV_length xs lo hi) hz, _, 0, (r.drop (HT.sIx xs.length 0 lo)).take (HT.sIx xs.length xs.length hi - HT.sIx xs.length 0 lo), Heap.get?_push_size _ rfl⟩

/-! ### in, not in: flat items -/
def flatV : V → Bool
  | .non => true
  | .bl _ => true
  | .int _ => true
  | .str _ => true
  | _ => false
/-- == of flat values -/
def eqV : V → V → Bool
  | .non, .non => true
  | .bl a, .bl b => a == b
  | .bl a, .int b => (if a then 1 else 0) == b
  | .int a, .bl b => a == (if b then 1 else 0)
  | .int a, .int b => a == b
  | .str a, .str b => a == b
  | _, _ => false
theorem eqAt_V {A : Around} {s : Shared} {y x : V} {u v : Value} (ry : RelV y u) (rx : RelV x v) (fy : flatV y = true) (fx : flatV x = true) : SeqAt.EqAt A s u v (eqV y x) := by
  cases y with
  | non =>
    cases ry
    cases x with
    | non => cases rx; exact SeqAt.EqAt.same _
    | bl b => cases rx; exact SeqAt.EqAt.none_bool b
    | int b => obtain ⟨t, rfl⟩ := rx; exact SeqAt.EqAt.none_int b t
    | str b => obtain ⟨t, rfl⟩ := rx; exact SeqAt.EqAt.none_str b t
    | _ => exact absurd (show false = true from fx) Bool.false_ne_true
  | bl a =>
    cases ry
    cases x with
    | non => cases rx; exact SeqAt.EqAt.bool_none a
    | bl b => cases rx; exact SeqAt.EqAt.bool_bool a b
    | int b => obtain ⟨t, rfl⟩ := rx; exact SeqAt.EqAt.bool_int a b t
    | str b => obtain ⟨t, rfl⟩ := rx; exact SeqAt.EqAt.bool_str a b t
    | _ => exact absurd (show false = true from fx) Bool.false_ne_true
  | int a =>
    obtain ⟨t', rfl⟩ := ry
    cases x with
    | non => cases rx; exact SeqAt.EqAt.int_none a t'
    | bl b => cases rx; exact SeqAt.EqAt.int_bool a t' b
    | int b => obtain ⟨t, rfl⟩ := rx; exact SeqAt.EqAt.int_int a t' b t
    | str b => obtain ⟨t, rfl⟩ := rx; exact SeqAt.EqAt.int_str a t' b t
    | _ => exact absurd (show false = true from fx) Bool.false_ne_true
  | str a =>
    obtain ⟨t', rfl⟩ := ry
    cases x with
    | non => cases rx; exact SeqAt.EqAt.str_none a t'
    | bl b => cases rx; exact SeqAt.EqAt.str_bool a t' b
    | int b => obtain ⟨t, rfl⟩ := rx; exact SeqAt.EqAt.str_int a t' b t
    | str b => obtain ⟨t, rfl⟩ := rx; exact SeqAt.EqAt.str_str a t' b t
    | _ => exact absurd (show false = true from fx) Bool.false_ne_true
  | _ => exact absurd (show false = true from fy) Bool.false_ne_true
/-- the items' answers, read off the values (a value's own answer does not lean on its token) -/
def eqU (x : V) (u : Value) : Bool := match u with
  | .none => eqV .non x
  | .bool b => eqV (.bl b) x
  | .int i _ => eqV (.int i) x
  | .str z _ => eqV (.str z) x
  | _ => false
theorem eqU_of {x y : V} {u : Value} (r : RelV y u) (f : flatV y = true) : eqU x u = eqV y x := by
  cases y with
  | non => cases r; rfl
  | bl b => cases r; rfl
  | int i => obtain ⟨t, rfl⟩ := r; rfl
  | str z => obtain ⟨t, rfl⟩ := r; rfl
  | _ => exact absurd (show false = true from f) Bool.false_ne_true
theorem any_eqU {x : V} : ∀ {xs : List V} {us : List Value}, Vals xs us → xs.all flatV = true → us.any (eqU x) = xs.any fun y => eqV y x
  | _, _, .nil, _ => rfl
  | y :: xs, u :: us, .cons r t, f => by
    rw [List.all_cons, Bool.and_eq_true] at f
    rw [List.any_cons, List.any_cons, eqU_of r f.1, any_eqU t f.2]
theorem mem_eqAt {A : Around} {s : Shared} {x : V} {v : Value} (rx : RelV x v) (fx : flatV x = true) : ∀ {xs : List V} {us : List Value}, Vals xs us → xs.all flatV = true → ∀ u ∈ us, SeqAt.EqAt A s u v (eqU x u)
  | _, _, .nil, _ => fun u hu => by cases hu
  | y :: xs, u :: us, .cons r t, f => fun u' hu => by
    rw [List.all_cons, Bool.and_eq_true] at f
    rcases List.mem_cons.mp hu with rfl | hu
    · rw [eqU_of r f.1]; exact eqAt_V r rx f.1 fx
    · exact mem_eqAt rx fx t f.2 u' hu
def inV (x : V) (xs : List V) : Bool := xs.any fun y => eqV y x
/-- x in a list or tuple of flat items -/
def rIn (K : PySem.W.Frag) (neg : Bool) : R2 := fun x y H Q => ∃ p xs, y = .ref p ∧ (SqL K H p xs ∨ SqT K H p xs) ∧ flatV x = true ∧ xs.all flatV = true ∧ Q (.bl (if neg then !inV x xs else inV x xs)) H
theorem op_in_seq : OpR X (compareOp .In) (rIn X.K false) := by
  intro pins s σ H x y v u Q I rx ry h
  obtain ⟨p, xs, rfl, hq, fx, fs, q⟩ := h
  cases ry
  rcases hq with hq | hq
  · obtain ⟨its, r, pl, hz⟩ := I.list hq
    refine SeqAt.in_listAt (eqU x) pl.isList (fun w hw => mem_eqAt rx fx r fs w (by simpa using hw)) ⟨.bl _, H, I, rfl, ?_⟩
    rw [show its.toArray.any (eqU x) = its.any (eqU x) by simp, any_eqU r fs]
    exact q
  · obtain ⟨its, r, pl, hz⟩ := I.tuple hq
    refine SeqAt.in_tupleAt (eqU x) pl (fun w hw => mem_eqAt rx fx r fs w (by simpa using hw)) ⟨.bl _, H, I, rfl, ?_⟩
    rw [show its.toArray.any (eqU x) = its.any (eqU x) by simp, any_eqU r fs]
    exact q
theorem op_notIn_seq : OpR X (compareOp .NotIn) (rIn X.K true) := by
  intro pins s σ H x y v u Q I rx ry h
  obtain ⟨p, xs, rfl, hq, fx, fs, q⟩ := h
  cases ry
  rcases hq with hq | hq
  · obtain ⟨its, r, pl, hz⟩ := I.list hq
    refine SeqAt.notIn_listAt (eqU x) pl.isList (fun w hw => mem_eqAt rx fx r fs w (by simpa using hw)) ⟨.bl _, H, I, rfl, ?_⟩
    rw [show its.toArray.any (eqU x) = its.any (eqU x) by simp, any_eqU r fs]
    exact q
  · obtain ⟨its, r, pl, hz⟩ := I.tuple hq
    refine SeqAt.notIn_tupleAt (eqU x) pl (fun w hw => mem_eqAt rx fx r fs w (by simpa using hw)) ⟨.bl _, H, I, rfl, ?_⟩
    rw [show its.toArray.any (eqU x) = its.any (eqU x) by simp, any_eqU r fs]
    exact q
theorem op_notIn_str : OpR X (compareOp .NotIn) (fun x y H Q => ∃ i j, x = .str i ∧ y = .str j ∧ Q (.bl (!(!(Builtin.Str.occurrences j i 0 j.length 1).isEmpty))) H) := by
  intro pins s σ H x y v u Q I rx ry h
  obtain ⟨i, j, rfl, rfl, q⟩ := h
  obtain ⟨t, rfl⟩ := rx
  obtain ⟨t', rfl⟩ := ry
  exact notIn_str ⟨.bl _, H, I, rfl, q⟩

/-! ### len, list(x), tuple(x) of any list or tuple that is read -/
theorem call_len_seq : CallR X (.builtin "len") (fun xs H Q => ∃ p ys, xs = [.ref p] ∧ (SqL X.K H p ys ∨ SqT X.K H p ys) ∧ Q (.int ys.length) H) := by
  intro pins s σ H xs us Q I r h
  obtain ⟨p, ys, rfl, hq, q⟩ := h
  obtain ⟨u, rfl, rx⟩ := vals1 r
  cases rx
  have hn := line63
  rcases hq with hq | hq
  · obtain ⟨its, r', pl, hz⟩ := I.list hq
    have hlen := r'.length
    exact Calls.call_len_list pl.isList (by simp only [List.size_toArray] <;> omega) ⟨.int ys.length, H, I.tok _, ⟨s.toks + 1, by rw [List.size_toArray, hlen]⟩, q⟩
  · obtain ⟨its, r', pl, hz⟩ := I.tuple hq
    have hlen := r'.length
    exact len_tuple pl (by simp only [List.size_toArray] <;> omega) ⟨.int ys.length, H, I.tok _, ⟨s.toks + 1, by rw [List.size_toArray, hlen]⟩, q⟩
theorem call_len_str : CallR X (.builtin "len") (fun xs H Q => ∃ z, xs = [.str z] ∧ z.length ≤ sizeLine ∧ Q (.int z.length) H) := by
  intro pins s σ H xs us Q I r h
  obtain ⟨z, rfl, hz, q⟩ := h
  obtain ⟨u, rfl, t, rfl⟩ := vals1 r
  have hn := line63
  exact len_str (by omega) ⟨.int z.length, H, I.tok _, ⟨_, rfl⟩, q⟩
theorem CallR.or {f : Value} {r r' : List V → Hp → VK → Prop} (h : CallR X f r) (h' : CallR X f r') : CallR X f (fun xs H Q => r xs H Q ∨ r' xs H Q) := by
  intro pins s σ H xs us Q I rs q
  rcases q with q | q
  · exact h pins s σ H xs us Q I rs q
  · exact h' pins s σ H xs us Q I rs q
theorem call_list_of : CallR X (.type "list") (fun xs H Q => ∃ p ys, xs = [.ref p] ∧ (SqL X.K H p ys ∨ SqT X.K H p ys) ∧ ∀ l, H l = none → Q (.ref l) (upd H l (.lst ys))) := by
  intro pins s σ H xs us Q I r h
  obtain ⟨p, ys, rfl, hq, q⟩ := h
  obtain ⟨u, rfl, rx⟩ := vals1 r
  cases rx
  have fin : ∀ (its : List Value), Vals ys its → ys.length ≤ sizeLine → ∀ (h' : Heap) (c' : Nat), (∀ b o', s.heap.get? b = some o' → h'.get? b = some o') →
      h'.get? s.heap.objs.size = some { cls := .type "list", dict := none, data := .seq its.toArray c', slots := #[] } → EP X pins σ Q (.ref s.heap.objs.size) { s with heap := h' } := fun its r' hz h' c' kp e =>
    ⟨.ref s.heap.objs.size, _, I.laid (t' := s.toks) kp (Nat.le_refl _) (show ObjOk X.prog X.w _ h' _ (.lst ys) from ⟨hz, its, c', r', e⟩), rfl, q _ (I.hok.fresh (Nat.le_refl _))⟩
  rcases hq with hq | hq
  · obtain ⟨its, r', pl, hz⟩ := I.list hq
    have hlen := r'.length
    obtain ⟨o, ho, hc, n, hd⟩ := pl.isList
    exact call_list_seq p (.inl rfl) ho hc hd (fun h' c' kp e => fin its r' hz h' c' kp e) (by simp only [List.size_toArray] <;> omega)
  · obtain ⟨its, r', pl, hz⟩ := I.tuple hq
    have hlen := r'.length
    obtain ⟨o, ho, hc, n, hd⟩ := pl
    exact call_list_seq p (.inr rfl) ho hc hd (fun h' c' kp e => fin its r' hz h' c' kp e) (by simp only [List.size_toArray] <;> omega)
theorem call_tuple_of : CallR X (.type "tuple") (fun xs H Q => ∃ p ys, xs = [.ref p] ∧ ((SqL X.K H p ys ∧ ∀ l, H l = none → Q (.ref l) (upd H l (.tup ys))) ∨ (SqT X.K H p ys ∧ Q (.ref p) H))) := by
  intro pins s σ H xs us Q I r h
  obtain ⟨p, ys, rfl, h⟩ := h
  obtain ⟨u, rfl, rx⟩ := vals1 r
  cases rx
  rcases h with ⟨hq, q⟩ | ⟨hq, q⟩
  · obtain ⟨its, r', pl, hz⟩ := I.list hq
    have hlen := r'.length
    refine call_tuple_list pl.isList (fun h' kp => ?_) (by simp only [List.size_toArray] <;> omega)
    have I1 : Inv X pins σ H { s with heap := h' } := I.kept (t' := s.toks) kp
    have I2 : Inv X pins σ (upd H h'.objs.size (.tup ys)) { s with heap := h'.push { cls := .type "tuple", data := .seq its.toArray } } :=
      I1.laid (t' := s.toks) (fun b o e => Heap.get?_push_of_some _ e) (Nat.le_refl _) (show ObjOk X.prog X.w _ _ _ (.tup ys) from ⟨hz, its, r', IsTup.new _ _⟩)
    exact ⟨.ref h'.objs.size, _, I2, rfl, q _ (I1.hok.fresh (Nat.le_refl _))⟩
  · obtain ⟨its, r', pl, hz⟩ := I.tuple hq
    exact call_tuple_same pl ⟨.ref p, H, I, rfl, q⟩

/-! ### the call of a builtin's method: o.m(..) -/
/-- the value is of that builtin type -/
def tyV (K : PySem.W.Frag) (T : String) (x : V) (H : Hp) : Prop := match x with
  | .str _ => T = "str"
  | .int _ => T = "int"
  | .ref p => (T = "list" ∧ ∃ xs, SqL K H p xs) ∨ (T = "tuple" ∧ ∃ o, K.lookup p = some o ∧ o.cls = .type "tuple" ∧ o.dict = none) ∨
      (T = "dict" ∧ ((∃ kvs, H p = some (.dK kvs)) ∨ ∃ kvs, H p = some (.dT kvs))) ∨ (T = "set" ∧ ∃ S n, H p = some (.set S n))
  | _ => False
theorem tyV_is {pins : List (Addr × Obj)} {σ : St} {H : Hp} {s : Shared} {T : String} {x : V} {v : Value} (I : Inv X pins σ H s) (r : RelV x v) (ty : tyV X.K T x H) :
    s.TypeIs v T ∧ ∀ a, v = .ref a → ∃ ob, s.heap.get? a = some ob ∧ ob.dict = none := by
  cases x with
  | str z =>
    obtain ⟨t, rfl⟩ := r
    cases (show T = "str" from ty)
    exact ⟨typeIs_str s z t, fun _ e => nomatch e⟩
  | int i =>
    obtain ⟨t, rfl⟩ := r
    cases (show T = "int" from ty)
    exact ⟨typeIs_int s i t, fun _ e => nomatch e⟩
  | ref p =>
    cases r
    rcases ty with ⟨rfl, xs, hq⟩ | ⟨rfl, o, hk, hc, hd⟩ | ⟨rfl, hk⟩ | ⟨rfl, S, n, hk⟩
    · obtain ⟨its, _, pl, _⟩ := I.list hq
      refine ⟨pl.isList.typeIs, fun a e => ?_⟩
      cases e
      obtain ⟨o, n, e, c, hd, _⟩ := pl
      exact ⟨o, e, hd⟩
    · refine ⟨⟨o, I.kIn p o hk, hc⟩, fun a e => ?_⟩
      cases e
      exact ⟨o, I.kIn _ o hk, hd⟩
    · have z : ∃ o, s.heap.get? p = some o ∧ o.ExactDict := by
        rcases hk with ⟨kvs, hk⟩ | ⟨kvs, hk⟩
        · obtain ⟨_, _, _, _, o, _, _, e, ex, _⟩ := I.hok p _ hk
          exact ⟨o, e, ex⟩
        · obtain ⟨_, _, _, _, o, _, _, e, ex, _⟩ := I.hok p _ hk
          exact ⟨o, e, ex⟩
      obtain ⟨o, e, ex⟩ := z
      refine ⟨⟨o, e, ex.1⟩, fun a e2 => ?_⟩
      cases e2
      exact ⟨o, e, ex.2.1⟩
    · obtain ⟨o, _, _, _, e, ex, _⟩ := I.hok p _ hk
      refine ⟨⟨o, e, ex.1⟩, fun a e2 => ?_⟩
      cases e2
      exact ⟨o, e, ex.2.1⟩
  | _ => exact False.elim ty
def tBM0 (K : PySem.W.Frag) (T : String) (r : V → List V → Hp → VK → Prop) (to : TE) : TE := fun σ H Q => to σ H fun x H1 => tyV K T x H1 ∧ r x [] H1 Q
def tBM (K : PySem.W.Frag) (T : String) (r : V → List V → Hp → VK → Prop) (to : TE) (t : TA) : TE := fun σ H Q => to σ H fun x H1 => tyV K T x H1 ∧ t σ H1 fun xs H2 => r x xs H2 Q
variable {o e : Expr} {es : List Expr} {to : TE} {t : TA} {name : Str} {apos cpos : Pos} {T id : String} {r : V → List V → Hp → VK → Prop}
theorem pe_bm0 (pa : PlainAttrs T) (slot : Slot T name id) (hty : typeOf (.builtin id) = pure (.type "method_descriptor")) (hm : MtR X id r) (ho : PE X o to)
    (hbase : attributeBase o name X.env (eval o X.env) = eval o X.env := by rfl) (hline : (apos.endLine == cpos.line) = true := by rfl) : PE X (.Call (.Attribute o name apos) [] [] cpos) (tBM0 X.K T r to) := by
  intro pins s σ H Q I h
  refine wpAny_Call_method0_late hbase hline (thn (ho pins s σ H _ I h) fun v s1 ⟨x, H1, I1, r1, ty, q1⟩ => ?_)
  obtain ⟨h1, h2⟩ := tyV_is I1 r1 ty
  exact ⟨T, id, pa, slot, hty, h1, h2, Calls.callWith_builtin rfl (PySem.evalArgs_none (hm pins s1 σ H1 x [] v [] Q I1 r1 .nil q1))⟩
theorem pe_bm (pa : PlainAttrs T) (slot : Slot T name id) (hty : typeOf (.builtin id) = pure (.type "method_descriptor")) (hm : MtR X id r) (ho : PE X o to) (ha : PA X (e :: es) t)
    (hbase : attributeBase o name X.env (eval o X.env) = eval o X.env := by rfl)
    (hfew : ((backTo cpos (starEach (e :: es) X.env)).all (fun x => !x.1) && (backToKw cpos (keywordEach [] X.env)).all (fun x => x.1.isSome)
      && decide ((e :: es).length + ([] : List Keyword).length + (if ([] : List Keyword).isEmpty then 0 else 1) < 30)) = true := by rfl)
    (hline : (apos.endLine == cpos.line) = true := by rfl) (hs : starEach (e :: es) X.env = (false, eval e X.env) :: starEach es X.env := by rfl) (hplain : (backTo cpos (starEach es X.env)).any (·.1) = false := by rfl) :
    PE X (.Call (.Attribute o name apos) (e :: es) [] cpos) (tBM X.K T r to t) := by
  intro pins s σ H Q I h
  refine wpAny_Call_method_late hbase hfew hline rfl (thn (ho pins s σ H _ I h) fun v s1 ⟨x, H1, I1, r1, ty, q1⟩ => ?_)
  obtain ⟨h1, h2⟩ := tyV_is I1 r1 ty
  refine ⟨T, id, pa, slot, hty, h1, h2, ?_⟩
  have hA := ha cpos pins s1 σ H1 _ I1 q1
  rw [hs] at hA ⊢
  refine Calls.callWith_builtin (by show (false || (backTo cpos (starEach es X.env)).any (·.1)) = false; rw [hplain] <;> rfl) (Calls.evalArgs_plain ?_)
  exact thn hA fun us s2 ⟨vs, H2, I2, r2, q2⟩ => hm pins s2 σ H2 x vs v us Q I2 r1 r2 q2
/- xs.append(e), list.index on a module's tuple .. are MtR facts of 06m -/
end
end L2

namespace L2
open PySem PySem.Spec PyProof.Rows

def MtM (X : Cx) (id : String) (r : V → List V → Hp → VK → Prop) : Prop :=
  ∀ (pins : List (Addr × Obj)) (s : Shared) (σ : St) (H : Hp) (x : V) (xs : List V) (v : Value) (us : List Value) (Q : VK), Inv X pins σ H s → RelV x v → Vals xs us → r x xs H Q →
    wpAny (model X.prog X.w) X.A (call (.builtin id) (v :: us)) (EP X pins σ Q) X.xe s

/-! ### lists of values -/
theorem Vals.one : ∀ {x : V} {us : List Value}, Vals [x] us → ∃ u, us = [u] ∧ RelV x u
  | _, _, .cons r .nil => ⟨_, rfl, r⟩
theorem Vals.two : ∀ {x y : V} {us : List Value}, Vals [x, y] us → ∃ u v, us = [u, v] ∧ RelV x u ∧ RelV y v
  | _, _, _, .cons r (.cons q .nil) => ⟨_, _, rfl, r, q⟩
theorem Vals.zero : ∀ {us : List Value}, Vals [] us → us = []
  | _, .nil => rfl
theorem Vals.dropLast {xs : List V} {us : List Value} (h : Vals xs us) : Vals xs.dropLast us.dropLast := by
  induction h with
  | nil => exact .nil
  | cons r t ih =>
    cases t with
    | nil => exact .nil
    | cons q t' => exact .cons r ih
theorem Vals.eraseIdx : ∀ {xs : List V} {us : List Value} (i : Nat), Vals xs us → Vals (xs.eraseIdx i) (us.eraseIdx i)
  | _, _, _, .nil => .nil
  | _, _, 0, .cons _ t => t
  | _, _, i + 1, .cons r t => .cons r (Vals.eraseIdx i t)
theorem Vals.reverse {xs : List V} {us : List Value} (h : Vals xs us) : Vals xs.reverse us.reverse := by
  induction h with
  | nil => exact .nil
  | cons r t ih => rw [List.reverse_cons, List.reverse_cons]; exact Vals.append ih (.cons r .nil)
theorem Vals.rep {xs : List V} {us : List Value} (h : Vals xs us) : ∀ k : Nat, Vals (List.replicate k xs).flatten (List.replicate k us).flatten
  | 0 => .nil
  | k + 1 => by
    rw [List.replicate_succ, List.replicate_succ, List.flatten_cons, List.flatten_cons]
    exact Vals.append h (Vals.rep h k)
theorem erase_last {α : Type} (l : List α) : l.eraseIdx (l.length - 1) = l.dropLast := by
  induction l with
  | nil => rfl
  | cons a r ih =>
    cases r with
    | nil => rfl
    | cons b r =>
      have e : (a :: b :: r).length - 1 = ((b :: r).length - 1) + 1 := by
        have h1 : (a :: b :: r).length = r.length + 2 := rfl
        have h2 : (b :: r).length = r.length + 1 := rfl
        omega
      rw [e, List.eraseIdx_cons_succ, ih]
      all_goals rfl
theorem len_erase {α : Type} : ∀ (l : List α) (i : Nat), (l.eraseIdx i).length ≤ l.length
  | [], _ => Nat.le_refl _
  | _ :: _, 0 => Nat.le_succ _
  | _ :: r, i + 1 => Nat.succ_le_succ (len_erase r i)
theorem foldl_rep (its : List Value) : ∀ (k : Nat) (acc : List Value),
    List.foldl (fun x1 x2 => x1 ++ x2) acc.toArray (List.replicate k its.toArray) = (acc ++ (List.replicate k its).flatten).toArray
  | 0, acc => by simp
  | k + 1, acc => by
    have e : acc.toArray ++ its.toArray = (acc ++ its).toArray := by simp
    have e2 : (acc ++ its) ++ (List.replicate k its).flatten = acc ++ (List.replicate (k + 1) its).flatten := by
      rw [List.replicate_succ, List.flatten_cons, List.append_assoc]
    rw [← e2, ← foldl_rep its k (acc ++ its), ← e, List.replicate_succ, List.foldl_cons]

section
variable {X : Cx} {pins : List (Addr × Obj)} {σ : St} {H : Hp} {s : Shared} {l b : Addr} {xs ys zs : List V}

/-! ### the two steps: a tracked list is rewritten, a new list is laid -/
theorem Inv.lset {its its' : List Value} {n : Nat} {f : Array Value → Array Value} {t' : Nat} (I : Inv X pins σ H s) (hH : H l = some (.lst xs))
    (e : s.heap.get? l = some { cls := .type "list", data := .seq its.toArray n }) (hf : f its.toArray = its'.toArray) (hv : Vals ys its') (hz : ys.length ≤ sizeLine) :
    Inv X pins σ (upd H l (.lst ys)) { s with heap := s.heap.update l (Obj.mapSeq f), toks := t' } := by
  have q := PySem.IsL.update e f
  rw [hf] at q
  refine I.write (x := l) (e := l) (by rw [hH]; exact trivial) (.inl rfl) (fun b' u hb hu => (Heap.get?_update_other s.heap (Obj.mapSeq f) (Ne.symm hb)).trans hu) ⟨_, q⟩ ?_
  exact ⟨hz, its', _, hv, q⟩
theorem Inv.lnew {its : List Value} {t' : Nat} (I : Inv X pins σ H s) (hv : Vals ys its) (hz : ys.length ≤ sizeLine) :
    Inv X pins σ (upd H s.heap.objs.size (.lst ys)) { s with heap := s.heap.push { cls := .type "list", data := .seq its.toArray }, toks := t' } :=
  I.laid (fun _ _ q => Heap.get?_push_of_some _ q) (Nat.le_refl _) ⟨hz, its, 0, hv, Heap.get?_push_size _ rfl⟩
theorem Inv.fresh (I : Inv X pins σ H s) : H s.heap.objs.size = none := I.hok.fresh (Nat.le_refl _)
theorem Inv.lstM (I : Inv X pins σ H s) (hH : H l = some (.lst xs)) : xs.length ≤ sizeLine ∧ ∃ (its : List Value) (n : Nat), Vals xs its ∧ xs.length = its.length ∧ s.heap.get? l = some { cls := .type "list", data := .seq its.toArray n } := by
  obtain ⟨z, its, n, r, e⟩ := I.hok l _ hH
  exact ⟨z, its, n, r, r.length, e⟩

theorem notLongL {n : Nat} (h : n ≤ sizeLine) : Builtin.List.listTooLong n = false := by
  unfold Builtin.List.listTooLong
  exact decide_eq_false (by omega)
end

section
variable {X : Cx}

/-! ### methods -/
def rAppend : V → List V → Hp → VK → Prop := fun x vs H Q => ∃ l xs y, x = .ref l ∧ vs = [y] ∧ H l = some (.lst xs) ∧ xs.length < sizeLine ∧ Q .non (upd H l (.lst (xs ++ [y])))
theorem mt_append : MtM X "list.append" rAppend := by
  intro pins s σ H x vs v us Q I rx rv h
  obtain ⟨l, xs, y, rfl, rfl, hH, hz, q⟩ := h
  cases rx
  obtain ⟨u, rfl, ru⟩ := rv.one
  obtain ⟨z, its, n, r, hl, e⟩ := I.lstM hH
  refine call_meets F.slot_list_append ⟨_, e, rfl⟩ F.entry_list_append (F.args_list_append_2 _ _) (PySem.list_append l its.toArray n u (by rw [List.size_toArray]; omega)) ⟨e, ?_⟩
  refine ⟨.non, _, I.lset (its' := its ++ [u]) hH e (by simp) (r.append (.cons ru .nil)) ?_, rfl, q⟩
  rw [List.length_append, List.length_singleton]
  omega

def rExtend : V → List V → Hp → VK → Prop := fun x vs H Q => ∃ l b xs zs, x = .ref l ∧ vs = [.ref b] ∧ H l = some (.lst xs) ∧ H b = some (.lst zs) ∧ xs.length + zs.length ≤ sizeLine ∧ Q .non (upd H l (.lst (xs ++ zs)))
theorem mt_extend : MtM X "list.extend" rExtend := by
  intro pins s σ H x vs v us Q I rx rv h
  obtain ⟨l, b, xs, zs, rfl, rfl, hH, hB, hz, q⟩ := h
  cases rx
  obtain ⟨u, rfl, ru⟩ := rv.one
  cases ru
  obtain ⟨z, its, n, r, hl, e⟩ := I.lstM hH
  obtain ⟨z2, its2, n2, r2, hl2, e2⟩ := I.lstM hB
  have hsz : its.toArray.size + its2.toArray.size ≤ sizeLine := by rw [List.size_toArray, List.size_toArray]; omega
  have hlong : ¬ (!its.toArray.isEmpty && Builtin.List.listTooLong (its.toArray.size + its2.toArray.size)) = true := by
    rw [notLongL hsz, Bool.and_false]
    exact Bool.false_ne_true
  refine call_meets F.slot_list_extend ⟨_, e, rfl⟩ F.entry_list_extend (F.args_list_extend_2 _ _)
    (AutoSeq1.list_extend_list_list_0 l its.toArray n b its2.toArray n2 hlong (by rw [List.size_toArray]; omega) (by omega)) ⟨e, e2, ?_⟩
  refine ⟨.non, _, I.lset (its' := its ++ its2) hH e (by simp) (r.append r2) ?_, rfl, q⟩
  rw [List.length_append]
  omega

def rPop : V → List V → Hp → VK → Prop := fun x vs H Q => ∃ l xs y, x = .ref l ∧ vs = [] ∧ H l = some (.lst xs) ∧ xs[xs.length - 1]? = some y ∧ Q y (upd H l (.lst xs.dropLast))
theorem mt_pop : MtM X "list.pop" rPop := by
  intro pins s σ H x vs v us Q I rx rv h
  obtain ⟨l, xs, y, rfl, rfl, hH, hy, q⟩ := h
  cases rx
  have hus := rv.zero
  subst hus
  obtain ⟨z, its, n, r, hl, e⟩ := I.lstM hH
  obtain ⟨u, hu, ru⟩ := r.get hy
  have hy' : its.toArray[its.toArray.size - 1]? = some u := by
    show its.toArray[its.length - 1]? = some u
    rw [← Array.getElem?_toList, ← hl]
    exact hu
  refine call_meets F.slot_list_pop ⟨_, e, rfl⟩ F.entry_list_pop (F.args_list_pop_1 _) (MeetsSeq.list_pop_last l its.toArray n u hy' (by rw [List.size_toArray]; omega)) ⟨e, ?_⟩
  refine ⟨y, _, I.lset (its' := its.dropLast) hH e ?_ r.dropLast ?_, ru, q⟩
  · show its.toArray.eraseIdxIfInBounds (its.toArray.size - 1) = its.dropLast.toArray
    rw [List.size_toArray, List.eraseIdxIfInBounds_toArray, erase_last]
  · rw [List.length_dropLast]
    omega

def rPopAt : V → List V → Hp → VK → Prop := fun x vs H Q => ∃ l xs i k y, x = .ref l ∧ vs = [.int i] ∧ H l = some (.lst xs) ∧ -(2 ^ 63) ≤ i ∧ i < 2 ^ 63 ∧ seqIndex? i xs.length = some k ∧ xs[k]? = some y ∧ Q y (upd H l (.lst (xs.eraseIdx k)))
theorem mt_popAt : MtM X "list.pop" rPopAt := by
  intro pins s σ H x vs v us Q I rx rv h
  obtain ⟨l, xs, i, k, y, rfl, rfl, hH, h1, h2, hk, hy, q⟩ := h
  cases rx
  obtain ⟨u, rfl, ru⟩ := rv.one
  obtain ⟨t, rfl⟩ := ru
  obtain ⟨z, its, n, r, hl, e⟩ := I.lstM hH
  obtain ⟨w, hw, rw'⟩ := r.get hy
  refine call_meets F.slot_list_pop ⟨_, e, rfl⟩ F.entry_list_pop (F.args_list_pop_2 _ _)
    (MeetsSeq.list_pop_at l its.toArray n i t k w (fitsIndex_both h1 h2) (by rw [List.size_toArray, ← hl]; exact hk) (by rw [← Array.getElem?_toList]; exact hw) (by rw [List.size_toArray]; omega)) ⟨e, ?_⟩
  refine ⟨y, _, I.lset (its' := its.eraseIdx k) hH e ?_ (r.eraseIdx k) ?_, rw', q⟩
  · show its.toArray.eraseIdxIfInBounds k = (its.eraseIdx k).toArray
    rw [List.eraseIdxIfInBounds_toArray]
  · have := len_erase xs k
    omega

def rReverse : V → List V → Hp → VK → Prop := fun x vs H Q => ∃ l xs, x = .ref l ∧ vs = [] ∧ H l = some (.lst xs) ∧ Q .non (upd H l (.lst xs.reverse))
theorem mt_reverse : MtM X "list.reverse" rReverse := by
  intro pins s σ H x vs v us Q I rx rv h
  obtain ⟨l, xs, rfl, rfl, hH, q⟩ := h
  cases rx
  have hus := rv.zero
  subst hus
  obtain ⟨z, its, n, r, hl, e⟩ := I.lstM hH
  refine call_meets F.slot_list_reverse ⟨_, e, rfl⟩ F.entry_list_reverse (F.args_list_reverse_1 _) (AutoSeq1.list_reverse_list_0 l its.toArray n (by rw [List.size_toArray]; omega)) ⟨e, ?_⟩
  refine ⟨.non, _, I.lset (its' := its.reverse) hH e (by simp) r.reverse ?_, rfl, q⟩
  rw [List.length_reverse]
  omega

def rClear : V → List V → Hp → VK → Prop := fun x vs H Q => ∃ l xs, x = .ref l ∧ vs = [] ∧ H l = some (.lst xs) ∧ Q .non (upd H l (.lst []))
theorem mt_clear : MtM X "list.clear" rClear := by
  intro pins s σ H x vs v us Q I rx rv h
  obtain ⟨l, xs, rfl, rfl, hH, q⟩ := h
  cases rx
  have hus := rv.zero
  subst hus
  obtain ⟨z, its, n, r, hl, e⟩ := I.lstM hH
  refine call_meets F.slot_list_clear ⟨_, e, rfl⟩ F.entry_list_clear (F.args_list_clear_1 _) (AutoSeq1.list_clear_list_0 l its.toArray n (by rw [List.size_toArray]; omega)) ⟨e, ?_⟩
  exact ⟨.non, _, I.lset (its' := []) (ys := []) hH e rfl .nil (Nat.zero_le _), rfl, q⟩

/-! ### list + list, list += list, list * int -/
def rCat : R2 := fun x y H Q => ∃ l b xs zs, x = .ref l ∧ y = .ref b ∧ H l = some (.lst xs) ∧ H b = some (.lst zs) ∧ xs.length + zs.length ≤ sizeLine ∧ ∀ p, H p = none → Q (.ref p) (upd H p (.lst (xs ++ zs)))
theorem op_cat : OpR X (binaryOp .Add) rCat := by
  intro pins s σ H x y v u Q I rx ry h
  obtain ⟨l, b, xs, zs, rfl, rfl, hH, hB, hz, q⟩ := h
  cases rx
  cases ry
  obtain ⟨z, its, n, r, hl, e⟩ := I.lstM hH
  obtain ⟨z2, its2, n2, r2, hl2, e2⟩ := I.lstM hB
  refine PySem.P.add_list e e2 ?_ (by rw [List.size_toArray, List.size_toArray]; omega)
  have ea : its.toArray ++ its2.toArray = (its ++ its2).toArray := by simp
  rw [ea]
  exact ⟨.ref _, _, I.lnew (t' := s.toks) (r.append r2) (by rw [List.length_append]; omega), rfl, q _ I.fresh⟩
/-- a list times an int (a negative one is nothing) -/
def rRep : R2 := fun x y H Q => ∃ l k xs, x = .ref l ∧ y = .int k ∧ H l = some (.lst xs) ∧ -(2 ^ 63) ≤ k ∧ k < 2 ^ 63 ∧ xs.length * k.toNat ≤ sizeLine ∧
  ∀ p, H p = none → Q (.ref p) (upd H p (.lst (List.replicate k.toNat xs).flatten))
theorem len_rep {α : Type} (xs : List α) (k : Nat) : (List.replicate k xs).flatten.length = k * xs.length := by
  induction k with
  | zero => simp
  | succ k ih => rw [List.replicate_succ, List.flatten_cons, List.length_append, ih, Nat.succ_mul, Nat.add_comm]
theorem op_rep : OpR X (binaryOp .Mult) rRep := by
  intro pins s σ H x y v u Q I rx ry h
  obtain ⟨l, k, xs, rfl, rfl, hH, h1, h2, hz, q⟩ := h
  cases rx
  obtain ⟨t, rfl⟩ := ry
  obtain ⟨z, its, n, r, hl, e⟩ := I.lstM hH
  have hlen : its.toArray.size * k.toNat ≤ sizeLine := by rw [List.size_toArray, ← hl]; exact hz
  have hcap : ¬ its.toArray.size * k.toNat > (2 ^ 63 - 1) / 8 := by
    have : (sizeLine : Nat) ≤ (2 ^ 63 - 1) / 8 := by decide
    omega
  have hfit : ¬ (!Builtin.List.listFitsIndex k) = true := by
    rw [fitsIndex_both h1 h2]
    exact Bool.false_ne_true
  have hlong : ¬ Builtin.List.listTooLong (its.toArray.size * k.toNat) = true := by
    rw [notLongL hlen]
    exact Bool.false_ne_true
  have hnew : List.foldl (fun x1 x2 => x1 ++ x2) #[] (List.replicate (if its.toArray.isEmpty = true then 0 else k.toNat) its.toArray) = (List.replicate k.toNat its).flatten.toArray := by
    have f0 : ∀ m : Nat, List.foldl (fun x1 x2 => x1 ++ x2) #[] (List.replicate m its.toArray) = (List.replicate m its).flatten.toArray := fun m => by
      have := foldl_rep its m []
      rw [List.nil_append] at this
      exact this
    rw [f0]
    cases its with
    | nil => simp
    | cons a r' => rw [if_neg (by simp)]
  refine wpAny_binaryOp_repeat_ref (T := "list") (U := "int") (by decide) ⟨_, e, rfl⟩ (fun s' => typeIs_int s' k t) noFill_list_mul F.fills_int_mul F.slot_int_rmul repeat_list F.slot_int_index.lookup
    (call_meets F.slot_int_rmul (typeIs_int s k t) F.entry_int_rmul (F.args_int_rmul_2 _ _) (int___rmul___int_list k t l its.toArray n)
      ⟨e, rfl, ⟨_, e, rfl⟩, call_meets F.slot_list_mul ⟨_, e, rfl⟩ F.entry_list_mul (F.args_list_mul_2 _ _) (AutoListH.list___mul___list_int_3 l its.toArray n k t hfit hcap hlong) ⟨e, ?_⟩⟩)
  rw [hnew]
  exact ⟨.ref _, _, I.lnew (t' := s.toks) (r.rep k.toNat) (by rw [len_rep, Nat.mul_comm]; exact hz), rfl, q _ I.fresh⟩

/-! ### del xs[i] -/
theorem del_list {pins : List (Addr × Obj)} {s : Shared} {σ : St} {H : Hp} {l : Addr} {xs : List V} {i : Int} {t : Tok} {k : Nat} {Q : Unit → Shared → Prop} (I : Inv X pins σ H s) (hH : H l = some (.lst xs))
    (h1 : -(2 ^ 63) ≤ i) (h2 : i < 2 ^ 63) (hk : seqIndex? i xs.length = some k) (h : ∀ s', Inv X pins σ (upd H l (.lst (xs.eraseIdx k))) s' → Q () s') :
    wpAny (model X.prog X.w) X.A (delItem (.ref l) (.int i t)) Q X.xe s := by
  obtain ⟨z, its, n, r, hl, e⟩ := I.lstM hH
  refine PySem.P.delItem_list (k := k) e (fitsIndex_both h1 h2) (by rw [List.size_toArray, ← hl]; exact hk) (h _ ?_) (by rw [List.size_toArray]; omega)
  refine I.lset (its' := its.eraseIdx k) (t' := s.toks) hH e ?_ (r.eraseIdx k) ?_
  · show its.toArray.eraseIdxIfInBounds k = (its.eraseIdx k).toArray
    rw [List.eraseIdxIfInBounds_toArray]
  · have := len_erase xs k
    omega
end

/-! ### xs[a:b] = ys -/
section
variable {prog : Program} {w : World} {A : Around} {E : Value → Shared → Prop} {s : Shared}
theorem splice_eq (its its2 : List Value) (a c : Nat) : its.toArray.extract 0 a ++ its2.toArray ++ its.toArray.extract c its.toArray.size = (its.take a ++ its2 ++ its.drop c).toArray := by
  apply Array.toList_inj.mp
  first
    | (simp
       exact List.take_of_length_le (by simp))
    | simp [List.take_of_length_le]
    | simp
theorem bounds_run {a c n : Nat} (hac : a ≤ c) (hc : c ≤ n) : sliceBounds (some (a : Int)) (some (c : Int)) none n = ((a : Int), (c : Int), 1) := by
  simp only [sliceBounds, Option.getD_none]
  have h1 : ¬ ((a : Int) < 0) := by omega
  have h2 : ¬ ((c : Int) < 0) := by omega
  simp only [h1, h2, if_false, show (1 : Int) > 0 by decide, if_true]
  congr 1
  · omega
  · congr 1; omega
set_option maxRecDepth 100000 in
/-- list.__setitem__ with a slice of step one and another list -/
theorem setItem_slice {l b sl : Addr} {items new : Array Value} {n n2 : Nat} {vl vu : Value} {a c : Nat} {Q : Unit → Shared → Prop}
    (e : s.heap.get? l = some { cls := .type "list", data := .seq items n }) (e2 : s.heap.get? b = some { cls := .type "list", data := .seq new n2 }) (hne : l ≠ b)
    (hs : s.heap.IsSliceOf sl vl vu .none) (pl : IsPart vl (some (a : Int))) (pu : IsPart vu (some (c : Int))) (hac : a ≤ c) (hc : c ≤ items.size)
    (hsz : items.size + new.size ≤ sizeLine) (h : Q () { s with heap := s.heap.update l (Obj.mapSeq fun xs => xs.extract 0 a ++ new ++ xs.extract c xs.size) }) :
    wpAny (model prog w) A (setItem (.ref l) (.ref sl) (.ref b)) Q E s := by
  have hl : s.heap.IsList l items := PySem.IsL.isList e
  have hb : s.heap.IsList b new := PySem.IsL.isList e2
  obtain ⟨os, hos, hcs, hds⟩ := id hs
  have hTs : s.TypeIs (.ref sl) "slice" := ⟨os, hos, hcs⟩
  have hstep : ¬ ((rawPart none == rawInt 0) = true) := Bool.false_ne_true
  have hsame : Builtin.List.listSameRef (.ref l) (.ref b) = false := by
    unfold Builtin.List.listSameRef
    exact beq_eq_false_iff_ne.mpr hne
  have hmax : (max (a : Int) (c : Int)).toNat = c := by omega
  have hz' : ((fun xs : Array Value => xs.extract 0 a ++ new ++ xs.extract c xs.size) items).size ≤ sizeLine + 1 := by
    simp only [Array.size_append, Array.size_extract]
    omega
  unfold setItem
  try with_reducible refine wpAny_holding ?_
  first | refine wpAny_bind (wpAny_pure ?_) | skip
  refine wpAny_bind (wpAny_sequenceKey hl.typeIs (by decide) ?_)
  refine wpAny_bind (wpAny_callSpecial?_slot (name := Str.ofString "__setitem__") hl.typeIs slot_list_setitem
    (wpAny_call_entry slot_list_setitem hl.typeIs entry_list_setitem ?_ (args_list_setitem _ _ _)))
  show wpAny _ _ (Builtin.List.listSubscript? (.ref sl) >>= _) _ _ s
  refine wpAny_bind ?_
  unfold Builtin.List.listSubscript?
  refine wpAny_bind (wpAny_specialOf hTs slice_no_index ?_)
  simp only [Option.isNone_none, if_true]
  refine wpAny_pure ?_
  show wpAny _ _ (typeOf (.ref sl) >>= _) _ _ s
  refine wpAny_bind (wpAny_typeOf hTs ?_)
  first
    | rw [if_neg (by decide)]
    | refine PySem.W.KFB.if_not (by decide) ?_
  rw [listSliceParts_eq]
  refine wpAny_bind (wpAny_bind (wpAny_field hos hds (x := .none) rfl (wpAny_bind (wpAny_listPart .none ?_))))
  rw [if_neg hstep]
  refine wpAny_bind (wpAny_field hos hds (x := vl) rfl (wpAny_bind (wpAny_listPart pl ?_)))
  refine wpAny_bind (wpAny_field hos hds (x := vu) rfl (wpAny_bind (wpAny_listPart pu (wpAny_pure ?_))))
  first
    | simp only [hsame, Bool.false_eq_true, if_false]
    | refine PySem.W.KFB.if_not hsame ?_
    | (dsimp only
       rw [if_neg (by rw [hsame]; exact Bool.false_ne_true)])
  refine wpAny_bind (m := Builtin.List.listAllItems (.ref b) "must assign iterable to extended slice") ?_
  unfold Builtin.List.listAllItems
  refine wpAny_bind (wpAny_typeOf hb.typeIs ?_)
  first
    | refine PySem.W.KFB.if_so (by decide) ?_
    | rw [if_pos (by decide)]
    | simp only [beq_self_eq_true, Bool.true_or, if_true]
  unfold Builtin.List.listItems
  refine wpAny_bind (wpAny_seqItems e2 rfl (wpAny_pure ?_))
  refine wpAny_bind (wpAny_bind (wpAny_seqItems e rfl (wpAny_pure ?_)))
  refine wpAny_bind (wpAny_of_eq ((sliceIndices_raw (some (a : Int)) (some (c : Int)) none items.size (by simp)).trans (congrArg (pure : Int × Int × Int → Sem (Int × Int × Int)) (bounds_run hac hc))) ?_)
  show wpAny _ _ (if ((1 : Int) == 1) = true then _ else _) _ _ s
  rw [if_pos (by decide)]
  refine wpAny_bind (wpAny_rule ?_)
  first
    | simp only [notLongL hsz, Bool.false_eq_true, if_false]
    | refine PySem.W.KFB.if_not (notLongL hsz) ?_
  first | refine wpAny_bind (wpAny_pure ?_) | skip
  show wpAny _ _ (updateSeq l (fun xs => xs.extract 0 ((a : Int)).toNat ++ new ++ xs.extract (max (a : Int) (c : Int)).toNat xs.size) >>= _) _ _ s
  rw [hmax, Int.toNat_natCast]
  refine wpAny_bind (wpAny_updateSeq (hz := Nat.le_trans (Nat.le_add_right _ _) hsz) (_hz' := hz') e rfl ?_)
  refine wpAny_bind (wpAny_letGo ?_)
  first
    | exact wpAny_bind (wpAny_pure (wpAny_pure ⟨.none, rfl, wpAny_pure h⟩))
    | exact wpAny_pure ⟨.none, rfl, wpAny_pure h⟩
end

section
variable {X : Cx}
/-- xs[a:c] = ys of another list, at the value level: sl is the slice object that was just made -/
theorem set_slice {pins : List (Addr × Obj)} {s : Shared} {σ : St} {H : Hp} {l b sl : Addr} {xs ys : List V} {a c : Int} {vl vu : Value} {Q : Unit → Shared → Prop} (I : Inv X pins σ H s)
    (hH : H l = some (.lst xs)) (hB : H b = some (.lst ys)) (hne : l ≠ b) (hs : s.heap.IsSliceOf sl vl vu .none) (ra : RelV (.int a) vl) (rc : RelV (.int c) vu) (h0 : 0 ≤ a) (hac : a ≤ c) (hc : c ≤ xs.length)
    (hz : xs.length + ys.length ≤ sizeLine) (h : ∀ s', Inv X pins σ (upd H l (.lst (xs.take a.toNat ++ ys ++ xs.drop c.toNat))) s' → Q () s') :
    wpAny (model X.prog X.w) X.A (setItem (.ref l) (.ref sl) (.ref b)) Q X.xe s := by
  obtain ⟨ta, rfl⟩ := ra
  obtain ⟨tc, rfl⟩ := rc
  obtain ⟨z, its, n, r, hl, e⟩ := I.lstM hH
  obtain ⟨z2, its2, n2, r2, hl2, e2⟩ := I.lstM hB
  obtain ⟨a', rfl⟩ := Int.eq_ofNat_of_zero_le h0
  obtain ⟨c', rfl⟩ := Int.eq_ofNat_of_zero_le (Int.le_trans h0 hac)
  simp only [Int.toNat_natCast] at h
  refine setItem_slice (a := a') (c := c') e e2 hne hs (.int _ _) (.int _ _) (by omega) (by rw [List.size_toArray]; omega) (by rw [List.size_toArray, List.size_toArray]; omega) (h _ ?_)
  refine I.lset (its' := its.take a' ++ its2 ++ its.drop c') (t' := s.toks) hH e ?_ (Vals.append (Vals.append (r.take _) r2) (r.drop _)) ?_
  · exact splice_eq its its2 a' c'
  · rw [List.length_append, List.length_append, List.length_take, List.length_drop]
    omega
end
end L2

namespace Att
open PySem PySem.W PySem.Calls PyProof.Rows

/-! ### the script -/
theorem ints_of_wellAll {P : Params} {h : Heap} : ∀ (ns : List Int) (vs : List Value), WellAll P h vs (ns.map WData.int) → IntsAre vs ns := by
  intro ns
  induction ns with
  | nil =>
    intro vs w
    rw [List.map_nil] at w
    cases w
    exact .nil
  | cons n ns ih =>
    intro vs w
    rw [List.map_cons] at w
    cases w with
    | cons a b =>
      cases a
      exact .cons _ _ (ih _ b)

theorem script_of {l : OpenLaw} {n : Nat} (hn : l.most = some n) {P : Params} {h : Heap} {args : List WData} {vals : List Value}
    (hpre : l.row.toRowW.claim.pre args = true) (hwl : WellAll P h vals args) :
    ∃ a vs ns, vals = [Value.ref a] ∧ args = [WData.list (ns.map WData.int)] ∧ h.get? a = some { cls := .type "list", data := .seq vs.toArray } ∧ IntsAre vs ns ∧ ns.length ≤ n := by
  have hsh : WShape.hasAll [] args [.list .int] = true := (pre_splitW hpre).1
  have hc : l.pre.holds [] { args := args } = true := (pre_splitW hpre).2
  obtain ⟨d, r, rfl, h1, h2⟩ := hasAllW_cons hsh
  obtain rfl := hasAllW_nil h2
  obtain ⟨xs, rfl, h3⟩ := hasW_list h1
  obtain ⟨ns, rfl⟩ := items_int h3
  have hlen : ns.length ≤ n := by
    unfold OpenLaw.pre at hc
    have h4 : (WTm.not (.lt (.lit (.int (n : Int))) (.len (.arg 0)))).holds [] { args := [.list (ns.map .int)] } = true := by
      have h4 := (holds_andW hc).1
      rw [hn] at h4
      exact h4
    have h5 := condW_of h4 (w_not (w_lt w_lit (w_len_list (w_arg rfl))))
    rw [List.length_map] at h5
    refine Nat.le_of_not_lt fun q => ?_
    have q' : (n : Int) < ((ns.length : Nat) : Int) := by omega
    first
      | (rw [decide_eq_true q'] at h5; exact absurd h5 (by decide))
      | (simp at h5; omega)
  cases hwl with
  | cons w1 w2 =>
    cases w2
    cases w1 with
    | list ho hall => exact ⟨_, _, ns, rfl, rfl, ho, ints_of_wellAll ns _ hall, hlen⟩

theorem post_true (l : OpenLaw) (args : List WData) : l.row.toRowW.claim.post args (.bool true) args = true :=
  postW_of (r := l.row.toRowW) (X := (true == true))
    (show WShape.has [] (.bool true) .bool = true by first | rfl | decide | simp [WShape.has, WShape.arms, WShape.armsAll])
    (show (WTm.eq .res (.lit (.bool true))).value [] { args := args, res := some (.bool true), after := args } = some (.bool (true == true)) from w_eq_bool (w_res rfl) w_lit) rfl

/-! ### the attachment: holds_open's last premise (the goal 'hc' behind k_head) from a wpAny of the law's body -/
theorem attach {l : OpenLaw} {n : Nat} {q : Program} {loose : List Str} {XP : (Str → Option Value) → Heap → Prop} {YP : World → Heap → Prop} {d : DefRec} {x : Str}
    (hn : l.most = some n) (hdf : d.params.defaults = [])
    (hbind : ∀ pm cd doc v : Value, bindArgs (docDef d.name d.params d.body d.scope pm cd doc) ⟨[v], []⟩ = pure [(x, v)])
    (hx : d.scope.names.lookup x = some .local ∨ d.scope.names.lookup x = some .cell)
    (hk : d.scope.kind = .function) (hco : d.scope.isCoroutine = false) (hgen : d.scope.isGenerator = false)
    (body : ∀ (w : World) (s₀ s₁ s : Shared) (mg mb : Str → Option Value) (fa : Addr) (o : Obj) (pm cd doc : Value) (a : Addr) (vs : List Value) (ns : List Int),
      Ground q loose [] XP w s₀ mg mb s₁.heap → YP w s₁.heap →
      s₁.heap.get? fa = some o → o.data = .func (docDef d.name d.params d.body d.scope pm cd doc) → s₁.heap.CodeRec cd d.name → mg d.name = some (.ref fa) →
      s₁.heap.get? a = some { cls := .type "list", data := .seq vs.toArray } → IntsAre vs ns → ns.length ≤ n →
      s.gens = #[] → s.os = s₁.os →
      Fr s₁.heap s₁.heap.objs.size s.heap (bindL (envOfC d.name d.scope s₁.heap.objs.size fa cd).kindOf [(x, .ref a)] fun _ => none) →
      Cl s₁.heap.objs.size (cellsFrom (s₁.heap.objs.size + 1) d.scope.names []) s.heap (bindC (envOfC d.name d.scope s₁.heap.objs.size fa cd).kindOf [(x, .ref a)] fun _ => none) →
      wpAny (model l.prog w) (callerA.deeper (envOfC d.name d.scope s₁.heap.objs.size fa cd)) (execs d.body (envOfC d.name d.scope s₁.heap.objs.size fa cd))
        (fun f s' => f = .ret (.bool true) ∧ OldK s₁.heap s'.heap ∧ s'.os = s₁.os ∧ AllBare s'.gens) (fun _ _ => False) s) :
    WalkO q loose XP YP l.row.toRowW d [] (fun f vs => PySem.call f vs) := by
  intro w s₀ s₁ mg mb G Y fa o pm cd doc dV kV ho hd hcd hD hmg hg args vals as hpre hlay hrd hwl hlo
  obtain rfl : dV = .none := Dflts.none hD hdf
  obtain rfl : kV = .none := Dflts.noKw hD
  obtain ⟨a, vs, ns, rfl, rfl, hobj, hints, hlen⟩ := script_of hn hpre hwl
  refine enter_call ?_
  refine call_cells_ret (o := o) (by rw [depth_caller]; decide) ho (fd_plain hd) G.T.nolimit hcd (hbind pm cd doc (.ref a)) (fun y hy => ?_) (fun h₁ tk F X => ?_) hco hgen hk
  · obtain rfl : y = (x, Value.ref a) := List.mem_singleton.mp hy
    rcases hx with e | e
    · exact .inl e
    · exact .inr ⟨e, cellsFrom_some _ _ _ (.inl e)⟩
  · refine wpAny_mono (body w s₀ s₁ { s₁ with heap := h₁, toks := tk } mg mb fa o pm cd doc a vs ns G Y ho (fd_plain hd) hcd hmg hobj hints hlen hg rfl F X) (fun f s' hq => ?_) (fun _ _ hq => hq)
    obtain ⟨rfl, h2, h3, h4⟩ := hq
    exact ⟨.inl ⟨.bool true, .bool true, [], rfl, fun _ => rfl, .bool true, post_true l _, fun _ => ⟨List.Pairwise.nil, fun _ hm => (nomatch hm)⟩⟩, h2, h3, h4⟩

/-- the same from a codeAny of the CALL (for a layer whose function contracts speak of calls) -/
theorem attach_call {l : OpenLaw} {n : Nat} {q : Program} {loose : List Str} {XP : (Str → Option Value) → Heap → Prop} {YP : World → Heap → Prop} {d : DefRec}
    (hn : l.most = some n) (hdf : d.params.defaults = [])
    (call : ∀ (w : World) (s₀ s₁ : Shared) (mg mb : Str → Option Value) (fa : Addr) (o : Obj) (pm cd doc : Value) (a : Addr) (vs : List Value) (ns : List Int),
      Ground q loose [] XP w s₀ mg mb s₁.heap → YP w s₁.heap →
      s₁.heap.get? fa = some o → o.data = .func (docDef d.name d.params d.body d.scope pm cd doc) → s₁.heap.CodeRec cd d.name → mg d.name = some (.ref fa) →
      s₁.heap.get? a = some { cls := .type "list", data := .seq vs.toArray } → IntsAre vs ns → ns.length ≤ n → s₁.gens = #[] →
      codeAny (model l.prog w) callerA (.call (.ref fa) ⟨[.ref a], []⟩) (fun r s' => r = .ok (.ret (.bool true)) ∧ OldK s₁.heap s'.heap ∧ s'.os = s₁.os ∧ AllBare s'.gens) s₁) :
    WalkO q loose XP YP l.row.toRowW d [] (fun f vs => PySem.call f vs) := by
  intro w s₀ s₁ mg mb G Y fa o pm cd doc dV kV ho hd hcd hD hmg hg args vals as hpre hlay hrd hwl hlo
  obtain rfl : dV = .none := Dflts.none hD hdf
  obtain rfl : kV = .none := Dflts.noKw hD
  obtain ⟨a, vs, ns, rfl, rfl, hobj, hints, hlen⟩ := script_of hn hpre hwl
  refine enter_call (codeAny_mono (call w s₀ s₁ mg mb fa o pm cd doc a vs ns G Y ho (fd_plain hd) hcd hmg hobj hints hlen hg) fun r s' hq => ?_)
  obtain ⟨rfl, h2, h3, h4⟩ := hq
  exact ⟨.inl ⟨.bool true, .bool true, [], rfl, fun _ => rfl, .bool true, post_true l _, fun _ => ⟨List.Pairwise.nil, fun _ hm => (nomatch hm)⟩⟩, h2, h3, h4⟩

/-- the same where the top left finished generators (o_head chose holds_openN): nothing may have changed at all and no generator may be left -/
theorem attachN {l : OpenLaw} {n : Nat} {q : Program} {loose : List Str} {XP : (Str → Option Value) → Heap → Prop} {YP : World → Heap → Prop} {d : DefRec} {x : Str}
    (hn : l.most = some n) (hdf : d.params.defaults = [])
    (hbind : ∀ pm cd doc v : Value, bindArgs (docDef d.name d.params d.body d.scope pm cd doc) ⟨[v], []⟩ = pure [(x, v)])
    (hx : d.scope.names.lookup x = some .local ∨ d.scope.names.lookup x = some .cell)
    (hk : d.scope.kind = .function) (hco : d.scope.isCoroutine = false) (hgen : d.scope.isGenerator = false)
    (body : ∀ (w : World) (s₀ s₁ s : Shared) (mg mb : Str → Option Value) (fa : Addr) (o : Obj) (pm cd doc : Value) (a : Addr) (vs : List Value) (ns : List Int),
      Ground q loose [] XP w s₀ mg mb s₁.heap → YP w s₁.heap →
      s₁.heap.get? fa = some o → o.data = .func (docDef d.name d.params d.body d.scope pm cd doc) → s₁.heap.CodeRec cd d.name → mg d.name = some (.ref fa) →
      s₁.heap.get? a = some { cls := .type "list", data := .seq vs.toArray } → IntsAre vs ns → ns.length ≤ n →
      s.gens = #[] → s.os = s₁.os →
      Fr s₁.heap s₁.heap.objs.size s.heap (bindL (envOfC d.name d.scope s₁.heap.objs.size fa cd).kindOf [(x, .ref a)] fun _ => none) →
      Cl s₁.heap.objs.size (cellsFrom (s₁.heap.objs.size + 1) d.scope.names []) s.heap (bindC (envOfC d.name d.scope s₁.heap.objs.size fa cd).kindOf [(x, .ref a)] fun _ => none) →
      wpAny (model l.prog w) (callerA.deeper (envOfC d.name d.scope s₁.heap.objs.size fa cd)) (execs d.body (envOfC d.name d.scope s₁.heap.objs.size fa cd))
        (fun f s' => f = .ret (.bool true) ∧ (∀ b o, s₁.heap.get? b = some o → s'.heap.get? b = some o) ∧ s'.os = s₁.os ∧ s'.gens = #[]) (fun _ _ => False) s) :
    WalkN q loose XP YP l.row.toRowW d [] (fun f vs => PySem.call f vs) := by
  intro w s₀ s₁ mg mb G Y fa o pm cd doc dV kV ho hd hcd hD hmg hg args vals as hpre hlay hrd hwl hlo
  obtain rfl : dV = .none := Dflts.none hD hdf
  obtain rfl : kV = .none := Dflts.noKw hD
  obtain ⟨a, vs, ns, rfl, rfl, hobj, hints, hlen⟩ := script_of hn hpre hwl
  refine enter_callW ?_
  refine call_cells_ret (o := o) (by rw [depth_caller]; decide) ho (fd_plain hd) G.T.nolimit hcd (hbind pm cd doc (.ref a)) (fun y hy => ?_) (fun h₁ tk F X => ?_) hco hgen hk
  · obtain rfl : y = (x, Value.ref a) := List.mem_singleton.mp hy
    rcases hx with e | e
    · exact .inl e
    · exact .inr ⟨e, cellsFrom_some _ _ _ (.inl e)⟩
  · refine wpAny_mono (body w s₀ s₁ { s₁ with heap := h₁, toks := tk } mg mb fa o pm cd doc a vs ns G Y ho (fd_plain hd) hcd hmg hobj hints hlen hg rfl F X) (fun f s' hq => ?_) (fun _ _ hq => hq)
    obtain ⟨rfl, h2, h3, h4⟩ := hq
    exact ⟨.inl ⟨.bool true, .bool true, [], rfl, fun _ => rfl, .bool true, post_true l _, fun _ => ⟨List.Pairwise.nil, fun _ hm => (nomatch hm)⟩⟩, h2, h3, h4⟩

/-! ### rules over ANY heap (no ledger) from facts about the written part K: the library's own take a ledger (News) for what they write -/
section
variable {prog : Program} {w : World} {A : Around} {E : Value → Shared → Prop} {s : Shared} {K : Frag}

/-- a def of the module, or a method (qual 'C.m'), entered: the frame is the next address; cells behind it -/
theorem call_fn {R : Result → Shared → Prop} {name qual : Str} {params : Arguments} {body : List Stmt} {scope : Scope} {dV kV doc pm cdv ct oc : Value} {an od : Option Addr} {osl : Array (Option Value)} {f : Addr} {args : Args} {binds : List (Str × Value)}
    (X : K.In s.heap) (hlim : s.heap.NoLimit) (ho : K.lookup f = some ⟨oc, od, .func (fnOf name qual params body scope dV kV doc pm an cdv ct), osl⟩) (hcd : codeIn K cdv qual = true) (hroom : A.depth < recursionLimit)
    (hbind : BindsTo s (fnOf name qual params body scope dV kV doc pm an cdv ct) args binds)
    (hkind : (binds.all fun y => scope.names.lookup y.1 == some .local || scope.names.lookup y.1 == some .cell) = true)
    (h : ∀ s₁, InCallC s s.heap.objs.size (bindL (envOfC qual scope s.heap.objs.size f cdv).kindOf binds fun _ => none) (cellsFrom (s.heap.objs.size + 1) scope.names [])
        (bindC (envOfC qual scope s.heap.objs.size f cdv).kindOf binds fun _ => none) s₁ →
      wpAny (model prog w) (A.deeper (envOfC qual scope s.heap.objs.size f cdv)) (execs body (envOfC qual scope s.heap.objs.size f cdv))
        (fun fl s' => R (.ok (.ret (match fl with | .ret v => v | _ => .none))) s')
        (fun e s' => wpAny (model prog w) (A.deeper (envOfC qual scope s.heap.objs.size f cdv)) (leaving (envOfC qual scope s.heap.objs.size f cdv) e) (fun _ s'' => R (.error e) s'') (fun e' s'' => R (.error e') s'') s') s₁)
    (hco : scope.isCoroutine = false) (hgen : scope.isGenerator = false) (hk : scope.kind = .function) : codeAny (model prog w) A (.call (.ref f) args) R s := by
  refine codeAny_call_function hroom (X _ _ ho) rfl hco hgen rfl (codeRec_of X hcd) (hbind _ _ _ _ ?_)
  refine wpAny_newFunctionEnv_cells hk (kindsX hkind _) fun env he s₁ x => ?_
  subst he
  exact ⟨hlim.keeps x.toInCall.keep, codeAny_func (h s₁ x)⟩

/-- C(..): dict at size, instance at size + 1, then __init__ -/
theorem make_obj {R : Result → Shared → Prop} {C fI : Addr} {rest : List Value} {kw : List (Str × Value)}
    (X : K.In s.heap) (hm : makesIn K C = true) (hi : findIn K (.ref C) "__init__" = some (some (.ref fI))) (hf : isFn K (.ref fI) = true)
    (h : codeAny (model prog w) (A.under (.builtin "type.__call__" ⟨.ref C :: rest, kw⟩)) (.call (.ref fI) ⟨.ref (s.heap.objs.size + 1) :: rest, kw⟩) (InitBack (s.heap.objs.size + 1) R)
      { s with heap := (s.heap.push emptyDict).push (instObj C s.heap.objs.size) }) : codeAny (model prog w) A (.call (.ref C) ⟨rest, kw⟩) R s := by
  obtain ⟨hh, g, d, t, os⟩ := s
  exact make_core (makes_of X hm) (looks_findIn X hi) (fun self => bind_fn X self (beq_iff_eq.mp hf)) (.inl rfl) h

/-- x.name where the instance's dict holds the name and the class does not -/
theorem get_field {x C : Addr} {ox : Obj} {es : List DictEntry} {n : Nat} {name : Str} {expr : Bool} {v : Value} {Q : Value → Shared → Prop}
    (X : K.In s.heap) (I : PySem.W.InstAt s.heap x ox C (some (dictOf es n))) (hg : plainGet K C name = true) (hh : hasDictIn K C = true) (ha : findIn K (.ref C) name = some none)
    (hl : getL name es = some (some v)) (hv : handedIn v = true) (h : Q v { s with toks := s.toks + 1 }) : wpAny (model prog w) A (getAttr (.ref x) name expr) Q E s :=
  get_value X I (plainGet_of hg).1 (findObj_own hh ha rfl hl) hv h

/-- x.m(..): the method found in the class -/
theorem get_method {x C f : Addr} {ox : Obj} {es : List DictEntry} {n : Nat} {name : Str} {pl : Sem Bool} {Q : Value × List Value → Shared → Prop}
    (X : K.In s.heap) (I : PySem.W.InstAt s.heap x ox C (some (dictOf es n))) (hg : plainGet K C name = true) (hf : findIn K (.ref C) name = some (some (.ref f))) (ht : isFn K (.ref f) = true)
    (hl : getL name es = some none) (h : Q (.ref f, [.ref x]) s) : wpAny (model prog w) A (getMethod (.ref x) name pl) Q E s :=
  method_fn X I (plainGet_of hg).1 (plainGet_of hg).2 hf (beq_iff_eq.mp ht) (by show (lookIn name (dictOf es n)).map _ = _; rw [lookIn_dict, hl]; rfl) h

/-! the whole heap as the ledger: makes every rule that writes through a ledger a rule over any heap -/
def noObjs (h : Heap) : Heap := { h with objs := #[] }
theorem noObjs_get (h : Heap) (b : Addr) : (noObjs h).get? b = none := by
  cases e : (noObjs h).get? b with
  | none => rfl
  | some o => exact absurd (Heap.lt_size e) (Nat.not_lt_zero _)
def ledger (h : Heap) (L d : Addr) : List (Addr × Obj) := (List.range h.objs.size).filterMap fun a => if a = L ∨ a = d then none else (h.get? a).map fun o => (a, o)
theorem mem_ledger {h : Heap} {L d a : Addr} {o : Obj} : (a, o) ∈ ledger h L d ↔ a ≠ L ∧ a ≠ d ∧ h.get? a = some o := by
  unfold ledger
  rw [List.mem_filterMap]
  constructor
  · rintro ⟨b, _, e⟩
    split at e
    · cases e
    · rename_i hb
      obtain ⟨o', ho, e'⟩ := Option.map_eq_some_iff.mp e
      cases e'
      exact ⟨fun q => hb (.inl q), fun q => hb (.inr q), ho⟩
  · rintro ⟨n1, n2, ho⟩
    refine ⟨a, List.mem_range.mpr (Heap.lt_size ho), ?_⟩
    rw [if_neg (show ¬ (a = L ∨ a = d) from fun q => q.elim n1 n2), ho] <;> rfl
theorem news_ledger {h : Heap} {L d : Addr} {od : Obj} (hne : d ≠ L) (ho : h.get? d = some od) : News (noObjs h) L h ([] ++ (d, od) :: ledger h L d) := by
  rintro ⟨a, o⟩ hp
  rcases List.mem_cons.mp hp with e | hp
  · cases e
    exact ⟨ho, hne, noObjs_get _ _⟩
  · obtain ⟨n1, n2, e⟩ := mem_ledger.mp hp
    exact ⟨e, n1, noObjs_get _ _⟩
theorem fr_all {h : Heap} {L : Addr} {m : Str → Option Value} (n : h.Ns L m) : Fr (noObjs h) L h m :=
  ⟨n, fun b o e => (by rw [noObjs_get] at e; cases e), Nat.zero_le _⟩
/-- Upd of the head entry (for append_K, setItem_K ..) -/
theorem upd_ledger {h : Heap} {L d : Addr} {o o' : Obj} : Upd d o o' ((d, o) :: ledger h L d) ((d, o') :: ledger h L d) :=
  .head fun ⟨_, _⟩ hp => (mem_ledger.mp hp).2.1

/-- x.name = v over any heap: L is any namespace of the heap (the frame's, say): its map stays, its object is not told; all else but the dict stays -/
theorem set_field {x C dx L : Addr} {ox : Obj} {m : Str → Option Value} {es es' : List DictEntry} {n n' : Nat} {name : Str} {v : Value} {Q : Unit → Shared → Prop}
    (X : K.In s.heap) (I : PySem.W.InstAt s.heap x ox C (some (dictOf es n))) (hd : ox.dict = some dx) (hL : s.heap.Ns L m) (hne : dx ≠ L)
    (hs : findIn K (.ref C) "__setattr__" = some (some (.builtin "object.__setattr__"))) (hp : plainOver K C = true) (ht : takerIn K C name = some none) (hh : hasDictIn K C = true) (hl : (getL name es).isSome = true)
    (e : (putL name (PyData.keyHash w.params name) (.str name (s.toks + 1)) v es, putN name es n) = (es', n')) (hz : es'.length ≤ 1000)
    (h : ∀ h' : Heap, h'.Ns L m → h'.get? dx = some (dictOf es' n') → (∀ b o, b ≠ dx → b ≠ L → s.heap.get? b = some o → h'.get? b = some o) → Q () { s with heap := h', toks := s.toks + 2 }) :
    wpAny (model prog w) A (setAttr (.ref x) name v) Q E s := by
  obtain ⟨e1, e2⟩ := Prod.mk.inj e
  have hdx : s.heap.get? dx = some (dictOf es n) := by
    have := I.dict
    rw [hd] at this
    exact this
  refine set_plain X I hs (osa_dict (s := { s with toks := s.toks + 1 }) (h₀ := noObjs s.heap) (L := L) (m := m) (od := dictOf es n) (od' := dictOf es' n') (es := es') (n := n') (pre := []) (post := ledger s.heap L dx)
    (fr_all hL) (news_ledger hne hdx) X I hd hp ht hh hl (fun _ q => nomatch q) (fun ⟨_, _⟩ q => (mem_ledger.mp q).2.1) (by rw [putName_dict, e1, e2]) rfl hz fun h' F' N' => ?_)
  exact h h' F'.ns (N'.get (List.Mem.head _)) fun b o n1 n2 ho => N'.get (List.Mem.tail _ (mem_ledger.mpr ⟨n2, n1, ho⟩))
end
end Att

namespace L2
open PySem PySem.Spec PyProof.Rows

theorem vals_ints : ∀ {vs : List Value} {ns : List Int}, IntsAre vs ns → Vals (ns.map V.int) vs
  | _, _, .nil => .nil
  | _, _, .cons n t h => .cons ⟨t, rfl⟩ (vals_ints h)

/-- nothing is tracked but the script, known to the object (or it is an object of the module) -/
def Only (H : Hp) : Prop := ∀ b, H b = none ∨ ∃ o xs, H b = some (.frz o (.lst xs))

/-- THE HEAD: the law's promise, at the heap behind the top. F, the promise of the law's def, may use that base is part of the heap (so K.In base, base.Ns mainGlobals mg stand in Mod) -/
theorem law_call {P : Program} {w : World} {K : PySem.W.Frag} {mg mb : Str → Option Value} {CX : CXT} {k : Nat} {fa a : Addr} {fd : FuncData} {x : Str} {sp : Sp} {s₁ : Shared} {vs : List Value} {ns : List Int}
    (KX : K.In s₁.heap) (hns : s₁.heap.Ns mainGlobals mg) (hb : s₁.heap.Ns builtinsNs mb) (hbb : ∀ x : Str, x ≠ "__name__" → mb x = bootBuiltins x) (hlim : s₁.heap.NoLimit) (hg : s₁.gens = #[])
    (ha : s₁.heap.get? a = some { cls := .type "list", data := .seq vs.toArray }) (hi : IntsAre vs ns) (hl : ns.length ≤ sizeLine) (hr : Room k callerA)
    (F : ∀ base : Heap, K.In base → base.Ns mainGlobals mg → FnOk P w K mg base CX k fa fd [x] sp) (hbind : ∀ (s : Shared) (u : Value), BindsTo s fd ⟨[u], []⟩ [(x, u)])
    (hsp : ∀ H : Hp, Only H → SqL K H a (ns.map V.int) → sp [.ref a] H (fun v _ => v = .bl true) fun _ _ _ => False)
    (hCX : ∀ H e s', CX [] H s₁ (fun _ _ _ => False) e s' → False) :
    codeAny (model P w) callerA (.call (.ref fa) ⟨[.ref a], []⟩) (fun r s' => r = .ok (.ret (.bool true)) ∧ OldK s₁.heap s'.heap ∧ s'.os = s₁.os ∧ AllBare s'.gens) s₁ := by
  have rv := vals_ints hi
  have lenV := hi.length
  -- from an abstract heap in which nothing but the script may be tracked
  have core : ∀ H : Hp, Only H → SqL K H a (ns.map V.int) → HOk P w H s₁.heap → (∀ b, H b ≠ none → b = a) → (H a ≠ none → K.lookup a = none) →
      codeAny (model P w) callerA (.call (.ref fa) ⟨[.ref a], []⟩) (fun r s' => r = .ok (.ret (.bool true)) ∧ OldK s₁.heap s'.heap ∧ s'.os = s₁.os ∧ AllBare s'.gens) s₁ := by
    intro H hO hS hok hA hK
    have base_of : ∀ {b : Addr} {o : Obj}, s₁.heap.get? b = some o → H b = none → (hidT s₁.heap H).get? b = some o := fun e n => hidT_get e n
    have noA : ∀ {b : Addr} {o : Obj} {es : Array DictEntry} {ep : Nat}, s₁.heap.get? b = some o → o.data = .dict es ep → H b = none := fun {b o es ep} e d => by
      cases q : H b with
      | none => rfl
      | some u =>
        have e' : b = a := hA b (by rw [q]; simp)
        subst e'
        rw [ha] at e; cases e
        have d' : Data.seq vs.toArray _ = Data.dict es ep := d
        cases d'
    have nsK : ∀ {b : Addr} {m : Str → Option Value}, s₁.heap.Ns b m → (hidT s₁.heap H).Ns b m := fun {b m} ⟨o, es, ep, e, d, r⟩ => ⟨o, es, ep, base_of e (noA e d), d, r⟩
    have hKb : K.In (hidT s₁.heap H) := fun b o e => base_of (KX b o e) (by
      cases q : H b with
      | none => rfl
      | some u =>
        have e' : b = a := hA b (by rw [q]; simp)
        subst e'
        rw [hK (by rw [q]; simp)] at e; cases e)
    have hM : Mod K mg (hidT s₁.heap H) := ⟨hKb, nsK hns, ⟨mb, nsK hb, hbb⟩, let ⟨mc, h1, h2⟩ := hlim; ⟨mc, nsK h1, h2⟩⟩
    have e0 : Env0 P w K mg (hidT s₁.heap H) callerA [] s₁ H := ⟨rfl, hM, fun b o e => of_hidT e, Nat.le_of_eq (hidT_size _ _), trivial, fun b hb => absurd (show b ∈ ([] : List Addr) from hb) (by simp), hok, .of_eq hg⟩
    refine codeAny_mono ((F _ hKb (nsK hns)).run callerA [] s₁ H ⟨[.ref a], []⟩ [.ref a] [.ref a] _ _ hr e0 (hbind s₁ (.ref a)) (.cons rfl .nil) (hsp H hO hS)) fun r s' h => ?_
    cases r with
    | error e => exact (hCX H e s' h).elim
    | ok fl =>
      cases fl with
      | next => exact False.elim h
      | brk => exact False.elim h
      | cont => exact False.elim h
      | ret u =>
        obtain ⟨v, H', os, bare, un, hok', r', q⟩ := h
        have q' : v = .bl true := q
        subst q'
        obtain rfl : u = Value.bool true := r'
        refine ⟨rfl, OldK.of_keep fun b o e => ?_, os, bare⟩
        cases q : H b with
        | none => exact un.keep b o e q (by intro z; exact absurd (show b ∈ ([] : List Addr) from z) (by simp)) (by simp)
        | some u =>
          rcases hO b with z | ⟨ob, xs, z⟩
          · rw [q] at z; cases z
          · have z2 := un.frzs b ob _ z
            obtain ⟨e1, _⟩ := hok b _ z
            obtain ⟨e2, _⟩ := hok' b _ z2
            rw [e] at e1; cases e1
            exact e2
  cases hk : K.lookup a with
  | some o =>
    -- the script is one of the module's own objects
    have e := KX a o hk
    rw [ha] at e
    cases e
    refine core (fun _ => none) (fun _ => .inl rfl) (.inr ⟨_, vs.toArray, _, hk, rfl, rfl, rfl, by rw [List.size_toArray, lenV]; exact hl, by simpa using rv⟩) (fun b u z => by have z' : (none : Option HO) = some u := z; cases z') (fun b z => absurd rfl z) fun z => absurd rfl z
  | none =>
    refine core (fun b => if b = a then some (.frz { cls := .type "list", data := .seq vs.toArray } (.lst (ns.map V.int))) else none) (fun b => ?_) (.inl (.inr ⟨{ cls := .type "list", data := .seq vs.toArray }, if_pos rfl⟩)) (fun b u z => ?_) (fun b z => ?_) fun _ => hk
    · by_cases hb : b = a
      · exact .inr ⟨_, _, if_pos hb⟩
      · exact .inl (if_neg hb)
    · by_cases hb : b = a
      · have z' := (if_pos hb).symm.trans z
        cases z'
        subst hb
        exact ⟨ha, by rw [List.length_map]; exact hl, vs, _, rv, ha⟩
      · have z' := (if_neg hb).symm.trans z
        cases z'
    · by_cases hb : b = a
      · exact hb
      · exact absurd (if_neg hb) z
end L2

namespace L2
open PySem PySem.Spec PyProof.Rows

abbrev KOf {K : PySem.W.Frag} {h : Heap} (_ : K.In h) : PySem.W.Frag := K

/-- the goal that k_head leaves (case hc), from the law's promise. F gives the function object fd (K's own) once, then the promise over every base -/
theorem walk_of {l : PySem.W.OpenLaw} {n k : Nat} {q : Program} {loose : List Str} {XP : (Str → Option Value) → Heap → Prop} {YP : World → Heap → Prop} {d : DefRec} {K : Params → PySem.W.Frag} {CX : World → CXT} {sp : World → Sp} {x : Str}
    (hn : l.most = some n) (hn2 : n ≤ sizeLine) (hdf : d.params.defaults = []) (hr : Room k callerA)
    (hY : ∀ (w : World) (h : Heap), YP w h → (K w.params).In h)
    (F : ∀ (w : World) (mg : Str → Option Value) (fa : Addr) (h : Heap), (K w.params).In h → h.Ns mainGlobals mg → mg d.name = some (.ref fa) →
      ∃ fd : FuncData, (∀ (s : Shared) (u : Value), BindsTo s fd ⟨[u], []⟩ [(x, u)]) ∧
        ∀ base : Heap, (K w.params).In base → base.Ns mainGlobals mg → FnOk l.prog w (K w.params) mg base (CX w) k fa fd [x] (sp w))
    (hsp : ∀ (w : World) (H : Hp) (a : Addr) (ns : List Int), ns.length ≤ n → Only H → SqL (K w.params) H a (ns.map V.int) → sp w [.ref a] H (fun v _ => v = .bl true) fun _ _ _ => False)
    (hCX : ∀ (w : World) (H : Hp) (s : Shared) (e : Value) (s' : Shared), CX w [] H s (fun _ _ _ => False) e s' → False) :
    PySem.W.WalkO q loose XP YP l.row.toRowW d [] (fun f vs => PySem.call f vs) := by
  refine Att.attach_call hn hdf fun w s₀ s₁ mg mb fa o pm cd doc a vs ns G Y ho hd hcd hmg hobj hints hlen hg => ?_
  have KX := hY w _ Y
  obtain ⟨fd, hb, hF⟩ := F w mg fa _ KX G.T.g hmg
  exact law_call KX G.T.g G.T.b G.T.builtins G.T.nolimit hg hobj hints (Nat.le_trans hlen hn2) hr hF hb (fun H hO hS => hsp w H a ns hlen hO hS) fun H e s' => hCX w H s₁ e s'
/-- the same where the promise hangs on the written part alone: (sp := My.sp_law), no hole under a binder -/
theorem walk_ofK {l : PySem.W.OpenLaw} {n k : Nat} {q : Program} {loose : List Str} {XP : (Str → Option Value) → Heap → Prop} {YP : World → Heap → Prop} {d : DefRec} {K : Params → PySem.W.Frag} {CX : CXT} {sp : PySem.W.Frag → Sp} {x : Str}
    (hn : l.most = some n) (hn2 : n ≤ sizeLine) (hdf : d.params.defaults = []) (hr : Room k callerA)
    (hY : ∀ (w : World) (h : Heap), YP w h → (K w.params).In h)
    (F : ∀ (w : World) (mg : Str → Option Value) (fa : Addr) (h : Heap), (K w.params).In h → h.Ns mainGlobals mg → mg d.name = some (.ref fa) →
      ∃ fd : FuncData, (∀ (s : Shared) (u : Value), BindsTo s fd ⟨[u], []⟩ [(x, u)]) ∧
        ∀ base : Heap, (K w.params).In base → base.Ns mainGlobals mg → FnOk l.prog w (K w.params) mg base CX k fa fd [x] (sp (K w.params)))
    (hsp : ∀ (K : PySem.W.Frag) (H : Hp) (a : Addr) (ns : List Int), ns.length ≤ n → Only H → SqL K H a (ns.map V.int) → sp K [.ref a] H (fun v _ => v = .bl true) fun _ _ _ => False)
    (hCX : ∀ (H : Hp) (s : Shared) (e : Value) (s' : Shared), CX [] H s (fun _ _ _ => False) e s' → False) :
    PySem.W.WalkO q loose XP YP l.row.toRowW d [] (fun f vs => PySem.call f vs) :=
  walk_of (K := K) (CX := fun _ => CX) (sp := fun w => sp (K w.params)) hn hn2 hdf hr hY F (fun w H a ns h1 h2 h3 => hsp (K w.params) H a ns h1 h2 h3) fun _ H s e s' => hCX H s e s'
end L2

/- THE LAST THEOREM (shape; LID, My.* are yours):
   My.Adr: a structure of the addresses that your layer names (classes, functions); My.Txt K t: a structure (Prop) of the equations over K;
   My.txt_mk : {K} {implicit addresses ..} (e1 : nsIn K mainGlobals "law" = some (some (.ref f))) (e2 : K.lookup f = some ⟨oc, od, .func (fnOf "law" "law" params body scope dV kV doc pm an cdv ct), sl⟩) (e3 : codeIn K cdv "law" = true) .. : ∃ t, My.Txt K t

set_option maxRecDepth 100000 in
set_option maxHeartbeats 0 in
theorem PySem.Challenge.cw_LID_holds : PySem.Challenge.rw_LID.Holds := by
  w_on; o_law; k_head; (case hw => w_witness2)
  k_fill
  refine L2.walk_of (l := PySem.Challenge.rw_LID) (n := 63) (k := 40) (x := "script") (CX := fun w => ..) (sp := fun _ => My.sp_law) rfl (by decide) rfl ⟨rfl, by decide, by decide⟩ (fun w h Y => PySem.W.kIn_of Y) ?F ?S ?C
  case F =>
    intro w mg fa h KX G hmg
    have T : ∃ t, My.Txt (L2.KOf KX) t := by
      dsimp only [L2.KOf]                          -- K must stand as «<heap const> w.params» for k_is
      refine' My.txt_mk ?e1 ?e2 ?e3 ..
      (case e1 => PySem.W.k_is)                    -- in the order: a name -> its address -> its object -> its parts
      (case e2 => PySem.W.k_is)
      ..
    obtain ⟨t, T⟩ := T
    have e0 := hmg.symm.trans (PySem.W.mg_of KX G T.law)
    cases e0                                       -- fa is the law's own address
    exact ⟨_, fun s u => .of_eq rfl, fun base kb nb => My.law_fn T kb nb⟩     -- if «.of_eq rfl» comes too early: refine' ⟨_, ?b, fun base kb nb => My.law_fn T kb nb⟩; exact fun s u => .of_eq rfl
  case S => exact fun w H a ns hl hO hS => ..
  case C => exact ..
(the tactic k_is has no namespace: write k_is) -/

/-! SHORT WORDS over the layer: a def of the text, its body, what a loop and a test want. -/
namespace L2
open PySem PySem.Spec PyProof.Rows

/-! ### the text by places -/
/-- the j-th statement of a class's body -/
def inClass (s : Stmt) (j : Nat) : Stmt := match s with
  | .ClassDef _ _ _ body _ _ _ _ _ _ _ => body.getD j (.Pass ⟨0, 0, 0, 0⟩)
  | _ => .Pass ⟨0, 0, 0, 0⟩
def defArgs (s : Stmt) : Arguments := match s with
  | .FunctionDef _ a _ _ _ _ _ _ _ _ => a
  | _ => { posonlyargs := [], args := [], vararg := none, kwonlyargs := [], kw_defaults := [], kwarg := none, defaults := [] }
def defBody (s : Stmt) : List Stmt := match s with
  | .FunctionDef _ _ b _ _ _ _ _ _ _ => b
  | _ => []
def defScope (s : Stmt) : Scope := match s with
  | .FunctionDef _ _ _ _ _ _ sc _ _ _ => sc
  | _ => { kind := .function, names := [], isGenerator := false, isCoroutine := false }

/-! ### no exception leaves a def -/
abbrev CX0 : CXT := fun _ _ _ _ _ _ => False
abbrev E0 : XK := fun _ _ _ => False
theorem pass0 {X : Cx} : Passes CX0 X E0 := fun _ _ _ _ _ _ _ h => h.elim

/-! ### a def (or method) of the text as it stands behind the top -/
structure Fun (K : PySem.W.Frag) (x qual : Str) (st : Stmt) (f : Addr) (fd : FuncData) : Prop where
  ex : ∃ (oc : Value) (od : Option Addr) (kV doc pm : Value) (an : Option Addr) (cdv ct : Value) (osl : Array (Option Value)),
    fd = PySem.W.fnOf x qual (defArgs st) (defBody st) (defScope st) .none kV doc pm an cdv ct ∧ K.lookup f = some ⟨oc, od, .func fd, osl⟩ ∧ PySem.W.codeIn K cdv qual = true
  kp : PySem.W.keepIn K (.ref f) = true
section
variable {P : Program} {w : World} {K : PySem.W.Frag} {mg : Str → Option Value} {base : Heap}
/-- THE RULE for a def: its body as a term of rules, and the reading of that term -/
theorem Fun.ok {x qual : Str} {st : Stmt} {f : Addr} {fd : FuncData} {N ps : List Str} {k : Nat} {sp : Sp} (F : Fun K x qual st f fd) (S : FnScope N ps (defScope st)) (len : ∀ vs H Q E, sp vs H Q E → vs.length = ps.length)
    (hbody : ∀ (cdv : Value) (A : Around) (outer : List Env) (s : Shared) (H : Hp) (vs : List V) (Q : VK) (E : XK), Room k (A.deeper (envOfC qual (defScope st) s.heap.objs.size f cdv)) → sp vs H Q E →
      ∃ t, PSs (cxOf CX0 P w K mg base N qual (defScope st) f cdv A outer s H E).nox (defBody st) t ∧ t { nx := fun _ H' => Q .non H', rt := Q } (start N vs) H) : FnOk P w K mg base CX0 (k + 1) f fd ps sp := by
  obtain ⟨oc, od, kV, doc, pm, an, cdv, ct, osl, rfl, lk, hcd⟩ := F.ex
  refine fn_of lk hcd S len fun A outer s H vs Q E hr hsp => ?_
  obtain ⟨t, h, q⟩ := hbody cdv A outer s H vs Q E hr hsp
  exact ⟨t, h.nox, q⟩
/-- how its arguments bind (no defaults): h is «fun _ _ _ _ _ _ us hl => match us, hl with | [_, _], _ => rfl», one _ a parameter -/
theorem Fun.binds {x qual : Str} {st : Stmt} {f : Addr} {fd : FuncData} {ps : List Str} (F : Fun K x qual st f fd)
    (h : ∀ (kV doc pm : Value) (an : Option Addr) (cdv ct : Value) (us : List Value), us.length = ps.length → bindArgs (PySem.W.fnOf x qual (defArgs st) (defBody st) (defScope st) .none kV doc pm an cdv ct) ⟨us, []⟩ = pure (ps.zip us)) : Binds K fd ps [] := by
  obtain ⟨oc, od, kV, doc, pm, an, cdv, ct, osl, rfl, lk, hcd⟩ := F.ex
  exact .all (h kV doc pm an cdv ct)
theorem fun_mk {x qual : Str} {st : Stmt} {f : Addr} {oc : Value} {od an : Option Addr} {osl : Array (Option Value)} {kV doc pm cdv ct : Value} (l : K.lookup f = some ⟨oc, od, .func (PySem.W.fnOf x qual (defArgs st) (defBody st) (defScope st) .none kV doc pm an cdv ct), osl⟩)
    (c : PySem.W.codeIn K cdv qual = true) (k : PySem.W.keepIn K (.ref f) = true) : Fun K x qual st f (PySem.W.fnOf x qual (defArgs st) (defBody st) (defScope st) .none kV doc pm an cdv ct) := ⟨⟨oc, od, kV, doc, pm, an, cdv, ct, osl, rfl, l, c⟩, k⟩
end
theorem hu_of {A : Around} {k : Nat} (hr : Room k A) : A.units + 1 < cLine := Nat.lt_of_le_of_lt (Nat.add_le_add_left (by decide : 1 ≤ 64) _) hr.units
theorem small1000 {n : Nat} (h : n ≤ 1000) : n < sizeLine := Nat.lt_of_le_of_lt h (by decide)

/-! ### expressions in short: the name that stands in the i-th slot -/
section
variable {X : Cx}
theorem pv (i : Nat) {x : Str} {pos : Pos} (hN : X.N[i]? = some x := by rfl) (hv : Vis X.env.scope x := by first | exact Or.inl rfl | exact Or.inr (Or.inl rfl) | exact Or.inr (Or.inr rfl)) (hd : (x == ("__debug__" : Str)) = false := by decide)
    (hcd : (x == ("__classdict__" : Str)) = false := by decide) : PE X (.Name x pos) (tVar i) := pe_var hN hv hd hcd
end

/-! ### tests -/
theorem iteF {A B : Prop} (h : B) : if false = true then A else B := by
  rw [if_neg Bool.false_ne_true]
  exact h
theorem iteT {A B : Prop} (h : A) : if true = true then A else B := by
  rw [if_pos rfl]
  exact h
theorem ite2 {c A B : Prop} [Decidable c] (h1 : c → A) (h2 : ¬ c → B) : if c then A else B := by
  by_cases h : c
  · rw [if_pos h]
    exact h1 h
  · rw [if_neg h]
    exact h2 h
theorem iteNS {c A B : Prop} [Decidable c] (hc : c) (h : B) : if (!decide c) = true then A else B := by
  rw [decide_eq_true hc]
  exact iteF h

/-! ### heaps -/
/-- all that was tracked is as it was -/
def Same (H H' : Hp) : Prop := ∀ b o, H b = some o → H' b = some o
theorem Same.refl (H : Hp) : Same H H := fun _ _ h => h
theorem Same.trans {H H1 H2 : Hp} (a : Same H H1) (b : Same H1 H2) : Same H H2 := fun c o h => b c o (a c o h)
theorem Same.free {H H' : Hp} (e : Same H H') {l : Addr} (h : H' l = Option.none) : H l = Option.none := by
  cases q : H l with
  | none => rfl
  | some o =>
    rw [e l o q] at h
    cases h
theorem Same.seq {K : PySem.W.Frag} {H H' : Hp} {a : Addr} {xs : List V} (e : Same H H') (h : SqL K H a xs) : SqL K H' a xs := by
  rcases h with (h | ⟨o, h⟩) | h
  · exact .inl (.inl (e _ _ h))
  · exact .inl (.inr ⟨o, e _ _ h⟩)
  · exact .inr h

end L2
end
section
set_option Elab.async false
set_option linter.all false
set_option maxRecDepth 100000
set_option maxHeartbeats 4000000
namespace L2
open PySem PySem.Spec PyProof.Rows

/-! ### a comprehension's cells -/
def clFrom (env : Env) : List (Str × NameKind) → List (Str × Addr) → List (Str × Addr)
  | [], acc => acc
  | (x, k) :: r, acc => if k == .free then clFrom env r ((x, (env.cells.lookup x).getD 0) :: acc) else clFrom env r acc
theorem closure_of {sc : Scope} {env : Env} (h : ∀ x, (x, NameKind.free) ∈ sc.names → ∃ c, env.cells.lookup x = some c) : closureFor sc env = pure (clFrom env sc.names []) := by
  have key : ∀ (names : List (Str × NameKind)) (acc : List (Str × Addr)), (∀ x, (x, NameKind.free) ∈ names → ∃ c, env.cells.lookup x = some c) →
      (forIn names acc fun (x : Str × NameKind) (cs : List (Str × Addr)) => if (x.2 == NameKind.free) = true then (do let c ← cellOf env x.1; pure (ForInStep.yield ((x.1, c) :: cs))) else pure (ForInStep.yield cs)) = (pure (clFrom env names acc) : Sem (List (Str × Addr))) := by
    intro names
    induction names with
    | nil => intro acc _; rfl
    | cons p r ih =>
      intro acc hh
      obtain ⟨x, k⟩ := p
      rw [List.forIn_cons]
      unfold clFrom
      by_cases hk : (k == NameKind.free) = true
      · have hk' : k = .free := by simpa using hk
        subst hk'
        obtain ⟨c, hc⟩ := hh x List.mem_cons_self
        simp only [beq_self_eq_true, if_true]
        rw [← ih _ fun y hy => hh y (List.mem_cons_of_mem _ hy)]
        have : cellOf env x = pure c := by unfold cellOf; rw [hc]
        rw [this, hc]
        rfl
      · simp only [hk, Bool.false_eq_true, if_false]
        rw [← ih _ fun y hy => hh y (List.mem_cons_of_mem _ hy)]
        rfl
  simp only [closureFor]
  have q := key sc.names [] h
  refine Eq.trans ?_ (Eq.trans (congrArg (fun z => z >>= fun r => pure r) q) ?_)
  · rfl
  · rfl
theorem clFrom_mem {env : Env} : ∀ {names : List (Str × NameKind)} {acc : List (Str × Addr)} {p : Str × Addr}, p ∈ clFrom env names acc → p ∈ acc ∨ ((p.1, NameKind.free) ∈ names ∧ p.2 = (env.cells.lookup p.1).getD 0)
  | [], acc, p, h => .inl h
  | (x, k) :: r, acc, p, h => by
    unfold clFrom at h
    split at h
    · rename_i hk
      have hk' : k = .free := by simpa using hk
      subst hk'
      rcases clFrom_mem h with q | ⟨q, e⟩
      · rcases List.mem_cons.mp q with q | q
        · subst q; exact .inr ⟨List.mem_cons_self, rfl⟩
        · exact .inl q
      · exact .inr ⟨List.mem_cons_of_mem _ q, e⟩
    · rcases clFrom_mem h with q | ⟨q, e⟩
      · exact .inl q
      · exact .inr ⟨List.mem_cons_of_mem _ q, e⟩
theorem lookup_mem_some {α : Type} : ∀ {l : List (Str × α)} {x : Str} {v : α}, (x, v) ∈ l → ∃ u, l.lookup x = some u
  | (y, u) :: r, x, v, h => by
    rw [List.lookup_cons]
    cases hb : x == y with
    | true => exact ⟨u, rfl⟩
    | false =>
      rcases List.mem_cons.mp h with e | h
      · have : x = y := congrArg Prod.fst e
        subst this
        simp at hb
      · exact lookup_mem_some h
theorem clFrom_has {env : Env} : ∀ {names : List (Str × NameKind)} {acc : List (Str × Addr)} {x : Str}, (x, NameKind.free) ∈ names → (x, (env.cells.lookup x).getD 0) ∈ clFrom env names acc
  | (y, k) :: r, acc, x, h => by
    have mono : ∀ (names : List (Str × NameKind)) (acc : List (Str × Addr)) (p : Str × Addr), p ∈ acc → p ∈ clFrom env names acc := by
      intro names
      induction names with
      | nil => intro acc p hp; exact hp
      | cons q r ih =>
        intro acc p hp
        obtain ⟨a, b⟩ := q
        unfold clFrom
        split
        · exact ih _ _ (List.mem_cons_of_mem _ hp)
        · exact ih _ _ hp
    unfold clFrom
    rcases List.mem_cons.mp h with e | h
    · cases e
      simp only [beq_self_eq_true, if_true]
      exact mono _ _ _ List.mem_cons_self
    · split
      · exact clFrom_has h
      · exact clFrom_has h
theorem clFrom_lookup {env : Env} {names : List (Str × NameKind)} {x : Str} {c : Addr} (h : ∀ x, (x, NameKind.free) ∈ names → ∃ c, env.cells.lookup x = some c) (e : (clFrom env names []).lookup x = some c) : env.cells.lookup x = some c ∧ (x, NameKind.free) ∈ names := by
  rcases clFrom_mem (mem_of_lookup e) with q | ⟨q, e'⟩
  · cases q
  · obtain ⟨c', hc⟩ := h _ q
    dsimp only at hc e'
    rw [hc] at e'
    exact ⟨by rw [hc]; exact congrArg some e'.symm, q⟩
theorem clFrom_some {env : Env} {names : List (Str × NameKind)} {x : Str} {c : Addr} (h : ∀ x, (x, NameKind.free) ∈ names → ∃ c, env.cells.lookup x = some c) (hx : (x, NameKind.free) ∈ names) (e : env.cells.lookup x = some c) : (clFrom env names []).lookup x = some c := by
  obtain ⟨u, hu⟩ := lookup_mem_some (clFrom_has (env := env) (acc := []) hx)
  have := (clFrom_lookup h hu).1
  rw [this] at e
  rw [hu, e]
/-- a lookup in the cells of a block: its own (new), or one of the closure's -/
theorem cellsFrom_lookup : ∀ {names : List (Str × NameKind)} {n : Nat} {acc : List (Str × Addr)} {x : Str} {c : Addr}, (cellsFrom n names acc).lookup x = some c → (n ≤ c ∧ c < n + names.length ∧ (x, NameKind.cell) ∈ names) ∨ (acc.lookup x = some c ∧ (x, NameKind.cell) ∉ names)
  | [], n, acc, x, c, h => .inr ⟨h, by simp⟩
  | (y, k) :: r, n, acc, x, c, h => by
    unfold cellsFrom at h
    split at h
    · rename_i hk
      have hk' : k = .cell := by simpa using hk
      subst hk'
      rcases cellsFrom_lookup h with ⟨q1, q2, q3⟩ | ⟨q1, q2⟩
      · exact .inl ⟨Nat.le_of_succ_le q1, Nat.lt_of_lt_of_le q2 (by rw [List.length_cons]; omega), List.mem_cons_of_mem _ q3⟩
      · rw [List.lookup_cons] at q1
        cases hb : x == y with
        | true =>
          rw [hb] at q1
          cases q1
          have : x = y := by simpa using hb
          subst this
          exact .inl ⟨Nat.le_refl _, by rw [List.length_cons]; exact Nat.lt_add_of_pos_right (Nat.succ_pos _), List.mem_cons_self⟩
        | false =>
          rw [hb] at q1
          refine .inr ⟨q1, fun z => ?_⟩
          rcases List.mem_cons.mp z with e | z
          · have : x = y := congrArg Prod.fst e
            subst this
            simp at hb
          · exact q2 z
    · rename_i hk
      rcases cellsFrom_lookup h with ⟨q1, q2, q3⟩ | ⟨q1, q2⟩
      · exact .inl ⟨q1, Nat.lt_of_lt_of_le q2 (by rw [List.length_cons]; omega), List.mem_cons_of_mem _ q3⟩
      · refine .inr ⟨q1, fun z => ?_⟩
        rcases List.mem_cons.mp z with e | z
        · have : k = .cell := (congrArg Prod.snd e).symm
          subst this
          simp at hk
        · exact q2 z
theorem cellsFrom_apart : ∀ (names : List (Str × NameKind)) (n : Nat) (acc : List (Str × Addr)), (acc.Pairwise fun x y => x.2 ≠ y.2) → (∀ p ∈ acc, p.2 < n) → (cellsFrom n names acc).Pairwise fun x y => x.2 ≠ y.2
  | [], n, acc, h, _ => h
  | (y, k) :: r, n, acc, h, hl => by
    unfold cellsFrom
    split
    · refine cellsFrom_apart r (n + 1) _ (List.pairwise_cons.mpr ⟨fun p hp => ?_, h⟩) fun p hp => ?_
      · exact Nat.ne_of_gt (hl p hp)
      · rcases List.mem_cons.mp hp with e | hp
        · subst e; exact Nat.lt_succ_self _
        · exact Nat.lt_succ_of_lt (hl p hp)
    · exact cellsFrom_apart r n acc h hl
theorem cellsFrom_own {names : List (Str × NameKind)} {n : Nat} {acc : List (Str × Addr)} {x : Str} (h : names.lookup x = some .cell) : ∃ c, (cellsFrom n names acc).lookup x = some c :=
  Option.isSome_iff_exists.mp (PySem.W.cellsFrom_some names n acc (.inl h))
theorem cellsFrom_old {names : List (Str × NameKind)} {n : Nat} {acc : List (Str × Addr)} {x : Str} (h : (acc.lookup x).isSome = true) : ∃ c, (cellsFrom n names acc).lookup x = some c :=
  Option.isSome_iff_exists.mp (PySem.W.cellsFrom_some names n acc (.inr h))
/-- the new cells stand in the heap -/
theorem pushCells_new : ∀ (names : List (Str × NameKind)) (h : Heap) (acc : List (Str × Addr)) (x : Str) (c : Addr), (cellsFrom h.objs.size names acc).lookup x = some c → h.objs.size ≤ c → (∀ p ∈ acc, p.2 < h.objs.size) → (pushCells h names).IsCell c none
  | [], h, acc, x, c, e, hc, hl => absurd (hl _ (mem_of_lookup e)) (Nat.not_lt.mpr hc)
  | (y, k) :: r, h, acc, x, c, e, hc, hl => by
    unfold cellsFrom at e
    unfold pushCells
    split at e
    · rename_i hk
      rw [if_pos hk]
      by_cases hcc : c = h.objs.size
      · subst hcc
        exact ⟨_, pushCells_keeps _ _ _ _ (Heap.get?_push_size _ rfl), rfl⟩
      · have es : (h.push { cls := .type "cell", data := .cell none }).objs.size = h.objs.size + 1 := Heap.size_push ..
        refine pushCells_new r _ ((y, h.objs.size) :: acc) x c (by rw [es]; exact e) (by rw [es]; exact Nat.lt_of_le_of_ne hc (Ne.symm hcc)) fun p hp => ?_
        rw [es]
        rcases List.mem_cons.mp hp with e | hp
        · subst e; exact Nat.lt_succ_self _
        · exact Nat.lt_succ_of_lt (hl p hp)
    · rename_i hk
      rw [if_neg hk]
      exact pushCells_new r h acc x c e hc hl
end L2
end
section
set_option Elab.async false
set_option linter.all false
set_option maxRecDepth 100000
set_option maxHeartbeats 4000000
namespace L2
open PySem PySem.Spec PyProof.Rows

/-- the context of a comprehension's block, at its entry -/
def cxComp (X : Cx) (sc : Scope) (N : List Str) (s₀ : Shared) (H₀ : Hp) (ex : List Addr) (pn : List (Addr × Obj)) : Cx :=
  { X with N := N, s₀ := s₀, H₀ := H₀, env := compEnvC sc (cellsFrom (s₀.heap.objs.size + 1) sc.names (clFrom X.env sc.names [])) s₀.heap.objs.size X.env,
           outer := X.stack, ex := ex, fn := fun x => decide (sc.names.lookup x = some .cell), pn := pn, xe := fun _ _ => False }
/-- a block's scope within the outer one: its own names come first, then fr: the outer slots of the free ones -/
structure CompScope (NO : List Str) (scO : Scope) (N : List Str) (sc : Scope) (own : Nat) (fr : List Nat) : Prop where
  kind : sc.kind = .function
  nd : N.Nodup
  snd : (sc.names.map (·.1)).Nodup
  free : ∀ p ∈ sc.names, p.2 = .free → scO.names.lookup p.1 = some .cell ∨ scO.names.lookup p.1 = some .free
  frn : ∀ p ∈ (N.drop own).zip fr, NO[p.2]? = some p.1 ∧ sc.names.lookup p.1 = some .free
  len : N.length = own + fr.length
def startC (own : Nat) (fr : List Nat) (σ : St) : St := List.replicate own none ++ fr.map fun j => (σ[j]?).getD none

theorem lookup_of_nodup {α : Type} : ∀ {l : List (Str × α)} {x : Str} {k : α}, (l.map (·.1)).Nodup → (x, k) ∈ l → l.lookup x = some k
  | (y, u) :: r, x, k, nd, h => by
    rw [List.map_cons] at nd
    obtain ⟨h1, h2⟩ := List.nodup_cons.mp nd
    rw [List.lookup_cons]
    rcases List.mem_cons.mp h with e | h'
    · cases e; simp
    · have : x ≠ y := by
        intro e
        subst e
        exact h1 (List.mem_map.mpr ⟨(x, k), h', rfl⟩)
      rw [beq_eq_false_iff_ne.mpr this]
      exact lookup_of_nodup h2 h'
theorem lookup_relabel {env : Env} : ∀ {names : List (Str × NameKind)} {x : Str} {k : NameKind}, names.lookup x = some k →
    (names.map fun (n, k) => if (k == NameKind.free && env.scope.kind == .function && env.kindOf n == some .cell) then (n, NameKind.cell) else (n, k)).lookup x = some (if (k == NameKind.free && env.scope.kind == .function && env.kindOf x == some .cell) then .cell else k)
  | (n, k') :: r, x, k, h => by
    have ih := @lookup_relabel env r x k
    show List.lookup x ((if (k' == NameKind.free && env.scope.kind == .function && env.kindOf n == some .cell) = true then (n, NameKind.cell) else (n, k')) :: _) = _
    cases hx : x == n with
    | true =>
      have : x = n := by simpa using hx
      subst this
      simp only [List.lookup_cons, hx] at h
      cases h
      split <;> simp [List.lookup_cons]
    | false =>
      simp only [List.lookup_cons, hx] at h
      split
      · simp only [List.lookup_cons, hx]; exact ih h
      · simp only [List.lookup_cons, hx]; exact ih h
theorem lookup_relabel_none {env : Env} : ∀ {names : List (Str × NameKind)} {x : Str}, names.lookup x = none →
    (names.map fun (n, k) => if (k == NameKind.free && env.scope.kind == .function && env.kindOf n == some .cell) then (n, NameKind.cell) else (n, k)).lookup x = none
  | [], _, _ => rfl
  | (n, k') :: r, x, h => by
    have ih := @lookup_relabel_none env r x
    show List.lookup x ((if (k' == NameKind.free && env.scope.kind == .function && env.kindOf n == some .cell) = true then (n, NameKind.cell) else (n, k')) :: _) = _
    cases hx : x == n with
    | true => simp only [List.lookup_cons, hx] at h; cases h
    | false =>
      simp only [List.lookup_cons, hx] at h
      split
      · simp only [List.lookup_cons, hx]; exact ih h
      · simp only [List.lookup_cons, hx]; exact ih h

section
variable {X : Cx} {pins : List (Addr × Obj)} {σ : St} {H : Hp} {s : Shared} {NO N : List Str} {scO sc : Scope} {own : Nat} {fr : List Nat} {fp : List Addr}
theorem inv_comp {tk : Nat} (S : CompScope NO scO N sc own fr) (hN : X.N = NO) (hsc : X.env.scope = scO) (I : Inv X pins σ H s) (hf : ∀ b ∈ fp, FpOk X pins H b) (ho : ∀ b ∈ fp, ∃ o, s.heap.get? b = some o ∧ ∀ v, o.data ≠ .cell v) :
    Inv (cxComp X sc N s H fp (X.pn ++ pins)) [] (startC own fr σ) H { s with heap := pushCells (s.heap.push { cls := .type "dict", data := .dict #[] }) sc.names, toks := tk } := by
  have hfree : ∀ x, (x, NameKind.free) ∈ sc.names → ∃ c, X.env.cells.lookup x = some c := fun x hx => I.ok.has x (by
    show X.env.scope.names.lookup x = _ ∨ X.env.scope.names.lookup x = _
    rw [hsc]
    exact S.free _ hx rfl)
  have hclt : ∀ p ∈ clFrom X.env sc.names [], p.2 < s.heap.objs.size := fun p hp => by
    rcases clFrom_mem hp with q | ⟨q, e⟩
    · cases q
    · obtain ⟨c, hc⟩ := hfree _ q
      rw [e, hc]
      obtain ⟨v, o, ho, _⟩ := I.cell _ c hc
      exact Heap.lt_size ho
  have hsz : (s.heap.push { cls := .type "dict", data := .dict #[] }).objs.size = s.heap.objs.size + 1 := Heap.size_push ..
  have hk : ∀ b o, s.heap.get? b = some o → (pushCells (s.heap.push { cls := .type "dict", data := .dict #[] }) sc.names).get? b = some o := fun b o e => pushCells_keeps _ _ _ _ (Heap.get?_push_of_some _ e)
  have hcase : ∀ {x : Str} {c : Addr}, (cellsFrom (s.heap.objs.size + 1) sc.names (clFrom X.env sc.names [])).lookup x = some c → (s.heap.objs.size + 1 ≤ c ∧ (x, NameKind.cell) ∈ sc.names) ∨ (X.env.cells.lookup x = some c ∧ (x, NameKind.free) ∈ sc.names) := fun {x c} e => by
    rcases cellsFrom_lookup e with ⟨q1, _, q3⟩ | ⟨q1, _⟩
    · exact .inl ⟨q1, q3⟩
    · exact .inr (clFrom_lookup hfree q1)
  have clap : (clFrom X.env sc.names []).Pairwise fun x y => x.2 ≠ y.2 := by
    have key : ∀ (names : List (Str × NameKind)) (acc : List (Str × Addr)), (∀ p ∈ acc, X.env.cells.lookup p.1 = some p.2) → (∀ x, (x, NameKind.free) ∈ names → ∃ c, X.env.cells.lookup x = some c) → (acc.Pairwise fun x y => x.2 ≠ y.2) → (∀ p ∈ acc, (p.1, NameKind.free) ∉ names) → (names.map (·.1)).Nodup →
        (clFrom X.env names acc).Pairwise fun x y => x.2 ≠ y.2 := by
      intro names
      induction names with
      | nil => intro acc _ _ h _ _; exact h
      | cons p r ih =>
        intro acc h1 h2 h3 h4 h5
        obtain ⟨y, k⟩ := p
        rw [List.map_cons] at h5
        obtain ⟨n1, n2⟩ := List.nodup_cons.mp h5
        unfold clFrom
        split
        · rename_i hk
          have hk' : k = .free := by simpa using hk
          subst hk'
          obtain ⟨c, hc⟩ := h2 y List.mem_cons_self
          rw [hc]
          refine ih _ (fun p hp => ?_) (fun x hx => h2 x (List.mem_cons_of_mem _ hx)) (List.pairwise_cons.mpr ⟨fun p hp => ?_, h3⟩) (fun p hp => ?_) n2
          · rcases List.mem_cons.mp hp with e | hp
            · subst e; exact hc
            · exact h1 p hp
          · intro e
            have e' : p.2 = c := e.symm
            have := I.ok.inj _ _ _ hc (e' ▸ h1 p hp)
            exact h4 p hp (this ▸ List.mem_cons_self)
          · rcases List.mem_cons.mp hp with e | hp
            · subst e
              intro z
              exact n1 (List.mem_map.mpr ⟨_, z, rfl⟩)
            · intro z; exact h4 p hp (List.mem_cons_of_mem _ z)
        · exact ih acc h1 (fun x hx => h2 x (List.mem_cons_of_mem _ hx)) h3 (fun p hp z => h4 p hp (List.mem_cons_of_mem _ z)) n2
    exact key sc.names [] (fun p hp => by cases hp) hfree List.Pairwise.nil (fun p hp => by cases hp) S.snd
  have apart := cellsFrom_apart sc.names (s.heap.objs.size + 1) _ clap fun p hp => Nat.lt_succ_of_lt (hclt p hp)
  have hkd : ∀ x, (cxComp X sc N s H fp (X.pn ++ pins)).env.kindOf x = some .cell ∨ (cxComp X sc N s H fp (X.pn ++ pins)).env.kindOf x = some .free → (x, NameKind.cell) ∈ sc.names ∨ (x, NameKind.free) ∈ sc.names := fun x hx => by
    cases q : sc.names.lookup x with
    | none =>
      have e : (cxComp X sc N s H fp (X.pn ++ pins)).env.kindOf x = none := lookup_relabel_none q
      rw [e] at hx
      rcases hx with z | z <;> cases z
    | some k =>
      have e : (cxComp X sc N s H fp (X.pn ++ pins)).env.kindOf x = some _ := lookup_relabel (env := X.env) q
      rw [e] at hx
      have hm := mem_of_lookup q
      cases k <;> first | exact .inl hm | exact .inr hm | (rcases hx with z | z <;> cases z)
  have cellAt : ∀ x c, (cellsFrom (s.heap.objs.size + 1) sc.names (clFrom X.env sc.names [])).lookup x = some c → ∃ v, (pushCells (s.heap.push { cls := .type "dict", data := .dict #[] }) sc.names).IsCell c v := fun x c e => by
    rcases hcase e with ⟨q, _⟩ | ⟨q, _⟩
    · exact ⟨none, pushCells_new _ _ _ x c (by rw [hsz]; exact e) (by rw [hsz]; exact q) fun p hp => by rw [hsz]; exact Nat.lt_succ_of_lt (hclt p hp)⟩
    · obtain ⟨v, o, ho, hd⟩ := I.cell x c q
      exact ⟨v, o, hk _ _ ho, hd⟩
  have lt_of_cell : ∀ x c, X.env.cells.lookup x = some c → c < s.heap.objs.size := fun x c e => by
    obtain ⟨v, o, ho, hd⟩ := I.cell x c e
    exact Heap.lt_size ho
  have lt_of_fp : ∀ b ∈ fp, b < s.heap.objs.size := fun b hb => by
    obtain ⟨o, e, _⟩ := ho b hb
    exact Heap.lt_size e
  have okX : (cxComp X sc N s H fp (X.pn ++ pins)).Ok := by
    refine ⟨I.mod, S.kind, I.ok.glob, I.ok.blt, Nat.le_refl _, fun x y c h1 h2 => name_of_addr apart (mem_of_lookup h1) (mem_of_lookup h2), fun x hx => ?_, fun x c hx hc => ?_, I.ok.hd, I.ok.frames, .inl rfl, fun b hb => ⟨Nat.ne_of_lt (lt_of_fp b hb), fun x c e => ?_⟩, I.bs, Nat.le_trans I.ok.bsz I.sz, fun b o e hb => ?_, fun b hb z => ?_, I.stack, I.stkFree⟩
    · rcases hkd x hx with q | q
      · exact cellsFrom_own (lookup_of_nodup S.snd q)
      · obtain ⟨c, hc⟩ := hfree x q
        exact cellsFrom_old (by rw [clFrom_some hfree q hc]; rfl)
    · have hx' : sc.names.lookup x = some .cell := of_decide_eq_true hx
      rcases hcase hc with ⟨q, _⟩ | ⟨_, q⟩
      · exact Nat.le_of_succ_le q
      · rw [lookup_of_nodup S.snd q] at hx'; cases hx'
    · rcases hcase e with ⟨q, _⟩ | ⟨q, _⟩
      · exact Nat.ne_of_gt (Nat.lt_of_lt_of_le (lt_of_fp b hb) (Nat.le_of_succ_le q))
      · exact (hf b hb).2.2.2.2.1 x c q
    · rcases (hf b hb).2.2.2.1 with z | z
      · exact I.ok.noex b o e z
      · exact absurd (Heap.lt_size e) (Nat.not_lt.mpr (Nat.le_trans I.ok.bsz z))
    · rcases List.mem_cons.mp (I.stkSub b z) with q | q
      · exact (hf b hb).2.1 q
      · exact (hf b hb).2.2.1 q
  refine ⟨okX, rfl, I.bare, Un.kept hk, ⟨fun _ => none, (Heap.Ns.new s.heap (.type "dict")).keeps (pushCells_keeps _ _), fun i x v h1 h2 h3 => ?_⟩, cellAt, I.hok.fresh (Nat.le_refl _), fun x c e => ?_, fun p hp => ?_, I.hok.kept hk, ?_⟩
  · obtain ⟨m, _, hl⟩ := id I.loc
    have h2' : (startC own fr σ)[i]? = some (some v) := h2
    have hio : own ≤ i := by
      unfold startC at h2'
      refine Nat.le_of_not_lt fun hi => ?_
      rw [List.getElem?_append_left (by simpa using hi), List.getElem?_replicate] at h2'
      split at h2' <;> cases h2'
    obtain ⟨k, rfl⟩ := Nat.exists_eq_add_of_le hio
    have h1' : N[own + k]? = some x := h1
    unfold startC at h2'
    rw [List.getElem?_append_right (by simp)] at h2'
    simp only [List.length_replicate, Nat.add_sub_cancel_left, List.getElem?_map] at h2'
    cases hj : fr[k]? with
    | none => rw [hj] at h2'; cases h2'
    | some j =>
      rw [hj] at h2'
      have h2'' : (σ[j]?).getD none = some v := Option.some.inj h2'
      have hp : (x, j) ∈ (N.drop own).zip fr := by
        refine List.mem_of_getElem? (i := k) ?_
        rw [List.getElem?_zip_eq_some]
        exact ⟨by rw [List.getElem?_drop]; exact h1', hj⟩
      obtain ⟨f1, f2⟩ := S.frn _ hp
      have hσ : σ[j]? = some (some v) := by
        cases q : σ[j]? with
        | none => rw [q] at h2''; cases h2''
        | some w => rw [q] at h2''; exact congrArg some h2''
      have hxf : (x, NameKind.free) ∈ sc.names := mem_of_lookup f2
      have hko := S.free _ hxf rfl
      have hvis : Vis X.env.scope x := by rw [hsc]; exact .inr hko
      obtain ⟨u, ru, q⟩ := hl j x v (by rw [hN]; exact f1) hσ hvis
      refine ⟨u, ru, .inr ⟨?_, ?_⟩⟩
      · have e : (cxComp X sc N s H fp (X.pn ++ pins)).env.kindOf x = some _ := lookup_relabel (env := X.env) f2
        rw [e]
        split
        · exact .inl rfl
        · exact .inr rfl
      · rcases q with ⟨k1, _⟩ | ⟨_, c, hc, z⟩
        · have k1' : X.env.scope.names.lookup x = some .local := k1
          rw [hsc] at k1'
          rcases hko with z | z <;> rw [z] at k1' <;> cases k1'
        · obtain ⟨o, ho, hd⟩ := z
          refine ⟨c, ?_, o, hk _ _ ho, hd⟩
          have hcl := clFrom_some hfree hxf hc
          obtain ⟨c', hc'⟩ := cellsFrom_old (names := sc.names) (n := s.heap.objs.size + 1) (acc := clFrom X.env sc.names []) (x := x) (by rw [hcl]; rfl)
          rcases hcase hc' with ⟨_, z⟩ | ⟨z, _⟩
          · have := lookup_of_nodup S.snd z
            rw [f2] at this; cases this
          · rw [hc] at z; cases z; exact hc'
  · rcases hcase e with ⟨q, _⟩ | ⟨q, _⟩
    · exact I.hok.fresh (Nat.le_of_succ_le q)
    · exact I.freeC x c q
  · have hp' : p ∈ X.pn ++ pins := by simpa [cxComp] using hp
    obtain ⟨e, n, ne, nf, d⟩ := I.pin p hp'
    refine ⟨hk _ _ e, n, Nat.ne_of_lt (Heap.lt_size e), fun z => ?_, d⟩
    rcases List.mem_cons.mp (I.stkSub _ z) with q | q
    · exact ne q
    · exact nf q
  · show (startC own fr σ).length = N.length
    unfold startC
    rw [S.len]
    simp
end
end L2
end
section
set_option Elab.async false
set_option linter.all false
set_option maxRecDepth 100000
set_option maxHeartbeats 4000000
namespace L2
open PySem PySem.Spec PyProof.Rows

/-- what a turn of a comprehension does behind its tests -/
abbrev TB := St → Hp → (St → Hp → Prop) → Prop
def PB (X : Cx) (act : Sem Unit) (t : TB) : Prop :=
  ∀ (pins : List (Addr × Obj)) (s : Shared) (σ : St) (H : Hp) (Q : St → Hp → Prop), Inv X pins σ H s → t σ H Q → wpAny (model X.prog X.w) X.A act (fun _ s' => ∃ σ' H', Inv X pins σ' H' s' ∧ Q σ' H') X.xe s
/-- its tests -/
def PTs (X : Cx) (ifs : List Expr) (t : TT) : Prop :=
  ∀ (pins : List (Addr × Obj)) (s : Shared) (σ : St) (H : Hp) (Q : Bool → Hp → Prop), Inv X pins σ H s → t σ H Q →
    wpAny (model X.prog X.w) X.A (forIn ifs true fun c r => if r = true then do let ok ← isTrue c X.env (eval c X.env); pure (ForInStep.yield ok) else pure (ForInStep.yield r)) (TP X pins σ Q) X.xe s
def tYes : TT := fun _ H Q => Q true H
theorem pts_nil {X : Cx} : PTs X [] tYes := fun pins s σ H Q I h => wpAny_tests_nil ⟨H, I, h⟩
theorem pts_one {X : Cx} {c : Expr} {t : TT} (hc : PT X c t) : PTs X [c] t := fun pins s σ H Q I h => wpAny_tests_one (hc pins s σ H Q I h)

def tLoop (J : It) (g : TG) (tt : TT) (tb : TB) : TB := fun σ H Q => ∃ W : Nat → Nat → St → Hp → Prop, (∃ m, W 0 m σ H) ∧ ∀ i m σ H, W i m σ H →
  (J.stop i H ∧ Q σ H) ∨ (J.go i H ∧ ∀ x H', J.yld i H x H' → g x σ H' fun σ2 H2 => tt σ2 H2 fun b H3 => if b = true then tb σ2 H3 fun σ' H' => ∃ m', m' < m ∧ W (i + 1) m' σ' H' else ∃ m', m' < m ∧ W (i + 1) m' σ2 H3)

section
variable {X : Cx} {pins : List (Addr × Obj)} {s : Shared} {σ : St} {H : Hp} {tg : Expr} {e : Expr} {d : Nat} {acc : Value} {ifs : List Expr} {g : TG} {tt : TT} {tb : TB} {act : Sem Unit} {pos : Pos}
theorem loop_any (hx : ∀ e s, X.xe e s → False) (hc : X.calm = true) (hg : PG X tg g) (ht : PTs X ifs tt) (hb : PB X act tb)
    (heq : ∀ it, compTurn e d it acc X.env = (do
      standAt pos
      match ← pyNext it with
      | none => pure (.done .next)
      | some v =>
        letOwnedTupleGo tg it v
        assign tg X.env v
        let mut ok := true
        for c in ifs do
          if ok then ok ← isTrue c X.env (eval c X.env)
        if ok then
          act
        again (.compLoop e d it acc X.env)))
    (hqt : ∀ it, (Code.compLoop e d it acc X.env).quiet = true)
    (hden : ∀ it, (model X.prog X.w).den (.compLoop e d it acc X.env) = (compTurn e d it acc X.env).onRaise (fun x => do noteFrame x X.env; theTreesLotGoes x))
    (hund : ∀ it, X.A.under (.compLoop e d it acc X.env) = X.A)
    {it : Addr} {fp : List Addr} {tn : Nat → Heap → Prop} {J : It} {Q : St → Hp → Prop} {R : Result → Shared → Prop} (I : Inv X pins σ H s) (T : Turn X.prog X.w X.K tg J fp it tn) (st : tn 0 s.heap) (f : ∀ b ∈ fp, FpOk X pins H b)
    (h : tLoop J g tt tb σ H Q) (hR : ∀ σ' H' s', Inv X pins σ' H' s' → (∀ b ∈ fp, H' b = none) → Q σ' H' → R (.ok .next) s') : codeAny (model X.prog X.w) X.A (.compLoop e d (.ref it) acc X.env) R s := by
  obtain ⟨W, ⟨m0, w0⟩, turn⟩ := h
  have stat : ∀ {H' : Hp}, (∀ b ∈ fp, H' b = none) → ∀ b ∈ fp, FpOk X pins H' b := fun hn b hb => ⟨hn b hb, (f b hb).2⟩
  refine codeAny_loop (hqt _) (fun n s' => ∃ i σ' H', Inv X pins σ' H' s' ∧ tn i s'.heap ∧ (∀ b ∈ fp, H' b = none) ∧ W i n σ' H') ?_ m0 ⟨0, σ, H, I, st, fun b hb => (f b hb).1, w0⟩
  rintro n s3 ⟨i, σ3, H3, I3, st3, fr3, w3⟩
  rw [hden, hund]
  refine wpAny_noted ?_
  rw [heq]
  have nox : ∀ e' s', X.xe e' s' → notedBy (model X.prog X.w) X.A X.env (fun e s' => R (.error e) s') e' s' := fun e' s' z => (hx e' s' z).elim
  refine wpAny_bind (wpAny_standAt (wpAny_bind ?_))
  rcases turn i n σ3 H3 w3 with ⟨stop, qn⟩ | ⟨go, step⟩
  · refine wpAny_mono (T.done X rfl rfl rfl hc i pins s3 σ3 H3 X.xe I3 (stat fr3) st3 stop) (fun r s4 hr4 => ?_) nox
    obtain ⟨hr, I4⟩ := hr4
    subst hr
    exact wpAny_pure (hR σ3 H3 s4 I4 fr3 qn)
  · refine wpAny_mono (T.item X rfl rfl rfl hc i pins s3 σ3 H3 X.xe I3 (stat fr3) st3 go) (fun r s4 hr4 => ?_) nox
    obtain ⟨u, hr, h4⟩ := hr4
    subst hr
    refine wpAny_bind (wpAny_mono h4 (fun _ s5 h5 => ?_) nox)
    obtain ⟨x, H5, I5, r5, y5, st5, fr5⟩ := h5
    have I5' := I5.pinned (stat fr5) (T.obj _ _ st5)
    refine wpAny_bind (wpAny_mono (hg _ s5 σ3 H5 x u _ I5' r5 (step x H5 y5)) (fun _ s6 h6 => ?_) nox)
    obtain ⟨σ6, H6, I6, q6⟩ := h6
    refine wpAny_bind (wpAny_mono (ht _ s6 σ6 H6 _ I6 q6) (fun ok s7 h7 => ?_) nox)
    obtain ⟨H7, I7, q7⟩ := h7
    have again : ∀ {σ7 : St} {H7 : Hp} {s7 : Shared}, Inv X (pins ++ pinsAt fp s5.heap) σ7 H7 s7 → (∃ m', m' < n ∧ W (i + 1) m' σ7 H7) → ∃ m, m < n ∧ ∃ i σ' H', Inv X pins σ' H' s7 ∧ tn i s7.heap ∧ (∀ b ∈ fp, H' b = none) ∧ W i m σ' H' := fun {σ7 H7 s7} I7 n7 => by
      obtain ⟨m', hm, w7⟩ := n7
      refine ⟨m', hm, i + 1, σ7, H7, I7.unpinned, T.keep _ _ _ st5 fun b hb o e => (I7.pin (b, o) (List.mem_append_right _ (List.mem_append_right _ (mem_pinsAt hb e)))).1, fun b hb => ?_, w7⟩
      obtain ⟨o, e, d⟩ := T.obj _ _ st5 b hb
      exact (I7.pin (b, o) (List.mem_append_right _ (List.mem_append_right _ (mem_pinsAt hb e)))).2.1
    cases ok with
    | false =>
      rw [if_neg Bool.false_ne_true] at q7
      exact wpAny_pure ⟨rfl, again I7 q7⟩
    | true =>
      rw [if_pos rfl] at q7
      refine wpAny_bind (wpAny_mono (hb _ s7 σ6 H7 _ I7 q7) (fun _ s8 h8 => ?_) nox)
      obtain ⟨σ8, H8, I8, q8⟩ := h8
      exact wpAny_pure ⟨rfl, again I8 q8⟩
theorem pb_emit {D : Addr} {elt : Expr} {te : TE} (he : PE X elt te) : PB X (do let _ ← call (.builtin "list.append") [.ref D, ← eval elt X.env]) (fun σ H Q => te σ H fun y H1 => ∃ xs, H1 D = some (.lst xs) ∧ xs.length < sizeLine ∧ Q σ (upd H1 D (.lst (xs ++ [y])))) := by
  intro pins s σ H Q I h
  refine wpAny_bind (thn (he pins s σ H _ I h) fun v s1 h1 => ?_)
  obtain ⟨y, H1, I1, r1, xs, hD, hz, q⟩ := h1
  obtain ⟨z, its, n, r, hl, e⟩ := I1.lstM hD
  refine wpAny_bind ?_
  refine call_meets F.slot_list_append ⟨_, e, rfl⟩ F.entry_list_append (F.args_list_append_2 _ _) (PySem.list_append D its.toArray n v (by rw [List.size_toArray]; omega)) ⟨e, ?_⟩
  refine wpAny_pure ⟨σ, _, I1.lset (its' := its ++ [v]) hD e (by simp) (r.append (.cons r1 .nil)) ?_, q⟩
  rw [List.length_append, List.length_singleton]
  omega
/-- the block's env is made -/
theorem newEnv_comp {M : Model} {A : Around} {E : Value → Shared → Prop} {sc : Scope} {gl : Addr} {cl : List (Str × Addr)} {qual : Str} {env : Env} {Q : Env → Shared → Prop} {s : Shared}
    (h : Q { scope := sc, locals := s.heap.objs.size, globals := gl, cells := cellsFrom (s.heap.objs.size + 1) sc.names cl, qual := qual, func := none, code := env.code, frame := env.frame, builtins := env.builtins } { s with heap := pushCells (s.heap.push { cls := .type "dict", data := .dict #[] }) sc.names }) :
    wpAny M A (newFunctionEnv sc gl cl [] qual none .none (some env)) Q E s := by
  simp only [newFunctionEnv, Option.isSome_some, if_true]
  refine wpAny_bind (wpAny_alloc ?_)
  refine wpAny_bind (wpAny_layCells _ (fun name kind cells => by cases hkc : kind == NameKind.cell <;> simp [hkc]) _ _ _ _ ?_)
  rw [show ({ s with heap := s.heap.push { cls := .type "dict", data := .dict #[] } } : Shared).heap.objs.size = s.heap.objs.size + 1 from Heap.size_push ..]
  refine wpAny_bind ?_
  rw [List.forIn_nil]
  exact wpAny_pure (wpAny_pure h)
/-- back from the block -/
theorem comp_back {sc : Scope} {N : List Str} {fp : List Addr} {σ' : St} {H' : Hp} {s' : Shared} {h' : Heap} (I : Inv X pins σ H s) (hf : ∀ b ∈ fp, FpOk X pins H b) (J : Inv (cxComp X sc N s H fp (X.pn ++ pins)) [] σ' H' s') (hs : Heap.SameBut s.heap.objs.size s'.heap h') :
    Inv X pins σ H' { s' with heap := h' } := by
  have u : Un (frs X.stack) fp H H' s.heap s'.heap := J.base
  have ne : ∀ b o, s.heap.get? b = some o → b ≠ s.heap.objs.size := fun b o e => Nat.ne_of_lt (Heap.lt_size e)
  have hfree : H' s.heap.objs.size = none := J.free
  refine I.call' (s' := { s' with heap := h' }) (ch := fp) J.os ⟨fun b o e n h1 h2 => (hs.2 b (ne b o e)).trans (u.keep b o e n h1 h2), fun b o e n h1 h2 => ?_, u.free, fun b o e h2 => ?_, u.tups, u.frzs, u.tbls⟩ (fun a o e => ?_) J.bare fun b hb => ?_
  · obtain ⟨sl, q⟩ := u.slot b o e n h1 h2
    exact ⟨sl, (hs.2 b (ne b o e)).trans q⟩
  · obtain ⟨o', q⟩ := u.there b o e h2
    exact ⟨o', (hs.2 b (ne b o e)).trans q⟩
  · refine (J.hok a o e).stay (fun c v hc q => (hs.2 c ?_).trans q) (fun _ q => q) fun _ _ q => q
    intro z
    subst z
    rcases hc with hc | hc
    · rw [← hc] at e
      rw [hfree] at e; cases e
    · rw [hfree] at hc; cases hc
  · exact ⟨(hf b hb).2.2.2.1, (hf b hb).2.1, (hf b hb).2.2.2.2⟩
end
end L2
end
section
set_option Elab.async false
set_option linter.all false
set_option maxRecDepth 100000
set_option maxHeartbeats 4000000
namespace L2
open PySem PySem.Spec PyProof.Rows
def tEmit (D : Addr) (te : TE) : TB := fun σ H Q => te σ H fun y H1 => ∃ xs, H1 D = some (.lst xs) ∧ xs.length < sizeLine ∧ Q σ (upd H1 D (.lst (xs ++ [y])))
/-- [elt for tg in iter if ..] -/
def tComp (wi : TI) (own : Nat) (fr : List Nat) (g : TG) (tt : TT) (tb : Addr → TB) : TE := fun σ H Q => wi σ H fun J H1 => ∀ D, H1 D = none →
  tLoop J g tt (tb D) (startC own fr σ) (upd H1 D (.lst [])) fun _ H2 => Q (.ref D) H2

section
variable {X : Cx} {pins : List (Addr × Obj)} {s : Shared} {σ : St} {H : Hp} {tg elt iter : Expr} {ifs : List Expr} {rest : List Comprehension} {sc scO : Scope} {NO N : List Str} {own : Nat} {fr : List Nat} {wi : TI} {g : TG} {tt : TT} {tb : Addr → TB} {pos : Pos}

theorem comp_run {RR : Value → Addr → Result → Shared → Prop} {it : Addr} {fp : List Addr} {tn : Nat → Heap → Prop} {J : It} {Q : VK} (S : CompScope NO scO N sc own fr) (hN : X.N = NO) (hsc : X.env.scope = scO) (hc : X.calm = true)
    (hg : ∀ s₀ H₀ ex pn, PG (cxComp X sc N s₀ H₀ ex pn) tg g) (ht : ∀ s₀ H₀ ex pn, PTs (cxComp X sc N s₀ H₀ ex pn) ifs tt)
    (hb : ∀ D s₀ H₀ ex pn, ∃ act, PB (cxComp X sc N s₀ H₀ ex pn) act (tb D) ∧ ∀ it, compTurn (.ListComp elt (⟨tg, iter, ifs, 0⟩ :: rest) sc pos) 0 it (.ref D) (cxComp X sc N s₀ H₀ ex pn).env = (do
      standAt iter.pos
      match ← pyNext it with
      | none => pure (.done .next)
      | some v =>
        letOwnedTupleGo tg it v
        assign tg (cxComp X sc N s₀ H₀ ex pn).env v
        let mut ok := true
        for c in ifs do
          if ok then ok ← isTrue c (cxComp X sc N s₀ H₀ ex pn).env (eval c (cxComp X sc N s₀ H₀ ex pn).env)
        if ok then
          act
        again (.compLoop (.ListComp elt (⟨tg, iter, ifs, 0⟩ :: rest) sc pos) 0 it (.ref D) (cxComp X sc N s₀ H₀ ex pn).env)))
    (I : Inv X pins σ H s) (T : Turn X.prog X.w X.K tg J fp it tn) (st : tn 0 s.heap) (f : ∀ b ∈ fp, FpOk X pins H b)
    (h : ∀ D, H D = none → tLoop J g tt (tb D) (startC own fr σ) (upd H D (.lst [])) fun _ H2 => Q (.ref D) H2)
    (hRR : ∀ (D C : Addr) (s' : Shared) (H' : Hp), (∃ m, s'.heap.Ns C m) → C ≠ X.env.locals → (∀ x c, X.env.cells.lookup x = some c → c ≠ C) → H' C = none → X.s₀.heap.objs.size ≤ C → (∀ p ∈ X.pn ++ pins, p.1 ≠ C) → Inv X pins σ H' s' → Q (.ref D) H' → RR (.ref D) C (.ok .next) s') :
    wpAny (model X.prog X.w) X.A (newList []) (fun acc s₃ => wpAny (model X.prog X.w) X.A (newFunctionEnv sc X.env.globals (clFrom X.env sc.names []) [] X.env.qual none .none (some X.env)) (fun cenv s₄ =>
      codeAny (model X.prog X.w) X.A (.compStart (.ListComp elt (⟨tg, iter, ifs, 0⟩ :: rest) sc pos) 0 (.ref it) acc { cenv with scope := relabel sc X.env }) (RR acc cenv.locals) s₄) X.xe s₃) X.xe s := by
  refine wpAny_newObj_type (newEnv_comp ?_)
  have fpsz : ∀ b ∈ fp, b < s.heap.objs.size := fun b hb => by
    obtain ⟨o, e, _⟩ := T.obj _ _ st b hb
    exact Heap.lt_size e
  have I3 := I.lnew (its := []) (ys := []) (t' := s.toks) .nil (Nat.zero_le _)
  have f3 : ∀ b ∈ fp, FpOk X pins (upd H s.heap.objs.size (.lst [])) b := fun b hb => ⟨by rw [upd_ne (Nat.ne_of_lt (fpsz b hb))]; exact (f b hb).1, (f b hb).2⟩
  have st3 : tn 0 (s.heap.push { cls := .type "list", data := .seq ([] : List Value).toArray }) := T.keep _ _ _ st fun b _ o e => Heap.get?_push_of_some _ e
  have I4 := inv_comp (tk := s.toks) S hN hsc I3 f3 (T.obj _ _ st3)
  obtain ⟨act, pb, heq⟩ := hb s.heap.objs.size _ _ _ _
  have st4 := T.keep _ _ (pushCells ((s.heap.push { cls := .type "list", data := .seq ([] : List Value).toArray }).push { cls := .type "dict", data := .dict #[] }) sc.names) st3 fun b _ o e => pushCells_keeps _ _ _ _ (Heap.get?_push_of_some _ e)
  have cells_lt : ∀ x c, X.env.cells.lookup x = some c → c < s.heap.objs.size := fun x c e => by
    obtain ⟨v, o, ho, hd⟩ := I.cell x c e
    exact Heap.lt_size ho
  have esz : (s.heap.push { cls := .type "list", data := .seq ([] : List Value).toArray }).objs.size = s.heap.objs.size + 1 := Heap.size_push ..
  have loop := loop_any (X := cxComp X sc N { s with heap := s.heap.push { cls := .type "list", data := .seq ([] : List Value).toArray } } (upd H s.heap.objs.size (.lst [])) fp (X.pn ++ pins)) (R := RR (.ref s.heap.objs.size) (s.heap.push { cls := .type "list", data := .seq ([] : List Value).toArray }).objs.size) (fun _ _ z => z) hc (hg _ _ _ _) (ht _ _ _ _) pb heq (fun _ => rfl) (fun _ => rfl) (fun _ => rfl) I4 T st4
    (fun b hb => ⟨(f3 b hb).1, I4.ok.exf b hb |>.1, I4.ok.exfs b hb, .inl hb, I4.ok.exf b hb |>.2, fun p hp => by
      have hp' : p ∈ X.pn ++ pins := by simpa [cxComp] using hp
      exact (f b hb).2.2.2.2.2 p hp'⟩) (h _ I.fresh)
    (fun σ' H' s' J' fr' q' => hRR _ _ s' H' (let ⟨m, hm, _⟩ := J'.loc; ⟨m, hm⟩) (by rw [esz]; exact Nat.ne_of_gt (Nat.lt_succ_of_lt I.lt)) (fun x c e => by rw [esz]; exact Nat.ne_of_lt (Nat.lt_succ_of_lt (cells_lt x c e))) J'.free (by rw [esz]; exact Nat.le_succ_of_le I.sz) (fun p hp => by rw [esz]; exact Nat.ne_of_lt (Nat.lt_succ_of_lt (Heap.lt_size (I.pin p hp).1))) (comp_back (h' := s'.heap) I3 f3 J' (Heap.SameBut.refl ..)) q')
  exact codeAny_compStart_list loop (T.self X.A 0 _ _ _ st4 loop)
/-- what the block's variables leave behind -/
theorem Inv.touch {C : Addr} {h' : Heap} (I : Inv X pins σ H s) (hs : Heap.SameBut C s.heap h') (hn : H C = none) (h0 : C ≠ X.env.locals) (h1 : ∀ x c, X.env.cells.lookup x = some c → c ≠ C) (h2 : X.s₀.heap.objs.size ≤ C) (h3 : ∀ p ∈ X.pn ++ pins, p.1 ≠ C) :
    Inv X pins σ H { s with heap := h' } :=
  I.turned (t' := s.toks) (fun b o hb e => (hs.2 b hb).trans e) hn h0 (.inr h2) h1 h3

theorem compStart_two {prog : Program} {w : World} {A : Around} {R : Result → Shared → Prop} {s : Shared} {elt' : Expr} {g0 : Comprehension} {tg' it' : Expr} {ifs' : List Expr} {sc' : Scope} {pos' : Pos} {itv acc : Value} {env : Env}
    (here : codeAny (model prog w) A (.compLoop (.ListComp elt' [g0, ⟨tg', it', ifs', 0⟩] sc' pos') 1 itv acc env) R s)
    (once : wpAny (model prog w) A (pyIter itv) (fun j s1 => codeAny (model prog w) A (.compLoop (.ListComp elt' [g0, ⟨tg', it', ifs', 0⟩] sc' pos') 1 j acc env) R s1) (notedBy (model prog w) A env fun x s1 => R (.error x) s1) s) :
    codeAny (model prog w) A (.compStart (.ListComp elt' [g0, ⟨tg', it', ifs', 0⟩] sc' pos') 1 itv acc env) R s := by
  apply codeAny_of_tree
  show wpAny _ _ ((compStart (.ListComp elt' [g0, ⟨tg', it', ifs', 0⟩] sc' pos') 1 itv acc env).onRaise (fun z => do noteFrame z env; standAt theWindowsPlace)) _ _ s
  apply wpAny_notedAt
  unfold compStart
  show wpAny _ _ (ask >>= _) _ _ s
  apply wpAny_bind
  apply wpAny_askSetting
  apply wpAny_ite
  split
  · first
      | exact wpAny_bind (wpAny_pure (wpAny_pure (And.intro rfl here)))
      | exact wpAny_pure (And.intro rfl here)
  · apply wpAny_bind
    apply wpAny_rule
    show wpAny _ _ (standAt it'.pos >>= _) _ _ s
    exact wpAny_bind (wpAny_standAt (wpAny_bind (wpAny_mono once (fun j s1 q => wpAny_pure (And.intro rfl q)) fun _ _ z => z)))
section
variable {elt2 : Expr} {te : TE} {tg2 iter2 : Expr} {ifs2 : List Expr} {wi2 : TI} {g2 : TG} {tt2 : TT} {tb2 : TB} {y : Str} {i : Nat} {py spos : Pos}
/-- the turn's inner loop -/
def tIn (wi2 : TI) (g2 : TG) (tt2 : TT) (tb2 : TB) : TB := fun σ H Q => wi2 σ H fun J H1 => tLoop J g2 tt2 tb2 σ H1 Q
theorem pb_in {D : Addr} (hx : ∀ e s, X.xe e s → False) (hc : X.calm = true) (hi : PI X tg2 iter2 wi2) (hg : PG X tg2 g2) (ht : PTs X ifs2 tt2) (he : PE X elt te)
    (hs : ∀ x, foldedSetIterable iter2 X.env x = pure x) :
    PB X (do
      let x ← eval iter2 X.env
      standAt iter2.pos
      let x ← foldedSetIterable iter2 X.env x
      let _ ← runOwn (.compStart (.ListComp elt [⟨tg, iter, ifs, 0⟩, ⟨tg2, iter2, ifs2, 0⟩] sc pos) 1 (← holding [x] (pyIter x)) (.ref D) X.env) X.env) (tIn wi2 g2 tt2 (tEmit D te)) := by
  intro pins s σ H Q I h
  refine wpAny_bind (thn (hi pins s σ H _ I h) fun v s1 h1 => ?_)
  refine wpAny_bind (wpAny_standAt ?_)
  refine wpAny_bind (wpAny_of_eq (hs v) ?_)
  refine wpAny_bind (wpAny_holding (thn h1 fun itv s2 h2 => ?_))
  obtain ⟨it, fp, tn, J, H2, e, I2, T, st2, f2, q⟩ := h2
  subst e
  refine wpAny_bind (wpAny_runOwn ?_)
  have loop := loop_any (e := .ListComp elt [⟨tg, iter, ifs, 0⟩, ⟨tg2, iter2, ifs2, 0⟩] sc pos) (d := 1) (pos := iter2.pos)
    (R := fun r s' => match r with | .ok f => wpAny (model X.prog X.w) X.A (pure ()) (fun _ s' => ∃ σ' H', Inv X pins σ' H' s' ∧ Q σ' H') X.xe s' | .error e => cameBackBy (model X.prog X.w) X.A X.env X.xe e s')
    hx hc hg ht (pb_emit (D := D) he) (fun _ => rfl) (fun _ => rfl) (fun _ => rfl) (fun _ => rfl) I2 T st2 f2 q (fun σ' H' s' J' _ q' => wpAny_pure ⟨σ', H', J', q'⟩)
  exact compStart_two loop (T.self X.A 0 _ _ _ st2 loop)

theorem clos_ok (S : CompScope NO scO N sc own fr) (hsc : X.env.scope = scO) (ok : X.Ok) : closureFor sc X.env = pure (clFrom X.env sc.names []) :=
  closure_of fun x hx => ok.has x (by
    show X.env.scope.names.lookup x = _ ∨ X.env.scope.names.lookup x = _
    rw [hsc]
    exact S.free _ hx rfl)

/-- a list comprehension, whatever its turn does (hb) -/
theorem pe_comp (S : CompScope NO scO N sc own fr) (hc : X.calm = true) (hi : PI X tg iter wi) (hg : ∀ s₀ H₀ ex pn, PG (cxComp X sc N s₀ H₀ ex pn) tg g) (ht : ∀ s₀ H₀ ex pn, PTs (cxComp X sc N s₀ H₀ ex pn) ifs tt)
    (hb : ∀ D s₀ H₀ ex pn, ∃ act, PB (cxComp X sc N s₀ H₀ ex pn) act (tb D) ∧ ∀ it, compTurn (.ListComp elt (⟨tg, iter, ifs, 0⟩ :: rest) sc pos) 0 it (.ref D) (cxComp X sc N s₀ H₀ ex pn).env = (do
      standAt iter.pos
      match ← pyNext it with
      | none => pure (.done .next)
      | some v =>
        letOwnedTupleGo tg it v
        assign tg (cxComp X sc N s₀ H₀ ex pn).env v
        let mut ok := true
        for c in ifs do
          if ok then ok ← isTrue c (cxComp X sc N s₀ H₀ ex pn).env (eval c (cxComp X sc N s₀ H₀ ex pn).env)
        if ok then
          act
        again (.compLoop (.ListComp elt (⟨tg, iter, ifs, 0⟩ :: rest) sc pos) 0 it (.ref D) (cxComp X sc N s₀ H₀ ex pn).env)))
    (hN : X.N = NO) (hsc : X.env.scope = scO) (hs : ∀ x, foldedSetIterable iter X.env x = pure x) :
    PE X (.ListComp elt (⟨tg, iter, ifs, 0⟩ :: rest) sc pos) (tComp wi own fr g tt tb) := by
  intro pins s σ H Q I h
  rw [eval_ListComp]
  refine wpAny_comprehension_free (use := none) rfl hs (clos_ok S hsc I.ok) S.kind (fun p hp hl => lookup_of_nodup S.snd (k := .local) (by rw [← hl]; exact hp)) (thn (hi pins s σ H _ I h) fun v s1 h1 => thn h1 fun itv s2 h2 => ?_)
  obtain ⟨it, fp, tn, J, H2, e, I2, T, st2, f2, q⟩ := h2
  subst e
  refine comp_run (RR := fun acc C => compPost (model X.prog X.w) X.A X.xe none (EP X pins σ Q) acc C) S hN hsc hc hg ht hb I2 T st2 f2 q ?_
  rintro D C s' H' ⟨m, hm⟩ c0 c1 c2 c3 c4 J' q'
  exact ⟨m, hm, fun h' hs' => ⟨.ref D, H', J'.touch hs' c2 c0 c1 c3 c4, rfl, q'⟩⟩
/-- name = [..] where the store goes ahead of the variables' end -/
theorem ps_setComp (S : CompScope NO scO N sc own fr) (hc : X.calm = true) (hNd : X.N.Nodup) (hiN : X.N[i]? = some y) (hy : Loc X.env.scope y) (hi : PI X tg iter wi) (hg : ∀ s₀ H₀ ex pn, PG (cxComp X sc N s₀ H₀ ex pn) tg g) (ht : ∀ s₀ H₀ ex pn, PTs (cxComp X sc N s₀ H₀ ex pn) ifs tt)
    (hb : ∀ D s₀ H₀ ex pn, ∃ act, PB (cxComp X sc N s₀ H₀ ex pn) act (tb D) ∧ ∀ it, compTurn (.ListComp elt (⟨tg, iter, ifs, 0⟩ :: rest) sc pos) 0 it (.ref D) (cxComp X sc N s₀ H₀ ex pn).env = (do
      standAt iter.pos
      match ← pyNext it with
      | none => pure (.done .next)
      | some v =>
        letOwnedTupleGo tg it v
        assign tg (cxComp X sc N s₀ H₀ ex pn).env v
        let mut ok := true
        for c in ifs do
          if ok then ok ← isTrue c (cxComp X sc N s₀ H₀ ex pn).env (eval c (cxComp X sc N s₀ H₀ ex pn).env)
        if ok then
          act
        again (.compLoop (.ListComp elt (⟨tg, iter, ifs, 0⟩ :: rest) sc pos) 0 it (.ref D) (cxComp X sc N s₀ H₀ ex pn).env)))
    (hN : X.N = NO) (hsc : X.env.scope = scO) (hs : ∀ x, foldedSetIterable iter X.env x = pure x) (hf : X.fn y = true ∨ X.env.scope.names.lookup y = some .local)
    (hsw : swapsWith (.ListComp elt (⟨tg, iter, ifs, 0⟩ :: rest) sc pos) (some (.Name y py)) spos.line X.env = pure true) :
    PS X (.Assign [.Name y py] (.ListComp elt (⟨tg, iter, ifs, 0⟩ :: rest) sc pos) spos) (tAsg (tComp wi own fr g tt tb) (gName i)) := by
  intro pins s σ H D I h
  rw [exec_Assign_Name_used _ _ _ _ hsw]
  refine wpAny_bind (wpAny_standAt (wpAny_bind ?_))
  show wpAny _ X.A (do let _ ← comprehension (.ListComp elt (⟨tg, iter, ifs, 0⟩ :: rest) sc pos) sc X.env _ (newList []) false (eval iter X.env) (some (assign (.Name y py) X.env))) _ _ s
  refine wpAny_bind (wpAny_mono (wpAny_comprehension_free (use := some (assign (.Name y py) X.env)) (Q := fun _ s' => SP X pins D .next s') rfl hs (clos_ok S hsc I.ok) S.kind (fun p hp hl => lookup_of_nodup S.snd (k := .local) (by rw [← hl]; exact hp))
    (thn (hi pins s σ H _ I h) fun v s1 h1 => thn h1 fun itv s2 h2 => ?_)) (fun _ s' hq => wpAny_pure (wpAny_pure hq)) fun _ _ e => e)
  obtain ⟨it, fp, tn, J, H2, e, I2, T, st2, f2, q⟩ := h2
  subst e
  refine comp_run (Q := fun x H1 => gName i x σ H1 D.nx) (RR := fun acc C => compPost (model X.prog X.w) X.A X.xe (some (assign (.Name y py) X.env)) (fun _ s' => SP X pins D .next s') acc C) S hN hsc hc hg ht hb I2 T st2 f2 q ?_
  rintro A' C s' H' ⟨m, hm⟩ c0 c1 c2 c3 c4 J' q'
  show wpAny _ X.A (assign (.Name y py) X.env (.ref A')) _ _ _
  refine wpAny_assign_Name (store_ok2 (v := .ref A') J' hNd hiN hy rfl (fun s2' I2' hsb => ?_) hf)
  obtain ⟨a, hs2, ha⟩ := hsb
  have hCa : C ≠ a := by
    rcases ha with ha | ha
    · rw [ha]; exact c0
    · exact Ne.symm (c1 _ _ ha)
  exact ⟨m, hm.sameBut hs2 hCa, fun h' hs' => ⟨_, H', I2'.touch hs' c2 c0 c1 c3 c4, q'⟩⟩
end
end
end L2
end
section
set_option Elab.async false
set_option linter.all false
set_option maxRecDepth 100000
set_option maxHeartbeats 4000000
namespace L2
open PySem PySem.Spec PyProof.Rows
section
variable {X : Cx} {tg elt iter tg2 iter2 : Expr} {ifs ifs2 : List Expr} {sc scO : Scope} {NO N : List Str} {own : Nat} {fr : List Nat} {wi wi2 : TI} {g g2 : TG} {tt tt2 : TT} {te : TE} {pos py spos : Pos} {y : Str} {i : Nat}
theorem pe_comp1 (S : CompScope NO scO N sc own fr) (hc : X.calm = true) (hi : PI X tg iter wi) (hg : ∀ s₀ H₀ ex pn, PG (cxComp X sc N s₀ H₀ ex pn) tg g) (ht : ∀ s₀ H₀ ex pn, PTs (cxComp X sc N s₀ H₀ ex pn) ifs tt) (he : ∀ s₀ H₀ ex pn, PE (cxComp X sc N s₀ H₀ ex pn) elt te)
    (hN : X.N = NO) (hsc : X.env.scope = scO) (hs : ∀ x, foldedSetIterable iter X.env x = pure x) : PE X (.ListComp elt [⟨tg, iter, ifs, 0⟩] sc pos) (tComp wi own fr g tt fun D => tEmit D te) :=
  pe_comp S hc hi hg ht (fun D s₀ H₀ ex pn => ⟨_, pb_emit (D := D) (he s₀ H₀ ex pn), fun _ => rfl⟩) hN hsc hs
theorem ps_setComp1 (S : CompScope NO scO N sc own fr) (hc : X.calm = true) (hNd : X.N.Nodup) (hiN : X.N[i]? = some y) (hy : Loc X.env.scope y) (hi : PI X tg iter wi) (hg : ∀ s₀ H₀ ex pn, PG (cxComp X sc N s₀ H₀ ex pn) tg g) (ht : ∀ s₀ H₀ ex pn, PTs (cxComp X sc N s₀ H₀ ex pn) ifs tt) (he : ∀ s₀ H₀ ex pn, PE (cxComp X sc N s₀ H₀ ex pn) elt te)
    (hN : X.N = NO) (hsc : X.env.scope = scO) (hs : ∀ x, foldedSetIterable iter X.env x = pure x) (hf : X.fn y = true ∨ X.env.scope.names.lookup y = some .local)
    (hsw : swapsWith (.ListComp elt [⟨tg, iter, ifs, 0⟩] sc pos) (some (.Name y py)) spos.line X.env = pure true) :
    PS X (.Assign [.Name y py] (.ListComp elt [⟨tg, iter, ifs, 0⟩] sc pos) spos) (tAsg (tComp wi own fr g tt fun D => tEmit D te) (gName i)) :=
  ps_setComp S hc hNd hiN hy hi hg ht (fun D s₀ H₀ ex pn => ⟨_, pb_emit (D := D) (he s₀ H₀ ex pn), fun _ => rfl⟩) hN hsc hs hf hsw
end
end L2
end
section
set_option Elab.async false
set_option linter.all false
set_option maxRecDepth 100000
set_option maxHeartbeats 4000000
namespace L2
open PySem PySem.Spec PyProof.Rows
theorem turn_two {elt tg iter tg2 iter2 : Expr} {ifs ifs2 : List Expr} {sc : Scope} {pos : Pos} {it acc : Value} {env : Env} :
    compTurn (.ListComp elt [⟨tg, iter, ifs, 0⟩, ⟨tg2, iter2, ifs2, 0⟩] sc pos) 0 it acc env = (do
      standAt iter.pos
      match ← pyNext it with
      | none => pure (.done .next)
      | some v =>
        letOwnedTupleGo tg it v
        assign tg env v
        let mut ok := true
        for c in ifs do
          if ok then ok ← isTrue c env (eval c env)
        if ok then
          (do
            let x ← eval iter2 env
            standAt iter2.pos
            let x ← foldedSetIterable iter2 env x
            let _ ← runOwn (.compStart (.ListComp elt [⟨tg, iter, ifs, 0⟩, ⟨tg2, iter2, ifs2, 0⟩] sc pos) 1 (← holding [x] (pyIter x)) acc env) env)
        again (.compLoop (.ListComp elt [⟨tg, iter, ifs, 0⟩, ⟨tg2, iter2, ifs2, 0⟩] sc pos) 0 it acc env)) := by
  unfold compTurn
  simp only [bind_assoc, pure_bind]
  rfl
section
variable {X : Cx} {tg elt iter tg2 iter2 : Expr} {ifs ifs2 : List Expr} {sc scO : Scope} {NO N : List Str} {own : Nat} {fr : List Nat} {wi wi2 : TI} {g g2 : TG} {tt tt2 : TT} {te : TE} {pos py spos : Pos} {y : Str} {i : Nat}
/-- [.. for .. in .. for .. in ..] -/
theorem pe_comp2 (S : CompScope NO scO N sc own fr) (hc : X.calm = true) (hi : PI X tg iter wi) (hg : ∀ s₀ H₀ ex pn, PG (cxComp X sc N s₀ H₀ ex pn) tg g) (ht : ∀ s₀ H₀ ex pn, PTs (cxComp X sc N s₀ H₀ ex pn) ifs tt)
    (hi2 : ∀ s₀ H₀ ex pn, PI (cxComp X sc N s₀ H₀ ex pn) tg2 iter2 wi2) (hg2 : ∀ s₀ H₀ ex pn, PG (cxComp X sc N s₀ H₀ ex pn) tg2 g2) (ht2 : ∀ s₀ H₀ ex pn, PTs (cxComp X sc N s₀ H₀ ex pn) ifs2 tt2)
    (he : ∀ s₀ H₀ ex pn, PE (cxComp X sc N s₀ H₀ ex pn) elt te) (hN : X.N = NO) (hsc : X.env.scope = scO) (hs : ∀ x, foldedSetIterable iter X.env x = pure x) (hs2 : ∀ s₀ H₀ ex pn x, foldedSetIterable iter2 (cxComp X sc N s₀ H₀ ex pn).env x = pure x) :
    PE X (.ListComp elt [⟨tg, iter, ifs, 0⟩, ⟨tg2, iter2, ifs2, 0⟩] sc pos) (tComp wi own fr g tt fun D => tIn wi2 g2 tt2 (tEmit D te)) :=
  pe_comp S hc hi hg ht (fun D s₀ H₀ ex pn => ⟨_, pb_in (D := D) (fun _ _ z => z) hc (hi2 s₀ H₀ ex pn) (hg2 s₀ H₀ ex pn) (ht2 s₀ H₀ ex pn) (he s₀ H₀ ex pn) (hs2 s₀ H₀ ex pn), fun it => turn_two⟩) hN hsc hs
theorem ps_setComp2 (S : CompScope NO scO N sc own fr) (hc : X.calm = true) (hNd : X.N.Nodup) (hiN : X.N[i]? = some y) (hy : Loc X.env.scope y) (hi : PI X tg iter wi) (hg : ∀ s₀ H₀ ex pn, PG (cxComp X sc N s₀ H₀ ex pn) tg g) (ht : ∀ s₀ H₀ ex pn, PTs (cxComp X sc N s₀ H₀ ex pn) ifs tt)
    (hi2 : ∀ s₀ H₀ ex pn, PI (cxComp X sc N s₀ H₀ ex pn) tg2 iter2 wi2) (hg2 : ∀ s₀ H₀ ex pn, PG (cxComp X sc N s₀ H₀ ex pn) tg2 g2) (ht2 : ∀ s₀ H₀ ex pn, PTs (cxComp X sc N s₀ H₀ ex pn) ifs2 tt2)
    (he : ∀ s₀ H₀ ex pn, PE (cxComp X sc N s₀ H₀ ex pn) elt te) (hN : X.N = NO) (hsc : X.env.scope = scO) (hs : ∀ x, foldedSetIterable iter X.env x = pure x) (hs2 : ∀ s₀ H₀ ex pn x, foldedSetIterable iter2 (cxComp X sc N s₀ H₀ ex pn).env x = pure x)
    (hf : X.fn y = true ∨ X.env.scope.names.lookup y = some .local)
    (hsw : swapsWith (.ListComp elt [⟨tg, iter, ifs, 0⟩, ⟨tg2, iter2, ifs2, 0⟩] sc pos) (some (.Name y py)) spos.line X.env = pure true) :
    PS X (.Assign [.Name y py] (.ListComp elt [⟨tg, iter, ifs, 0⟩, ⟨tg2, iter2, ifs2, 0⟩] sc pos) spos) (tAsg (tComp wi own fr g tt fun D => tIn wi2 g2 tt2 (tEmit D te)) (gName i)) :=
  ps_setComp S hc hNd hiN hy hi hg ht (fun D s₀ H₀ ex pn => ⟨_, pb_in (D := D) (fun _ _ z => z) hc (hi2 s₀ H₀ ex pn) (hg2 s₀ H₀ ex pn) (ht2 s₀ H₀ ex pn) (he s₀ H₀ ex pn) (hs2 s₀ H₀ ex pn), fun it => turn_two⟩) hN hsc hs hf hsw
end
end L2
end
section
set_option Elab.async false
set_option linter.all false
set_option maxRecDepth 100000
set_option maxHeartbeats 4000000
namespace L2
open PySem PySem.Spec PyProof.Rows
section
variable {X : Cx} {pins : List (Addr × Obj)} {σ : St} {H : Hp} {s : Shared} {h' : Heap} {fp : List Addr}
/-- some records of ours have turned -/
theorem Inv.turnedAll {t' : Nat} (I : Inv X pins σ H s) (hf : ∀ b ∈ fp, FpOk X pins H b) (k : ∀ b o, b ∉ fp → s.heap.get? b = some o → h'.get? b = some o) : Inv X pins σ H { s with heap := h', toks := t' } := by
  refine I.step (g' := s.gens) (d' := s.drawn) (ch := fp) (fun b hb => ⟨(hf b hb).2.2.2.1, (hf b hb).2.1, (hf b hb).2.2.2.2⟩) (fun b o _ _ hc e _ => k b o hc e) (fun b o _ _ hc e _ => ⟨o.slots, k b o hc e⟩) (fun _ _ _ _ n => n)
    (fun b o hc e => ⟨o, k b o hc e⟩) (fun _ _ e => e) (fun _ _ _ e => e) (fun b ps e => ⟨#[], by rw [e]; simp⟩) (fun m hm => ?_) (fun b u e => ?_) I.bare
  · obtain ⟨o, es, ep, ho, r⟩ := hm
    exact ⟨o, es, ep, k _ o (fun z => (hf _ z).2.1 rfl) ho, r⟩
  · refine (I.hok b u e).stay (fun c v hc q => k c v (fun z => ?_) q) (fun _ q => q) fun _ _ q => q
    have hn := (hf c z).1
    rcases hc with hc | hc
    · subst hc; rw [e] at hn; cases hn
    · rw [hc] at hn; cases hn
theorem Inv.turnedNew {t' : Nat} {t : Addr} {o : HO} (I : Inv X pins σ H s) (hf : ∀ b ∈ fp, FpOk X pins H b) (k : ∀ b o, b ∉ fp → s.heap.get? b = some o → h'.get? b = some o) (ht : s.heap.objs.size ≤ t) (new : ObjOk X.prog X.w (upd H t o) h' t o) :
    Inv X pins σ (upd H t o) { s with heap := h', toks := t' } := by
  have hn : H t = none := I.hok.fresh ht
  have ne : ∀ b ob, s.heap.get? b = some ob → b ≠ t := fun b ob e => Nat.ne_of_lt (Nat.lt_of_lt_of_le (Heap.lt_size e) ht)
  refine I.step (g' := s.gens) (d' := s.drawn) (ch := fp) (fun b hb => ⟨(hf b hb).2.2.2.1, (hf b hb).2.1, (hf b hb).2.2.2.2⟩) (fun b o _ _ hc e _ => k b o hc e) (fun b o _ _ hc e _ => ⟨o.slots, k b o hc e⟩) (fun b ob _ e n => by rw [upd_ne (ne b ob e)]; exact n)
    (fun b o hc e => ⟨o, k b o hc e⟩) (fun b xs e => by rw [upd_ne (ne_of_none e hn)]; exact e) (fun b ob u e => by rw [upd_ne (ne_of_none e hn)]; exact e) (fun b ps e => ⟨#[], by rw [upd_ne (ne_of_none e hn), e]; simp⟩) (fun m hm => ?_) (fun b u e => ?_) I.bare
  · obtain ⟨o, es, ep, ho, r⟩ := hm
    exact ⟨o, es, ep, k _ o (fun z => (hf _ z).2.1 rfl) ho, r⟩
  · by_cases hb : b = t
    · subst hb; rw [upd_same] at e; cases e; exact new
    · rw [upd_ne hb] at e
      refine (I.hok b u e).stay (fun c v hc q => k c v (fun z => ?_) q) (fun c q => by rw [upd_ne (ne_of_none q hn)]; exact q) fun c xs q => by rw [upd_ne (ne_of_none q hn)]; exact q
      have hn' := (hf c z).1
      rcases hc with hc | hc
      · subst hc; rw [e] at hn'; cases hn'
      · rw [hc] at hn'; cases hn'
end
/-- enumerate over the list at a: new pairs -/
def Ite (K : PySem.W.Frag) (a : Addr) : It :=
  ⟨fun i H => ∃ xs x, SqL K H a xs ∧ xs[i]? = some x, fun i H x H' => ∃ t y, x = .ref t ∧ H t = none ∧ H' = upd H t (.tup [.int i, y]) ∧ ∀ xs, SqL K H a xs → xs[i]? = some y, fun i H => ∃ xs, SqL K H a xs ∧ xs.length ≤ i⟩
theorem turn_enum {P : Program} {w : World} {K : PySem.W.Frag} {es : List Expr} {k : Nat} {pos : Pos} (a e it : Addr) (hne : e ≠ it) : Turn P w K (.Tuple es k pos) (Ite K a) [e, it] e (fun i h => (∃ old, IsEnum h e it i old) ∧ h.IsListIter it a i) where
  mem := by simp
  obj := fun i h st b hb => by
    obtain ⟨⟨old, se⟩, o, eo, c, d⟩ := st
    rcases List.mem_cons.mp hb with z | z
    · subst z
      exact ⟨_, se, fun v z => by
        have z' : Data.fields _ = Data.cell v := z
        cases z'⟩
    · have z : b = it := by simpa using z
      subst z
      exact ⟨o, eo, fun v z => by rw [d] at z; cases z⟩
  keep := fun i h h' st kk => ⟨let ⟨old, se⟩ := st.1; ⟨old, kk e (by simp) _ se⟩, st.2.at fun o eo => kk it (by simp) o eo⟩
  item := by
    intro X hP hw hK hc i pins s σ H E I hf st hg
    subst hP hw hK
    obtain ⟨xs, x, hq, hx⟩ := hg
    obtain ⟨its, rv, p, hz⟩ := I.list hq
    obtain ⟨u, hu, ru⟩ := rv.get hx
    obtain ⟨⟨old, se⟩, si⟩ := st
    refine wpAny_pyNext_enum_item se si p.isList (x := u) (by simpa using hu) hne fun h' so si' tp sz kp => ?_
    refine ⟨_, rfl, ?_⟩
    refine wpAny_letOwnedTupleGo_enum (s := { s with heap := h', toks := s.toks + 1 }) so fun h2 se2 sb => ?_
    have hlt : e < s.heap.objs.size := Heap.lt_size se
    obtain ⟨oi, eoi, _, _⟩ := id si
    have hlt2 : it < s.heap.objs.size := Heap.lt_size eoi
    have kk : ∀ b o, b ∉ [e, it] → s.heap.get? b = some o → h2.get? b = some o := fun b o hb eb => by
      have h1 : b ≠ e := fun z => hb (by simp [z])
      have h2' : b ≠ it := fun z => hb (by simp [z])
      exact (sb.2 b h1).trans (kp b o h1 h2' eb)
    have I2 : Inv X pins σ (upd H s.heap.objs.size (.tup [.int i, x])) { s with heap := h2, toks := s.toks + 1 } := I.turnedNew hf kk (Nat.le_refl _)
      ⟨by show 2 ≤ sizeLine; decide, [.int i s.toks, u], .cons ⟨_, rfl⟩ (.cons ru .nil), ⟨_, (sb.2 _ (Nat.ne_of_gt hlt)).trans tp, rfl, _, rfl⟩⟩
    refine ⟨.ref s.heap.objs.size, _, I2, rfl, ⟨_, x, rfl, I.fresh, rfl, fun ys hy => by rw [I.list_inj hy hq]; exact hx⟩, ⟨⟨_, se2⟩, ?_⟩, fun b hb => ?_⟩
    · exact si'.at fun o eo => (sb.2 it (Ne.symm hne)).trans eo
    · rw [upd_ne]
      · exact (hf b hb).1
      · rcases List.mem_cons.mp hb with z | z
        · subst z; exact Nat.ne_of_lt hlt
        · have z : b = it := by simpa using z
          subst z; exact Nat.ne_of_lt hlt2
  done := by
    intro X hP hw hK hc i pins s σ H E I hf st hg
    subst hP hw hK
    obtain ⟨xs, hq, hx⟩ := hg
    obtain ⟨its, rv, p, hz⟩ := I.list hq
    obtain ⟨⟨old, se⟩, si⟩ := st
    have hl := rv.length
    exact wpAny_pyNext_enum_end (I.ok.hd hc) se si p.isList (by simp; omega) fun h' eb => ⟨rfl, I.turnedAll (t' := s.toks) hf fun b o hb e' => eb b o (fun z => hb (by simp [z])) e'⟩
  self := fun _ _ _ _ _ st h => let ⟨_, se⟩ := st.1; wpAny_pyIter_enum se h
section
variable {X : Cx} {es : List Expr} {k : Nat} {tpos : Pos}
def iEnum (K : PySem.W.Frag) (ta : TA) : TI := fun σ H R => ta σ H fun vs H1 => ∃ a, vs = [.ref a] ∧ (∃ xs, SqL K H1 a xs) ∧ R (Ite K a) H1
theorem pi_enum {a : Expr} {ta : TA} {p pos : Pos} (hg : Gl X "enumerate") (hm : X.mg "enumerate" = none) (ha : PA X [a] ta) (hs : starEach [a] X.env = [(false, eval a X.env)] := by rfl) : PI X (.Tuple es k tpos) (.Call (.Name "enumerate" p) [a] [] pos) (iEnum X.K ta) := by
  intro pins s σ H R I h
  refine Call_ (ld_blt I hg hm boot_enumerate (PyProof.Rows.callWith_type1 (thn (ha pos pins s σ H _ I h) fun us s1 ⟨vs, H1, I1, r1, q1⟩ => ?_) hs rfl))
  obtain ⟨l, e, ⟨xs, hq⟩, q⟩ := q1
  subst e
  cases r1 with
  | cons r rr =>
    cases rr
    cases r
    obtain ⟨its, rv, p, hz⟩ := I1.list hq
    refine call_enumerate_list p.isList fun h' he hi hsz kp => ?_
    refine wpAny_pyIter_enum he ?_
    have hne : s1.heap.objs.size + 1 ≠ s1.heap.objs.size := Nat.succ_ne_self _
    refine ⟨s1.heap.objs.size + 1, [s1.heap.objs.size + 1, s1.heap.objs.size], _, _, H1, rfl, I1.kept (t' := s1.toks) kp, turn_enum l _ _ hne, ⟨⟨_, he⟩, hi⟩, fun b hb => ?_, q⟩
    rcases List.mem_cons.mp hb with z | z
    · subst z; exact I1.fpOk (Nat.le_succ _) (I1.hok.fresh (Nat.le_succ _))
    · have z : b = s1.heap.objs.size := by simpa using z
      subst z; exact I1.fpOk (Nat.le_refl _) (I1.hok.fresh (Nat.le_refl _))
end
/-- over enumerate of a list that the body leaves as it is -/
theorem for_enum {K : PySem.W.Frag} {a : Addr} {xs : List V} {g : TG} {tb : TS} {D : Ends} {σ : St} {H : Hp} (Pv : Nat → St → Hp → Prop) (h0 : Pv 0 σ H) (hl : ∀ i σ H, i ≤ xs.length → Pv i σ H → SqL K H a xs)
    (hs : ∀ i x σ H t, xs[i]? = some x → Pv i σ H → H t = none → g (.ref t) σ (upd H t (.tup [.int i, x])) fun σ2 H2 => tb { D with nx := Pv (i + 1), ct := Pv (i + 1), bk := D.nx } σ2 H2) (hd : ∀ σ H, Pv xs.length σ H → D.nx σ H) :
    ∃ W : Nat → Nat → St → Hp → Prop, (∃ m, W 0 m σ H) ∧ ∀ i m σ H, W i m σ H →
      ((Ite K a).stop i H ∧ D.nx σ H) ∨ ((Ite K a).go i H ∧ ∃ N : St → Hp → Prop, (∀ σ' H', N σ' H' → ∃ m', m' < m ∧ W (i + 1) m' σ' H') ∧ ∀ x H', (Ite K a).yld i H x H' → g x σ H' fun σ2 H2 => tb { D with nx := N, ct := N, bk := D.nx } σ2 H2) := by
  refine ⟨fun i m σ H => Pv i σ H ∧ i ≤ xs.length ∧ m + i = xs.length, ⟨xs.length, h0, Nat.zero_le _, rfl⟩, fun i m σ H ⟨p, hi, hm⟩ => ?_⟩
  have q := hl i σ H hi p
  by_cases hlt : i < xs.length
  · refine .inr ⟨⟨xs, xs[i], q, List.getElem?_eq_getElem hlt⟩, Pv (i + 1), fun σ' H' n => ⟨m - 1, by omega, n, hlt, by omega⟩, fun x H' hy => ?_⟩
    obtain ⟨t, y, rfl, ht, rfl, hy⟩ := hy
    exact hs i y σ H t (hy xs q) p ht
  · have e : i = xs.length := by omega
    subst e
    exact .inl ⟨⟨xs, q, Nat.le_refl _⟩, hd σ H p⟩
end L2
end
section
set_option Elab.async false
set_option linter.all false
set_option maxRecDepth 100000
set_option maxHeartbeats 4000000
namespace L2
open PySem PySem.Spec PyProof.Rows
/-! ### data in the abstract heap -/
mutual
def Rep (K : PySem.W.Frag) (H : Hp) : PyData → V → Prop
  | .none, v => v = .non
  | .bool b, v => v = .bl b
  | .int i, v => v = .int i
  | .str x, v => v = .str x
  | .list ds, v => ∃ a xs, v = .ref a ∧ SqL K H a xs ∧ Reps K H ds xs
  | .tuple ds, v => ∃ a xs, v = .ref a ∧ SqT K H a xs ∧ Reps K H ds xs
  | .dict _, _ => False
def Reps (K : PySem.W.Frag) (H : Hp) : List PyData → List V → Prop
  | [], xs => xs = []
  | d :: ds, xs => ∃ x r, xs = x :: r ∧ Rep K H d x ∧ Reps K H ds r
end
theorem Same.seqT {K : PySem.W.Frag} {H H' : Hp} {a : Addr} {xs : List V} (e : Same H H') (h : SqT K H a xs) : SqT K H' a xs := by
  rcases h with (h | ⟨o, h⟩) | h
  · exact .inl (.inl (e _ _ h))
  · exact .inl (.inr ⟨o, e _ _ h⟩)
  · exact .inr h
mutual
theorem Rep.mono {K : PySem.W.Frag} {H H' : Hp} (e : Same H H') : ∀ (d : PyData) (v : V), Rep K H d v → Rep K H' d v
  | .none, _, h => by rw [Rep] at h ⊢; exact h
  | .bool _, _, h => by rw [Rep] at h ⊢; exact h
  | .int _, _, h => by rw [Rep] at h ⊢; exact h
  | .str _, _, h => by rw [Rep] at h ⊢; exact h
  | .list ds, v, h => by
    rw [Rep] at h ⊢
    obtain ⟨a, xs, h1, h2, h3⟩ := h
    exact ⟨a, xs, h1, e.seq h2, Reps.mono e ds xs h3⟩
  | .tuple ds, v, h => by
    rw [Rep] at h ⊢
    obtain ⟨a, xs, h1, h2, h3⟩ := h
    exact ⟨a, xs, h1, e.seqT h2, Reps.mono e ds xs h3⟩
  | .dict _, _, h => by rw [Rep] at h; exact h.elim
theorem Reps.mono {K : PySem.W.Frag} {H H' : Hp} (e : Same H H') : ∀ (ds : List PyData) (xs : List V), Reps K H ds xs → Reps K H' ds xs
  | [], _, h => by rw [Reps] at h ⊢; exact h
  | d :: ds, xs, h => by
    rw [Reps] at h ⊢
    obtain ⟨x, r, h1, h2, h3⟩ := h
    exact ⟨x, r, h1, Rep.mono e d x h2, Reps.mono e ds r h3⟩
end
theorem rep_int {K : PySem.W.Frag} {H : Hp} {i : Int} {v : V} : Rep K H (.int i) v ↔ v = .int i := by rw [Rep]
theorem rep_bool {K : PySem.W.Frag} {H : Hp} {b : Bool} {v : V} : Rep K H (.bool b) v ↔ v = .bl b := by rw [Rep]
theorem rep_none {K : PySem.W.Frag} {H : Hp} {v : V} : Rep K H .none v ↔ v = .non := by rw [Rep]
theorem rep_str {K : PySem.W.Frag} {H : Hp} {x : Str} {v : V} : Rep K H (.str x) v ↔ v = .str x := by rw [Rep]
theorem rep_list {K : PySem.W.Frag} {H : Hp} {ds : List PyData} {v : V} : Rep K H (.list ds) v ↔ ∃ a xs, v = .ref a ∧ SqL K H a xs ∧ Reps K H ds xs := by rw [Rep]
theorem rep_tuple {K : PySem.W.Frag} {H : Hp} {ds : List PyData} {v : V} : Rep K H (.tuple ds) v ↔ ∃ a xs, v = .ref a ∧ SqT K H a xs ∧ Reps K H ds xs := by rw [Rep]
theorem reps_nil {K : PySem.W.Frag} {H : Hp} {xs : List V} : Reps K H [] xs ↔ xs = [] := by rw [Reps]
theorem reps_cons {K : PySem.W.Frag} {H : Hp} {d : PyData} {ds : List PyData} {xs : List V} : Reps K H (d :: ds) xs ↔ ∃ x r, xs = x :: r ∧ Rep K H d x ∧ Reps K H ds r := by rw [Reps]
theorem Reps.nil' {K : PySem.W.Frag} {H : Hp} : Reps K H [] [] := reps_nil.mpr rfl
theorem Reps.cons' {K : PySem.W.Frag} {H : Hp} {d : PyData} {ds : List PyData} {x : V} {r : List V} (h : Rep K H d x) (t : Reps K H ds r) : Reps K H (d :: ds) (x :: r) := reps_cons.mpr ⟨x, r, rfl, h, t⟩
theorem Reps.length {K : PySem.W.Frag} {H : Hp} : ∀ {ds : List PyData} {xs : List V}, Reps K H ds xs → xs.length = ds.length
  | [], xs, h => by rw [reps_nil.mp h]; rfl
  | d :: ds, xs, h => by
    obtain ⟨x, r, rfl, _, h3⟩ := reps_cons.mp h
    rw [List.length_cons, List.length_cons, Reps.length h3]
theorem Reps.get {K : PySem.W.Frag} {H : Hp} : ∀ {ds : List PyData} {xs : List V} {i : Nat} {d : PyData}, Reps K H ds xs → ds[i]? = some d → ∃ x, xs[i]? = some x ∧ Rep K H d x
  | [], _, _, _, _, e => by simp at e
  | d :: ds, xs, 0, d', h, e => by
    obtain ⟨x, r, rfl, h2, _⟩ := reps_cons.mp h
    simp at e; subst e
    exact ⟨x, rfl, h2⟩
  | d :: ds, xs, i + 1, d', h, e => by
    obtain ⟨x, r, rfl, _, h3⟩ := reps_cons.mp h
    obtain ⟨y, h1, h2⟩ := Reps.get (i := i) h3 (by simpa using e)
    exact ⟨y, by simpa using h1, h2⟩
theorem Reps.snoc {K : PySem.W.Frag} {H : Hp} {d : PyData} {x : V} (h : Rep K H d x) : ∀ {ds : List PyData} {xs : List V}, Reps K H ds xs → Reps K H (ds ++ [d]) (xs ++ [x])
  | [], xs, t => by rw [reps_nil.mp t]; exact .cons' h .nil'
  | d' :: ds, xs, t => by
    obtain ⟨y, r, rfl, h2, h3⟩ := reps_cons.mp t
    exact .cons' h2 (Reps.snoc h h3)
theorem Reps.append {K : PySem.W.Frag} {H : Hp} : ∀ {ds es : List PyData} {xs ys : List V}, Reps K H ds xs → Reps K H es ys → Reps K H (ds ++ es) (xs ++ ys)
  | [], es, xs, ys, t, u => by rw [reps_nil.mp t]; exact u
  | d' :: ds, es, xs, ys, t, u => by
    obtain ⟨y, r, rfl, h2, h3⟩ := reps_cons.mp t
    exact .cons' h2 (Reps.append h3 u)
theorem Reps.ints {K : PySem.W.Frag} {H : Hp} : ∀ {ns : List Int} {xs : List V}, Reps K H (ns.map .int) xs → xs = ns.map V.int
  | [], xs, h => reps_nil.mp h
  | n :: ns, xs, h => by
    obtain ⟨x, r, rfl, h2, h3⟩ := reps_cons.mp h
    rw [rep_int.mp h2, Reps.ints h3]; rfl
theorem Reps.ints' {K : PySem.W.Frag} {H : Hp} : ∀ (ns : List Int), Reps K H (ns.map .int) (ns.map V.int)
  | [] => .nil'
  | n :: ns => .cons' (rep_int.mpr rfl) (Reps.ints' ns)
section
variable {X : Cx} {pins : List (Addr × Obj)} {σ : St} {H : Hp} {s : Shared}
mutual
theorem reads_of (I : Inv X pins σ H s) : ∀ (d : PyData) (v : V) (u : Value), Rep X.K H d v → RelV v u → ∃ as, Reads s.heap u d as
  | .none, v, u, h, r => by rw [rep_none.mp h] at r; cases r; exact ⟨_, .none⟩
  | .bool b, v, u, h, r => by rw [rep_bool.mp h] at r; cases r; exact ⟨_, .bool b⟩
  | .int i, v, u, h, r => by rw [rep_int.mp h] at r; obtain ⟨t, rfl⟩ := r; exact ⟨_, .int i t⟩
  | .str x, v, u, h, r => by rw [rep_str.mp h] at r; obtain ⟨t, rfl⟩ := r; exact ⟨_, .str x t⟩
  | .list ds, v, u, h, r => by
    obtain ⟨a, xs, rfl, h2, h3⟩ := rep_list.mp h
    cases r
    obtain ⟨its, rv, p, _⟩ := I.list h2
    obtain ⟨o, ho, hc, n, hd⟩ := p.isList
    obtain ⟨as, ra⟩ := readsAll_of I ds xs its h3 rv
    exact ⟨_, .list ho hc hd (by simpa using ra)⟩
  | .tuple ds, v, u, h, r => by
    obtain ⟨a, xs, rfl, h2, h3⟩ := rep_tuple.mp h
    cases r
    obtain ⟨its, rv, p, _⟩ := I.tuple h2
    obtain ⟨o, ho, hc, n, hd⟩ := p
    obtain ⟨as, ra⟩ := readsAll_of I ds xs its h3 rv
    exact ⟨_, .tuple ho hc hd (by simpa using ra)⟩
  | .dict _, _, _, h, _ => by rw [Rep] at h; exact h.elim
theorem readsAll_of (I : Inv X pins σ H s) : ∀ (ds : List PyData) (xs : List V) (us : List Value), Reps X.K H ds xs → Vals xs us → ∃ as, ReadsAll s.heap us ds as
  | [], xs, us, h, r => by rw [reps_nil.mp h] at r; cases r; exact ⟨_, .nil⟩
  | d :: ds, xs, us, h, r => by
    obtain ⟨x, q, rfl, h2, h3⟩ := reps_cons.mp h
    cases r with
    | cons r1 r2 =>
      obtain ⟨as, ra⟩ := reads_of I d x _ h2 r1
      obtain ⟨bs, rb⟩ := readsAll_of I ds q _ h3 r2
      exact ⟨_, .cons ra rb⟩
end
/-- ==, != of two data -/
def rEqD (K : PySem.W.Frag) (neg : Bool) : R2 := fun x y H Q => ∃ d d', Rep K H d x ∧ Rep K H d' y ∧ d.canLay0 = true ∧ d'.canLay0 = true ∧ min d.depth d'.depth ≤ 60 ∧ Q (.bl (if neg then !PyData.eqv d d' else PyData.eqv d d')) H
theorem op_eqD (hu : X.A.units + 64 < cLine) : OpR X (compareOp .Eq) (rEqD X.K false) := by
  intro pins s σ H x y v u Q I rx ry h
  obtain ⟨d, d', h1, h2, c1, c2, hm, q⟩ := h
  obtain ⟨as, ra⟩ := reads_of I d x v h1 rx
  obtain ⟨bs, rb⟩ := reads_of I d' y u h2 ry
  exact SeqAt.compareEq_reads ra rb c1 c2 (by omega) ⟨.bl (PyData.eqv d d'), H, I, rfl, q⟩
theorem op_neD (hu : X.A.units + 64 < cLine) : OpR X (compareOp .NotEq) (rEqD X.K true) := by
  intro pins s σ H x y v u Q I rx ry h
  obtain ⟨d, d', h1, h2, c1, c2, hm, q⟩ := h
  obtain ⟨as, ra⟩ := reads_of I d x v h1 rx
  obtain ⟨bs, rb⟩ := reads_of I d' y u h2 ry
  exact SeqAt.compareNe_reads ra rb c1 c2 (by omega) ⟨.bl (!PyData.eqv d d'), H, I, rfl, q⟩
/-! ### min, max, sum of a list of ints -/
theorem call_minL (hc : X.calm = true) : CallR X (.builtin "min") (fun xs H Q => ∃ a ns, xs = [.ref a] ∧ SqL X.K H a (ns.map V.int) ∧ ns ≠ [] ∧ ∀ M, M ∈ ns → (∀ b ∈ ns, M ≤ b) → Q (.int M) H) := by
  intro pins s σ H xs us Q I r h
  obtain ⟨a, ns, rfl, hq, hne, q⟩ := h
  obtain ⟨u, rfl, r1⟩ := vals1 r
  cases r1
  obtain ⟨its, rv, p, _⟩ := I.list hq
  obtain ⟨m, F⟩ := I.fr
  have hi := intsAre_of rv
  obtain ⟨ys, e⟩ := hi.allInts.items
  have hns : ns = ys.toList.map (·.1) := by rw [← hi.numsOf, ← nums_intItems, ← e]
  have hsz : 0 < ys.size := by
    have h3 : 0 < ns.length := List.length_pos_iff.mpr hne
    rw [hns, List.length_map, Array.length_toList] at h3; exact h3
  have hl := p.isList
  rw [e] at hl
  refine min_intList (I.ok.hd hc) hl hsz fun v h' tk hv hk => ?_
  obtain ⟨t, rfl⟩ := intItems_at hv
  obtain ⟨_, h2⟩ := argBest_lt (numAt ys) (ys.size - 1)
  refine ⟨.int _, H, I.kept (t' := tk) hk, ⟨t, rfl⟩, q _ ?_ fun b hb => ?_⟩
  · rw [hns, numAt_eq]; exact getD_mem (by rw [List.length_map, Array.length_toList]; omega)
  · rw [hns] at hb
    obtain ⟨j, hj, rfl⟩ := mem_getD hb
    rw [List.length_map, Array.length_toList] at hj
    rw [← numAt_eq]; exact h2 j (by omega)
theorem call_maxL (hc : X.calm = true) : CallR X (.builtin "max") (fun xs H Q => ∃ a ns, xs = [.ref a] ∧ SqL X.K H a (ns.map V.int) ∧ ns ≠ [] ∧ ∀ M, M ∈ ns → (∀ b ∈ ns, b ≤ M) → Q (.int M) H) := by
  intro pins s σ H xs us Q I r h
  obtain ⟨a, ns, rfl, hq, hne, q⟩ := h
  obtain ⟨u, rfl, r1⟩ := vals1 r
  cases r1
  obtain ⟨its, rv, p, _⟩ := I.list hq
  have hi := intsAre_of rv
  obtain ⟨ys, e⟩ := hi.allInts.items
  have hns : ns = ys.toList.map (·.1) := by rw [← hi.numsOf, ← nums_intItems, ← e]
  have hsz : 0 < ys.size := by
    have h3 : 0 < ns.length := List.length_pos_iff.mpr hne
    rw [hns, List.length_map, Array.length_toList] at h3; exact h3
  have hl := p.isList
  rw [e] at hl
  refine max_intList (I.ok.hd hc) hl hsz fun v h' tk hv hk => ?_
  obtain ⟨t, rfl⟩ := intItems_at hv
  obtain ⟨_, h2⟩ := argBest_gt (numAt ys) (ys.size - 1)
  refine ⟨.int _, H, I.kept (t' := tk) hk, ⟨t, rfl⟩, q _ ?_ fun b hb => ?_⟩
  · rw [hns, numAt_eq]; exact getD_mem (by rw [List.length_map, Array.length_toList]; omega)
  · rw [hns] at hb
    obtain ⟨j, hj, rfl⟩ := mem_getD hb
    rw [List.length_map, Array.length_toList] at hj
    rw [← numAt_eq]; exact h2 j (by omega)
end
end L2
end
section
set_option Elab.async false
set_option linter.all false
set_option maxRecDepth 100000
set_option maxHeartbeats 4000000
namespace L2
open PySem PySem.Spec PyProof.Rows
/-! ### THE DATA LEVEL: data in the slots, one list of two numbers (the feed) that may turn -/
inductive DV where
  | dat (d : PyData)
  | feed
  | own (k : Nat)
  | exc (C : Value)
abbrev DEnv := List (Option DV)
/-- the feed's place, and the places that are being written (a comprehension's list) -/
structure Fx where
  f : Option Addr
  M : List Addr
def hide (H : Hp) (f : Fx) : Hp := fun b => if f.f = some b ∨ b ∈ f.M then none else H b
structure FOk (f : Fx) (H : Hp) : Prop where
  fd : ∀ p, f.f = some p → ∃ a b : Int, H p = some (.lst [.int a, .int b]) ∧ 0 ≤ a ∧ 0 ≤ b ∧ b < 2147483647
  mm : ∀ b ∈ f.M, ∃ o, H b = some o
  nm : ∀ p, f.f = some p → p ∉ f.M
def RepV (K : PySem.W.Frag) (f : Fx) (H : Hp) : DV → V → Prop
  | .dat d, v => Rep K (hide H f) d v
  | .feed, v => ∃ p, f.f = some p ∧ v = .ref p
  | .own k, v => ∃ p, f.M.reverse[k]? = some p ∧ v = .ref p
  | .exc C, v => ∃ a, v = .ref a ∧ hide H f a = some (.ext fun h => ∃ o, h.get? a = some o ∧ o.cls = C)
structure Goes (f : Fx) (H H' : Hp) : Prop where
  sm : Same (hide H f) (hide H' f)
  ok : FOk f H'
  kp : ∀ b ∈ f.M, H' b = H b
structure EnvOk (K : PySem.W.Frag) (f : Fx) (ρ : DEnv) (σ : St) (H : Hp) : Prop where
  len : ρ.length = σ.length
  get : ∀ (i : Nat) x, ρ[i]? = some (some x) → ∃ v, σ[i]? = some (some v) ∧ RepV K f H x v
  fd : FOk f H
theorem hide_none (H : Hp) : hide H ⟨none, []⟩ = H := by funext b; unfold hide; rw [if_neg (by rintro (h | h) <;> cases h)]
theorem hide_same (H : Hp) (f : Fx) : Same (hide H f) H := fun b o h => by
  unfold hide at h
  split at h
  · cases h
  · exact h
theorem hide_of {H : Hp} {f : Fx} {b : Addr} {o : HO} (h : hide H f b = some o) : ¬ (f.f = some b ∨ b ∈ f.M) ∧ H b = some o := by
  unfold hide at h
  split at h
  · cases h
  · rename_i n; exact ⟨n, h⟩
theorem hide_get {H : Hp} {f : Fx} {b : Addr} {o : HO} (n : ¬ (f.f = some b ∨ b ∈ f.M)) (h : H b = some o) : hide H f b = some o := by unfold hide; rw [if_neg n]; exact h
theorem Goes.refl {f : Fx} {H : Hp} (h : FOk f H) : Goes f H H := ⟨Same.refl _, h, fun _ _ => rfl⟩
theorem Goes.trans {f : Fx} {H H1 H2 : Hp} (a : Goes f H H1) (b : Goes f H1 H2) : Goes f H H2 := ⟨a.1.trans b.1, b.2, fun x hx => (b.kp x hx).trans (a.kp x hx)⟩
theorem Goes.of_same {f : Fx} {H H' : Hp} (s : Same H H') (h : FOk f H) : Goes f H H' :=
  ⟨fun b o e => hide_get (hide_of e).1 (s b o (hide_of e).2), ⟨fun p e => let ⟨a, b, h1, h2⟩ := h.fd p e; ⟨a, b, s _ _ h1, h2⟩, fun b hb => let ⟨o, e⟩ := h.mm b hb; ⟨o, s _ _ e⟩, h.nm⟩, fun b hb => let ⟨o, e⟩ := h.mm b hb; (s _ _ e).trans e.symm⟩
theorem same_new {H : Hp} {p : Addr} (h : H p = none) (o : HO) : Same H (upd H p o) := fun b u q => by rw [upd_ne (ne_of_none q h)]; exact q
theorem RepV.mono {K : PySem.W.Frag} {f : Fx} {H H' : Hp} (g : Goes f H H') : ∀ {x : DV} {v : V}, RepV K f H x v → RepV K f H' x v
  | .dat d, v, h => Rep.mono g.1 d v h
  | .feed, v, h => h
  | .own _, v, h => h
  | .exc _, v, h => let ⟨a, e, q⟩ := h; ⟨a, e, g.1 _ _ q⟩
theorem EnvOk.mono {K : PySem.W.Frag} {f : Fx} {ρ : DEnv} {σ : St} {H H' : Hp} (e : EnvOk K f ρ σ H) (g : Goes f H H') : EnvOk K f ρ σ H' :=
  ⟨e.len, fun i x h => let ⟨v, h1, h2⟩ := e.get i x h; ⟨v, h1, h2.mono g⟩, g.2⟩
theorem EnvOk.set {K : PySem.W.Frag} {f : Fx} {ρ : DEnv} {σ : St} {H : Hp} {x : DV} {v : V} (e : EnvOk K f ρ σ H) (i : Nat) (r : RepV K f H x v) : EnvOk K f (ρ.set i (some x)) (σ.set i (some v)) H := by
  refine ⟨by rw [List.length_set, List.length_set]; exact e.len, fun j y h => ?_, e.fd⟩
  by_cases hj : i = j
  · subst hj
    by_cases hi : i < ρ.length
    · rw [List.getElem?_set_self hi] at h
      cases h
      exact ⟨v, by rw [List.getElem?_set_self (by rw [← e.len]; exact hi)], r⟩
    · rw [List.getElem?_eq_none (by rw [List.length_set]; omega)] at h; cases h
  · rw [List.getElem?_set_ne hj] at h ⊢
    exact e.get j y h
/-- a fresh thing: neither the feed nor what is written lies there -/
theorem fresh_ne {f : Fx} {H : Hp} {p : Addr} (h : FOk f H) (n : H p = none) : ¬ (f.f = some p ∨ p ∈ f.M) := fun e => by
  rcases e with e | e
  · obtain ⟨a, b, h1, _⟩ := h.fd p e
    rw [n] at h1; cases h1
  · obtain ⟨o, h1⟩ := h.mm p e
    rw [n] at h1; cases h1
inductive RepVs (K : PySem.W.Frag) (f : Fx) (H : Hp) : List DV → List V → Prop where
  | nil : RepVs K f H [] []
  | cons {x v xs vs} : RepV K f H x v → RepVs K f H xs vs → RepVs K f H (x :: xs) (v :: vs)
theorem RepVs.mono {K : PySem.W.Frag} {f : Fx} {H H' : Hp} (g : Goes f H H') : ∀ {xs : List DV} {vs : List V}, RepVs K f H xs vs → RepVs K f H' xs vs
  | _, _, .nil => .nil
  | _, _, .cons r t => .cons (r.mono g) (t.mono g)
theorem RepVs.length {K : PySem.W.Frag} {f : Fx} {H : Hp} : ∀ {xs : List DV} {vs : List V}, RepVs K f H xs vs → vs.length = xs.length
  | _, _, .nil => rfl
  | _, _, .cons _ t => by rw [List.length_cons, List.length_cons, t.length]

section
variable (K : PySem.W.Frag) (f : Fx)
def PEd (te : TE) (ρ : DEnv) (P : PyData → Prop) : Prop := ∀ (σ : St) (H : Hp) (Q : VK), EnvOk K f ρ σ H → (∀ d v H', Goes f H H' → Rep K (hide H' f) d v → P d → Q v H') → te σ H Q
def PTd (tt : TT) (ρ : DEnv) (P : Bool → Prop) : Prop := ∀ (σ : St) (H : Hp) (Q : Bool → Hp → Prop), EnvOk K f ρ σ H → (∀ b H', Goes f H H' → P b → Q b H') → tt σ H Q
def PAd (ta : TA) (ρ : DEnv) (P : List DV → Prop) : Prop := ∀ (σ : St) (H : Hp) (Q : List V → Hp → Prop), EnvOk K f ρ σ H → (∀ xs vs H', Goes f H H' → RepVs K f H' xs vs → P xs → Q vs H') → ta σ H Q
structure DEnds where
  nx : DEnv → Prop
  rt : PyData → Prop
  bk : DEnv → Prop := fun _ => False
  ct : DEnv → Prop := fun _ => False
def PSd (ts : TS) (ρ : DEnv) (D : DEnds) : Prop := ∀ (σ : St) (H : Hp) (E : Ends), EnvOk K f ρ σ H → (∀ ρ' σ' H', Goes f H H' → EnvOk K f ρ' σ' H' → D.nx ρ' → E.nx σ' H') → (∀ d v H', Goes f H H' → Rep K (hide H' f) d v → D.rt d → E.rt v H') →
  (∀ ρ' σ' H', Goes f H H' → EnvOk K f ρ' σ' H' → D.bk ρ' → E.bk σ' H') → (∀ ρ' σ' H', Goes f H H' → EnvOk K f ρ' σ' H' → D.ct ρ' → E.ct σ' H') → ts E σ H
/-- a def's promise over data; c: what the caller knows -/
def spD {γ : Type} (n : Nat) (pre : γ → List DV → Prop) (post : γ → PyData → Prop) : Sp := fun vs H Q _ => ∃ f xs c, RepVs K f H xs vs ∧ xs.length = n ∧ FOk f H ∧ pre c xs ∧ ∀ r v H', Goes f H H' → Rep K (hide H' f) r v → post c r → Q v H'
end
section
variable {K : PySem.W.Frag} {f : Fx} {ρ : DEnv} {P : PyData → Prop} {te ta tb tc : TE}
theorem d_var {i : Nat} {d : PyData} (h : ρ[i]? = some (some (.dat d))) (p : P d) : PEd K f (tVar i) ρ P := fun σ H Q e q => by
  obtain ⟨v, h1, h2⟩ := e.get i _ h
  exact ⟨v, h1, q d v H (.refl e.fd) h2 p⟩
theorem d_int {i : Int} (p : P (.int i)) : PEd K f (tC (.int i)) ρ P := fun σ H Q e q => q (.int i) _ H (.refl e.fd) (rep_int.mpr rfl) p
theorem d_bl {i : Bool} (p : P (.bool i)) : PEd K f (tC (.bl i)) ρ P := fun σ H Q e q => q (.bool i) _ H (.refl e.fd) (rep_bool.mpr rfl) p
theorem d_str {i : Str} (p : P (.str i)) : PEd K f (tC (.str i)) ρ P := fun σ H Q e q => q (.str i) _ H (.refl e.fd) (rep_str.mpr rfl) p
theorem d_non (p : P .none) : PEd K f (tC .non) ρ P := fun σ H Q e q => q .none _ H (.refl e.fd) (rep_none.mpr rfl) p
theorem PEd.imp {P' : PyData → Prop} (h : PEd K f te ρ P) (i : ∀ d, P d → P' d) : PEd K f te ρ P' := fun σ H Q e q => h σ H Q e fun d v H' g r p => q d v H' g r (i d p)
/-- two expressions, then an operation on values -/
theorem d_op {r : R2} (h : PEd K f ta ρ fun x => PEd K f tb ρ fun y => ∀ (v w : V) (H : Hp) (Q : VK), FOk f H → Rep K (hide H f) x v → Rep K (hide H f) y w → (∀ d u H', Goes f H H' → Rep K (hide H' f) d u → P d → Q u H') → r v w H Q) : PEd K f (tOp r ta tb) ρ P := fun σ H Q e q =>
  h σ H _ e fun x v H1 g1 r1 p1 => p1 σ H1 _ (e.mono g1) fun y w H2 g2 r2 p2 => p2 v w H2 Q g2.2 (Rep.mono g2.1 x v r1) r2 fun d u H' g' r' p' => q d u H' (g1.trans (g2.trans g')) r' p'
theorem d_un {r : V → Hp → VK → Prop} (h : PEd K f ta ρ fun x => ∀ (v : V) (H : Hp) (Q : VK), FOk f H → Rep K (hide H f) x v → (∀ d u H', Goes f H H' → Rep K (hide H' f) d u → P d → Q u H') → r v H Q) : PEd K f (tUn r ta) ρ P := fun σ H Q e q =>
  h σ H _ e fun x v H1 g1 r1 p1 => p1 v H1 Q g1.2 r1 fun d u H' g' r' p' => q d u H' (g1.trans g') r' p'
theorem d_opI {g : Int → Int → Int} (h : PEd K f ta ρ fun x => ∃ i, x = .int i ∧ PEd K f tb ρ fun y => ∃ j, y = .int j ∧ P (.int (g i j))) : PEd K f (tOp (rI0 fun i j => .int (g i j)) ta tb) ρ P :=
  d_op (h.imp fun x ⟨i, ex, h2⟩ => h2.imp fun y ⟨j, ey, p⟩ v w H Q fo rx ry q => by
    subst ex ey
    exact ⟨i, j, rep_int.mp rx, rep_int.mp ry, q _ _ H (.refl fo) (rep_int.mpr rfl) p⟩)
theorem d_opIC {C : Int → Int → Prop} {g : Int → Int → Int} (h : PEd K f ta ρ fun x => ∃ i, x = .int i ∧ PEd K f tb ρ fun y => ∃ j, y = .int j ∧ C i j ∧ P (.int (g i j))) : PEd K f (tOp (rI C fun i j => .int (g i j)) ta tb) ρ P :=
  d_op (h.imp fun x ⟨i, ex, h2⟩ => h2.imp fun y ⟨j, ey, c, p⟩ v w H Q fo rx ry q => by
    subst ex ey
    exact ⟨i, j, rep_int.mp rx, rep_int.mp ry, c, q _ _ H (.refl fo) (rep_int.mpr rfl) p⟩)
theorem d_opB {g : Int → Int → Bool} (h : PEd K f ta ρ fun x => ∃ i, x = .int i ∧ PEd K f tb ρ fun y => ∃ j, y = .int j ∧ P (.bool (g i j))) : PEd K f (tOp (rI0 fun i j => .bl (g i j)) ta tb) ρ P :=
  d_op (h.imp fun x ⟨i, ex, h2⟩ => h2.imp fun y ⟨j, ey, p⟩ v w H Q fo rx ry q => by
    subst ex ey
    exact ⟨i, j, rep_int.mp rx, rep_int.mp ry, q _ _ H (.refl fo) (rep_bool.mpr rfl) p⟩)
theorem d_eqD {neg : Bool} (h : PEd K f ta ρ fun x => PEd K f tb ρ fun y => x.canLay0 = true ∧ y.canLay0 = true ∧ min x.depth y.depth ≤ 60 ∧ P (.bool (if neg then !PyData.eqv x y else PyData.eqv x y))) : PEd K f (tOp (rEqD K neg) ta tb) ρ P :=
  d_op (h.imp fun x h2 => h2.imp fun y ⟨c1, c2, c3, p⟩ v w H Q fo rx ry q =>
    ⟨x, y, Rep.mono (hide_same _ _) x v rx, Rep.mono (hide_same _ _) y w ry, c1, c2, c3, q _ _ H (.refl fo) (rep_bool.mpr rfl) p⟩)
theorem ixN_of {n : Nat} {k : Int} {j : Nat} (h : (j : Int) = k) (hj : j < n) : ixN n k = some j := by
  unfold ixN
  rw [if_pos (by omega), if_pos (by omega)]
  congr 1
  omega
theorem d_ixL (h : PEd K f ta ρ fun x => ∃ ds, x = .list ds ∧ PEd K f tb ρ fun y => ∃ k, y = .int k ∧ ∃ d, atI ds k = some d ∧ P d) : PEd K f (tOp (rIxL K) ta tb) ρ P :=
  d_op (h.imp fun x ⟨ds, ex, h2⟩ => h2.imp fun y ⟨k, ey, d, a, p⟩ v w H Q fo rx ry q => by
    subst ex ey
    obtain ⟨l, xs, rfl, hs, hr⟩ := rep_list.mp rx
    unfold atI at a
    cases hi : ixN ds.length k with
    | none => rw [hi] at a; cases a
    | some j =>
      rw [hi] at a
      obtain ⟨u, hu, ru⟩ := hr.get a
      exact ⟨l, xs, k, u, rfl, rep_int.mp ry, (hide_same H f).seq hs, by unfold atI; rw [hr.length, hi]; exact hu, q d u H (.refl fo) ru p⟩)
theorem d_ixT (h : PEd K f ta ρ fun x => ∃ ds, x = .tuple ds ∧ PEd K f tb ρ fun y => ∃ k, y = .int k ∧ ∃ d, atI ds k = some d ∧ P d) : PEd K f (tOp (rIxT K) ta tb) ρ P :=
  d_op (h.imp fun x ⟨ds, ex, h2⟩ => h2.imp fun y ⟨k, ey, d, a, p⟩ v w H Q fo rx ry q => by
    subst ex ey
    obtain ⟨l, xs, rfl, hs, hr⟩ := rep_tuple.mp rx
    unfold atI at a
    cases hi : ixN ds.length k with
    | none => rw [hi] at a; cases a
    | some j =>
      rw [hi] at a
      obtain ⟨u, hu, ru⟩ := hr.get a
      exact ⟨l, xs, k, u, rfl, rep_int.mp ry, (hide_same H f).seqT hs, by unfold atI; rw [hr.length, hi]; exact hu, q d u H (.refl fo) ru p⟩)
/-- the feed's two numbers are read -/
theorem d_ixF {i : Nat} (hi : ρ[i]? = some (some .feed)) (h : PEd K f tb ρ fun y => (y = .int 0 ∧ ∀ a : Int, 0 ≤ a → P (.int a)) ∨ (y = .int 1 ∧ ∀ b : Int, 0 ≤ b → b < 2147483647 → P (.int b))) : PEd K f (tOp (rIxL K) (tVar i) tb) ρ P := fun σ H Q e q => by
  obtain ⟨v, h1, p, ef, ev⟩ := e.get i _ hi
  refine ⟨v, h1, h σ H _ e fun y w H' g r c => ?_⟩
  obtain ⟨a, b, hf, c1, c2, c3⟩ := g.2.fd p ef
  rcases c with ⟨rfl, c⟩ | ⟨rfl, c⟩
  · exact ⟨p, _, 0, .int a, ev, rep_int.mp r, SqL.of hf, rfl, q (.int a) _ H' g (rep_int.mpr rfl) (c a c1)⟩
  · exact ⟨p, _, 1, .int b, ev, rep_int.mp r, SqL.of hf, rfl, q (.int b) _ H' g (rep_int.mpr rfl) (c b c2 c3)⟩
/-! ### arguments -/
theorem a_nil {R : List DV → Prop} (p : R []) : PAd K f tNil ρ R := fun σ H Q e q => q [] [] H (.refl e.fd) .nil p
theorem a_cons {R : List DV → Prop} {u : TA} (h : PEd K f te ρ fun x => PAd K f u ρ fun xs => R (.dat x :: xs)) : PAd K f (tCons te u) ρ R := fun σ H Q e q =>
  h σ H _ e fun x v H1 g1 r1 p1 => p1 σ H1 _ (e.mono g1) fun xs vs H2 g2 r2 p2 => q (.dat x :: xs) (v :: vs) H2 (g1.trans g2) (.cons (RepV.mono (x := .dat x) g2 r1) r2) p2
theorem a_feed {R : List DV → Prop} {u : TA} {i : Nat} (hi : ρ[i]? = some (some .feed)) (h : PAd K f u ρ fun xs => R (.feed :: xs)) : PAd K f (tCons (tVar i) u) ρ R := fun σ H Q e q => by
  obtain ⟨v, h1, h2⟩ := e.get i _ hi
  exact ⟨v, h1, h σ H _ e fun xs vs H2 g2 r2 p2 => q (.feed :: xs) (v :: vs) H2 g2 (.cons (RepV.mono (x := .feed) g2 h2) r2) p2⟩
def allDat : List DV → Option (List PyData)
  | [] => some []
  | .dat d :: r => (allDat r).map (d :: ·)
  | .feed :: _ => none
  | .own _ :: _ => none
  | .exc _ :: _ => none
theorem reps_of {H : Hp} : ∀ {xs : List DV} {vs : List V} {ds : List PyData}, RepVs K f H xs vs → allDat xs = some ds → Reps K (hide H f) ds vs
  | _, _, ds, .nil, e => by cases e; exact .nil'
  | .dat d :: xs, v :: vs, ds, .cons r t, e => by
    unfold allDat at e
    cases q : allDat xs with
    | none => rw [q] at e; cases e
    | some es => rw [q] at e; cases e; exact .cons' r (reps_of t q)
  | .feed :: xs, _, ds, .cons r t, e => by cases e
  | .own _ :: xs, _, ds, .cons r t, e => by cases e
  | .exc _ :: xs, _, ds, .cons r t, e => by cases e
theorem d_lst {t : TA} (h : PAd K f t ρ fun xs => ∃ ds, allDat xs = some ds ∧ ds.length ≤ 1000 ∧ P (.list ds)) : PEd K f (tLst t) ρ P := fun σ H Q e q =>
  h σ H _ e fun xs vs H1 g1 r1 ⟨ds, ea, hl, p⟩ => by
    have rs := reps_of r1 ea
    refine ⟨by rw [rs.length]; exact Nat.le_of_lt (small1000 hl), fun l hn => ?_⟩
    have sm := same_new hn (.lst vs)
    have g2 : Goes f H1 (upd H1 l (.lst vs)) := .of_same sm g1.2
    exact q (.list ds) _ _ (g1.trans g2) (rep_list.mpr ⟨l, vs, rfl, .of (hide_get (fresh_ne g1.2 hn) upd_same), Reps.mono g2.1 ds vs rs⟩) p
theorem d_tup {t : TA} (h : PAd K f t ρ fun xs => ∃ ds, allDat xs = some ds ∧ ds.length ≤ 1000 ∧ P (.tuple ds)) : PEd K f (tTup t) ρ P := fun σ H Q e q =>
  h σ H _ e fun xs vs H1 g1 r1 ⟨ds, ea, hl, p⟩ => by
    have rs := reps_of r1 ea
    refine ⟨by rw [rs.length]; exact Nat.le_of_lt (small1000 hl), fun l hn => ?_⟩
    have sm := same_new hn (.tup vs)
    have g2 : Goes f H1 (upd H1 l (.tup vs)) := .of_same sm g1.2
    exact q (.tuple ds) _ _ (g1.trans g2) (rep_tuple.mpr ⟨l, vs, rfl, .of (hide_get (fresh_ne g1.2 hn) upd_same), Reps.mono g2.1 ds vs rs⟩) p
theorem d_call {γ : Type} {n : Nat} {pre : γ → List DV → Prop} {post : γ → PyData → Prop} {E : XK} {t : TA} (c : γ) (h : PAd K f t ρ fun xs => xs.length = n ∧ pre c xs ∧ ∀ r, post c r → P r) : PEd K f (tCall (spD K n pre post) [] E t) ρ P := fun σ H Q e q =>
  h σ H _ e fun xs vs H1 g1 r1 ⟨hl, hp, k⟩ => by
    refine ⟨f, xs, c, by rw [List.append_nil]; exact r1, hl, g1.2, hp, fun r v H' g' r' p' => q r v H' (g1.trans g') r' (k r p')⟩
/-- a built-in that reads -/
theorem d_cb {r : List V → Hp → VK → Prop} {t : TA} (h : PAd K f t ρ fun xs => ∃ ds, allDat xs = some ds ∧ ∀ (vs : List V) (H : Hp) (Q : VK), FOk f H → Reps K (hide H f) ds vs → (∀ d u H', Goes f H H' → Rep K (hide H' f) d u → P d → Q u H') → r vs H Q) : PEd K f (tCB r t) ρ P := fun σ H Q e q =>
  h σ H _ e fun xs vs H1 g1 r1 ⟨ds, ea, k⟩ => k vs H1 Q g1.2 (reps_of r1 ea) fun d u H' g' r' p' => q d u H' (g1.trans g') r' p'
end
end L2
end
section
set_option Elab.async false
set_option linter.all false
set_option maxRecDepth 100000
set_option maxHeartbeats 4000000
namespace L2
open PySem PySem.Spec PyProof.Rows
section
variable {K : PySem.W.Frag} {f : Fx} {ρ : DEnv} {P : PyData → Prop} {B : Bool → Prop} {te ta tb tc : TE} {tt tu : TT}
/-! ### tests -/
theorem PTd.imp {B' : Bool → Prop} (h : PTd K f tt ρ B) (i : ∀ d, B d → B' d) : PTd K f tt ρ B' := fun σ H Q e q => h σ H Q e fun d H' g p => q d H' g (i d p)
theorem t_test (h : PEd K f te ρ fun d => ∃ k, d = .bool k ∧ B k) : PTd K f (tTest te) ρ B := fun σ H Q e q => h σ H _ e fun d v H' g r ⟨k, ed, p⟩ => by
  subst ed
  exact ⟨k, rep_bool.mp r, q k H' g p⟩
theorem t_b (h : PEd K f te ρ fun d => ∃ k, d = .bool k ∧ B k) : PTd K f (tB te) ρ B := fun σ H Q e q => h σ H _ e fun d v H' g r ⟨k, ed, p⟩ => by
  subst ed
  exact ⟨k, rep_bool.mp r, q k H' g p⟩
theorem t_and (h : PTd K f tt ρ fun c => if c = true then PTd K f tu ρ B else B false) : PTd K f (tAnd tt tu) ρ B := fun σ H Q e q => h σ H _ e fun c H1 g p => by
  cases c with
  | true =>
    rw [if_pos rfl] at p ⊢
    exact p σ H1 Q (e.mono g) fun b H2 g2 p2 => q b H2 (g.trans g2) p2
  | false =>
    rw [if_neg Bool.false_ne_true] at p ⊢
    exact q false H1 g p
theorem t_or (h : PTd K f tt ρ fun c => if c = true then B true else PTd K f tu ρ B) : PTd K f (tOr tt tu) ρ B := fun σ H Q e q => h σ H _ e fun c H1 g p => by
  cases c with
  | true =>
    rw [if_pos rfl] at p ⊢
    exact q true H1 g p
  | false =>
    rw [if_neg Bool.false_ne_true] at p ⊢
    exact p σ H1 Q (e.mono g) fun b H2 g2 p2 => q b H2 (g.trans g2) p2
theorem t_not (h : PTd K f tt ρ fun c => B (!c)) : PTd K f (tNot tt) ρ B := fun σ H Q e q => h σ H _ e fun c H1 g p => q (!c) H1 g p
def truD : PyData → Option Bool
  | .none => some false
  | .bool b => some b
  | .int i => some (i != 0)
  | .list ds => some (!ds.isEmpty)
  | .tuple ds => some (!ds.isEmpty)
  | _ => none
def tTru (K : PySem.W.Frag) (ta : TE) : TT := fun σ H Q => ta σ H fun x H' => ∃ k, TruV K x H' k ∧ Q k H'
theorem pt_tru {X : Cx} {a : Expr} (ha : PE X a ta) (he : ∀ whole, isTrue a X.env whole = (do let v ← whole; standAt a.pos; holding [v] (truthy v))) : PT X a (tTru X.K ta) := pt_truth ha he
theorem t_tru (h : PEd K f ta ρ fun d => ∃ k, truD d = some k ∧ B k) : PTd K f (tTru K ta) ρ B := fun σ H Q e q => h σ H _ e fun d v H' g r ⟨k, ed, p⟩ => by
  refine ⟨k, ?_, q k H' g p⟩
  cases d with
  | none => rw [rep_none.mp r]; cases ed; rfl
  | bool b => rw [rep_bool.mp r]; cases ed; rfl
  | int i => rw [rep_int.mp r]; cases ed; rfl
  | str x => cases ed
  | list ds =>
    obtain ⟨a, xs, rfl, h1, h2⟩ := rep_list.mp r
    cases ed
    refine .inl ⟨xs, (hide_same _ _).seq h1, ?_⟩
    cases ds with
    | nil => rw [reps_nil.mp h2]; rfl
    | cons d ds => obtain ⟨x, r, rfl, _⟩ := reps_cons.mp h2; rfl
  | tuple ds =>
    obtain ⟨a, xs, rfl, h1, h2⟩ := rep_tuple.mp r
    cases ed
    refine .inr (.inl ⟨xs, (hide_same _ _).seqT h1, ?_⟩)
    cases ds with
    | nil => rw [reps_nil.mp h2]; rfl
    | cons d ds => obtain ⟨x, r, rfl, _⟩ := reps_cons.mp h2; rfl
  | dict _ => cases ed
/-! ### values by tests -/
theorem d_if (h : PTd K f tt ρ fun c => if c = true then PEd K f ta ρ P else PEd K f tb ρ P) : PEd K f (tIf tt ta tb) ρ P := fun σ H Q e q => h σ H _ e fun c H1 g p => by
  cases c with
  | true => rw [if_pos rfl] at p ⊢; exact p σ H1 Q (e.mono g) fun d v H2 g2 r2 p2 => q d v H2 (g.trans g2) r2 p2
  | false => rw [if_neg Bool.false_ne_true] at p ⊢; exact p σ H1 Q (e.mono g) fun d v H2 g2 r2 p2 => q d v H2 (g.trans g2) r2 p2
theorem d_andV (h : PEd K f ta ρ fun x => ∃ c, x = .bool c ∧ if c = true then PEd K f tb ρ P else P (.bool false)) : PEd K f (tAndV ta tb) ρ P := fun σ H Q e q => h σ H _ e fun x v H1 g r ⟨c, ex, p⟩ => by
  subst ex
  refine ⟨c, rep_bool.mp r, ?_⟩
  cases c with
  | true => rw [if_pos rfl] at p ⊢; exact p σ H1 Q (e.mono g) fun d v H2 g2 r2 p2 => q d v H2 (g.trans g2) r2 p2
  | false => rw [if_neg Bool.false_ne_true] at p ⊢; exact q _ _ H1 g (rep_bool.mpr rfl) p
theorem d_orV (h : PEd K f ta ρ fun x => ∃ c, x = .bool c ∧ if c = true then P (.bool true) else PEd K f tb ρ P) : PEd K f (tOrV ta tb) ρ P := fun σ H Q e q => h σ H _ e fun x v H1 g r ⟨c, ex, p⟩ => by
  subst ex
  refine ⟨c, rep_bool.mp r, ?_⟩
  cases c with
  | true => rw [if_pos rfl] at p ⊢; exact q _ _ H1 g (rep_bool.mpr rfl) p
  | false => rw [if_neg Bool.false_ne_true] at p ⊢; exact p σ H1 Q (e.mono g) fun d v H2 g2 r2 p2 => q d v H2 (g.trans g2) r2 p2
theorem d_notV (h : PEd K f ta ρ fun x => ∃ c, x = .bool c ∧ P (.bool !c)) : PEd K f (tNotV ta) ρ P := fun σ H Q e q => h σ H _ e fun x v H1 g r ⟨c, ex, p⟩ => by
  subst ex
  exact ⟨c, rep_bool.mp r, q _ _ H1 g (rep_bool.mpr rfl) p⟩
/-- i op j op' k over ints -/
theorem d_chain {g g' : Int → Int → Bool} (h : PEd K f ta ρ fun x => ∃ i, x = .int i ∧ PEd K f tb ρ fun y => ∃ j, y = .int j ∧ if g i j = true then PEd K f tc ρ fun z => ∃ k, z = .int k ∧ P (.bool (g' j k)) else P (.bool false)) :
    PEd K f (tChain (rI0 fun i j => .bl (g i j)) (rI0 fun i j => .bl (g' i j)) ta tb tc) ρ P := fun σ H Q e q => h σ H _ e fun x v H1 g1 r1 ⟨i, ex, p1⟩ => p1 σ H1 _ (e.mono g1) fun y w H2 g2 r2 ⟨j, ey, p2⟩ => by
  subst ex ey
  refine ⟨i, j, rep_int.mp r1, rep_int.mp r2, g i j, rfl, ?_⟩
  by_cases hg : g i j = true
  · rw [if_pos hg] at p2 ⊢
    exact p2 σ H2 _ ((e.mono g1).mono g2) fun z u H3 g3 r3 ⟨k, ez, p3⟩ => by
      subst ez
      exact ⟨j, k, rep_int.mp r2, rep_int.mp r3, q _ _ H3 (g1.trans (g2.trans g3)) (rep_bool.mpr rfl) p3⟩
  · rw [if_neg hg] at p2 ⊢
    exact q _ _ H2 (g1.trans g2) (rep_bool.mpr rfl) p2
/-! ### built-ins -/
theorem d_len {t : TA} (h : PAd K f t ρ fun xs => (∃ ds, xs = [.dat (.list ds)] ∧ P (.int ds.length)) ∨ (∃ ds, xs = [.dat (.tuple ds)] ∧ P (.int ds.length))) :
    PEd K f (tCB (fun xs H Q => ∃ p ys, xs = [.ref p] ∧ (SqL K H p ys ∨ SqT K H p ys) ∧ Q (.int ys.length) H) t) ρ P :=
  d_cb fun σ H Q e q => h σ H Q e fun xs vs H' g r p => by
    rcases p with ⟨ds, rfl, p⟩ | ⟨ds, rfl, p⟩
    · refine q _ vs H' g r ⟨_, rfl, fun vs H Q fo rs k => ?_⟩
      obtain ⟨x, r, rfl, h2, h3⟩ := reps_cons.mp rs
      rw [reps_nil.mp h3]
      obtain ⟨a, ys, rfl, s1, s2⟩ := rep_list.mp h2
      exact ⟨a, ys, rfl, .inl ((hide_same _ _).seq s1), k (.int ds.length) _ H (.refl fo) (rep_int.mpr (by rw [s2.length])) p⟩
    · refine q _ vs H' g r ⟨_, rfl, fun vs H Q fo rs k => ?_⟩
      obtain ⟨x, r, rfl, h2, h3⟩ := reps_cons.mp rs
      rw [reps_nil.mp h3]
      obtain ⟨a, ys, rfl, s1, s2⟩ := rep_tuple.mp h2
      exact ⟨a, ys, rfl, .inr ((hide_same _ _).seqT s1), k (.int ds.length) _ H (.refl fo) (rep_int.mpr (by rw [s2.length])) p⟩
theorem d_minL {t : TA} (h : PAd K f t ρ fun xs => ∃ ns : List Int, xs = [.dat (.list (ns.map .int))] ∧ ns ≠ [] ∧ ∀ M, M ∈ ns → (∀ b ∈ ns, M ≤ b) → P (.int M)) :
    PEd K f (tCB (fun xs H Q => ∃ a ns, xs = [.ref a] ∧ SqL K H a (ns.map V.int) ∧ ns ≠ [] ∧ ∀ M, M ∈ ns → (∀ b ∈ ns, M ≤ b) → Q (.int M) H) t) ρ P :=
  d_cb fun σ H Q e q => h σ H Q e fun xs vs H' g r ⟨ns, ex, hne, p⟩ => by
    subst ex
    refine q _ vs H' g r ⟨_, rfl, fun vs H Q fo rs k => ?_⟩
    obtain ⟨x, r, rfl, h2, h3⟩ := reps_cons.mp rs
    rw [reps_nil.mp h3]
    obtain ⟨a, ys, rfl, s1, s2⟩ := rep_list.mp h2
    rw [s2.ints] at s1
    exact ⟨a, ns, rfl, (hide_same _ _).seq s1, hne, fun M h1 h2 => k (.int M) _ H (.refl fo) (rep_int.mpr rfl) (p M h1 h2)⟩
theorem d_maxL {t : TA} (h : PAd K f t ρ fun xs => ∃ ns : List Int, xs = [.dat (.list (ns.map .int))] ∧ ns ≠ [] ∧ ∀ M, M ∈ ns → (∀ b ∈ ns, b ≤ M) → P (.int M)) :
    PEd K f (tCB (fun xs H Q => ∃ a ns, xs = [.ref a] ∧ SqL K H a (ns.map V.int) ∧ ns ≠ [] ∧ ∀ M, M ∈ ns → (∀ b ∈ ns, b ≤ M) → Q (.int M) H) t) ρ P :=
  d_cb fun σ H Q e q => h σ H Q e fun xs vs H' g r ⟨ns, ex, hne, p⟩ => by
    subst ex
    refine q _ vs H' g r ⟨_, rfl, fun vs H Q fo rs k => ?_⟩
    obtain ⟨x, r, rfl, h2, h3⟩ := reps_cons.mp rs
    rw [reps_nil.mp h3]
    obtain ⟨a, ys, rfl, s1, s2⟩ := rep_list.mp h2
    rw [s2.ints] at s1
    exact ⟨a, ns, rfl, (hide_same _ _).seq s1, hne, fun M h1 h2 => k (.int M) _ H (.refl fo) (rep_int.mpr rfl) (p M h1 h2)⟩
/-- a built-in upon two ints -/
theorem d_cbI2 {g : Int → Int → Int} {t : TA} (h : PAd K f t ρ fun xs => ∃ i j, xs = [.dat (.int i), .dat (.int j)] ∧ P (.int (g i j))) : PEd K f (tCB (fun xs H Q => ∃ i j, xs = [.int i, .int j] ∧ Q (.int (g i j)) H) t) ρ P :=
  d_cb fun σ H Q e q => h σ H Q e fun xs vs H' g' r ⟨i, j, ex, p⟩ => by
    subst ex
    refine q _ vs H' g' r ⟨_, rfl, fun vs H Q fo rs k => ?_⟩
    obtain ⟨x, r, rfl, h2, h3⟩ := reps_cons.mp rs
    obtain ⟨y, r', rfl, h4, h5⟩ := reps_cons.mp h3
    rw [reps_nil.mp h5, rep_int.mp h2, rep_int.mp h4]
    exact ⟨i, j, rfl, k _ _ H (.refl fo) (rep_int.mpr rfl) p⟩
theorem d_cbI1 {g : Int → Int} {t : TA} (h : PAd K f t ρ fun xs => ∃ i, xs = [.dat (.int i)] ∧ P (.int (g i))) : PEd K f (tCB (fun xs H Q => ∃ i, xs = [.int i] ∧ Q (.int (g i)) H) t) ρ P :=
  d_cb fun σ H Q e q => h σ H Q e fun xs vs H' g' r ⟨i, ex, p⟩ => by
    subst ex
    refine q _ vs H' g' r ⟨_, rfl, fun vs H Q fo rs k => ?_⟩
    obtain ⟨x, r, rfl, h2, h3⟩ := reps_cons.mp rs
    rw [reps_nil.mp h3, rep_int.mp h2]
    exact ⟨i, rfl, k _ _ H (.refl fo) (rep_int.mpr rfl) p⟩
/-- list(xs) -/
theorem d_listof {t : TA} (h : PAd K f t ρ fun xs => (∃ ds, xs = [.dat (.list ds)] ∧ P (.list ds)) ∨ (∃ ds, xs = [.dat (.tuple ds)] ∧ P (.list ds))) :
    PEd K f (tCB (fun xs H Q => ∃ p ys, xs = [.ref p] ∧ (SqL K H p ys ∨ SqT K H p ys) ∧ ∀ l, H l = none → Q (.ref l) (upd H l (.lst ys))) t) ρ P :=
  d_cb fun σ H Q e q => h σ H Q e fun xs vs H' g r p => by
    rcases p with ⟨ds, rfl, p⟩ | ⟨ds, rfl, p⟩
    · refine q _ vs H' g r ⟨_, rfl, fun vs H Q fo rs k => ?_⟩
      obtain ⟨x, r, rfl, h2, h3⟩ := reps_cons.mp rs
      rw [reps_nil.mp h3]
      obtain ⟨a, ys, rfl, s1, s2⟩ := rep_list.mp h2
      refine ⟨a, ys, rfl, .inl ((hide_same _ _).seq s1), fun l hn => ?_⟩
      have g2 : Goes f H (upd H l (.lst ys)) := .of_same (same_new hn _) fo
      exact k (.list ds) _ _ g2 (rep_list.mpr ⟨l, ys, rfl, .of (hide_get (fresh_ne fo hn) upd_same), Reps.mono g2.1 ds ys s2⟩) p
    · refine q _ vs H' g r ⟨_, rfl, fun vs H Q fo rs k => ?_⟩
      obtain ⟨x, r, rfl, h2, h3⟩ := reps_cons.mp rs
      rw [reps_nil.mp h3]
      obtain ⟨a, ys, rfl, s1, s2⟩ := rep_tuple.mp h2
      refine ⟨a, ys, rfl, .inr ((hide_same _ _).seqT s1), fun l hn => ?_⟩
      have g2 : Goes f H (upd H l (.lst ys)) := .of_same (same_new hn _) fo
      exact k (.list ds) _ _ g2 (rep_list.mpr ⟨l, ys, rfl, .of (hide_get (fresh_ne fo hn) upd_same), Reps.mono g2.1 ds ys s2⟩) p
end
/-! ### statements -/
section
variable {K : PySem.W.Frag} {f : Fx} {ρ : DEnv} {D : DEnds} {te ta tb : TE} {tt : TT} {ts tu : TS}
theorem PSd.imp {D' : DEnds} (h : PSd K f ts ρ D) (h1 : ∀ r, D.nx r → D'.nx r) (h2 : ∀ r, D.rt r → D'.rt r) (h3 : ∀ r, D.bk r → D'.bk r) (h4 : ∀ r, D.ct r → D'.ct r) : PSd K f ts ρ D' := fun σ H E e n r b c =>
  h σ H E e (fun ρ' σ' H' g e' p => n ρ' σ' H' g e' (h1 _ p)) (fun d v H' g r' p => r d v H' g r' (h2 _ p)) (fun ρ' σ' H' g e' p => b ρ' σ' H' g e' (h3 _ p)) (fun ρ' σ' H' g e' p => c ρ' σ' H' g e' (h4 _ p))
theorem s_nil (p : D.nx ρ) : PSd K f tNext ρ D := fun σ H E e n _ _ _ => n ρ σ H (.refl e.fd) e p
theorem s_seq (h : PSd K f ts ρ { D with nx := fun ρ' => PSd K f tu ρ' D }) : PSd K f (tSeq ts tu) ρ D := fun σ H E e n r b c =>
  h σ H { E with nx := tu E } e (fun ρ' σ' H' g e' p => p σ' H' E e' (fun ρ'' σ'' H'' g' e'' p' => n ρ'' σ'' H'' (g.trans g') e'' p') (fun d v H'' g' r' p' => r d v H'' (g.trans g') r' p') (fun ρ'' σ'' H'' g' e'' p' => b ρ'' σ'' H'' (g.trans g') e'' p') (fun ρ'' σ'' H'' g' e'' p' => c ρ'' σ'' H'' (g.trans g') e'' p')) r b c
theorem s_ret (h : PEd K f te ρ D.rt) : PSd K f (tRet te) ρ D := fun σ H E e n r b c => h σ H _ e r
theorem s_retN (h : D.rt .none) : PSd K f tRetN ρ D := fun σ H E e n r b c => r .none _ H (.refl e.fd) (rep_none.mpr rfl) h
theorem s_drop (h : PEd K f te ρ fun _ => D.nx ρ) : PSd K f (tDrop te) ρ D := fun σ H E e n r b c => h σ H _ e fun d v H' g _ p => n ρ σ H' g (e.mono g) p
theorem s_brk (h : D.bk ρ) : PSd K f tBreak ρ D := fun σ H E e n r b c => b ρ σ H (.refl e.fd) e h
theorem s_cont (h : D.ct ρ) : PSd K f tCont ρ D := fun σ H E e n r b c => c ρ σ H (.refl e.fd) e h
theorem s_if (h : PTd K f tt ρ fun b => if b = true then PSd K f ts ρ D else PSd K f tu ρ D) : PSd K f (tIfS tt ts tu) ρ D := fun σ H E e n r b c => h σ H _ e fun k H1 g p => by
  cases k with
  | true =>
    rw [if_pos rfl] at p ⊢
    exact p σ H1 E (e.mono g) (fun ρ'' σ'' H'' g' e'' p' => n ρ'' σ'' H'' (g.trans g') e'' p') (fun d v H'' g' r' p' => r d v H'' (g.trans g') r' p') (fun ρ'' σ'' H'' g' e'' p' => b ρ'' σ'' H'' (g.trans g') e'' p') (fun ρ'' σ'' H'' g' e'' p' => c ρ'' σ'' H'' (g.trans g') e'' p')
  | false =>
    rw [if_neg Bool.false_ne_true] at p ⊢
    exact p σ H1 E (e.mono g) (fun ρ'' σ'' H'' g' e'' p' => n ρ'' σ'' H'' (g.trans g') e'' p') (fun d v H'' g' r' p' => r d v H'' (g.trans g') r' p') (fun ρ'' σ'' H'' g' e'' p' => b ρ'' σ'' H'' (g.trans g') e'' p') (fun ρ'' σ'' H'' g' e'' p' => c ρ'' σ'' H'' (g.trans g') e'' p')
/-! ### targets -/
def PGd (K : PySem.W.Frag) (f : Fx) (g : TG) (d : PyData) (ρ : DEnv) (R : DEnv → Prop) : Prop := ∀ (σ : St) (H : Hp) (v : V) (Q : St → Hp → Prop), EnvOk K f ρ σ H → Rep K (hide H f) d v → (∀ ρ' σ' H', Goes f H H' → EnvOk K f ρ' σ' H' → R ρ' → Q σ' H') → g v σ H Q
def PGsd (K : PySem.W.Frag) (f : Fx) (g : TGs) (ds : List PyData) (ρ : DEnv) (R : DEnv → Prop) : Prop := ∀ (σ : St) (H : Hp) (vs : List V) (Q : St → Hp → Prop), EnvOk K f ρ σ H → Reps K (hide H f) ds vs → (∀ ρ' σ' H', Goes f H H' → EnvOk K f ρ' σ' H' → R ρ' → Q σ' H') → g vs σ H Q
theorem g_name {i : Nat} {d : PyData} {R : DEnv → Prop} (h : R (ρ.set i (some (.dat d)))) : PGd K f (gName i) d ρ R := fun σ H v Q e r q => q _ _ H (.refl e.fd) (e.set i (x := .dat d) r) h
theorem gs_nil {R : DEnv → Prop} (h : R ρ) : PGsd K f gNil [] ρ R := fun σ H vs Q e r q => ⟨reps_nil.mp r, q ρ σ H (.refl e.fd) e h⟩
theorem gs_cons {g : TG} {gs : TGs} {d : PyData} {ds : List PyData} {R : DEnv → Prop} (h : PGd K f g d ρ fun ρ' => PGsd K f gs ds ρ' R) : PGsd K f (gCons g gs) (d :: ds) ρ R := fun σ H vs Q e r q => by
  obtain ⟨x, r', rfl, h2, h3⟩ := reps_cons.mp r
  exact ⟨x, r', rfl, h σ H x _ e h2 fun ρ' σ' H' g' e' p => p σ' H' r' Q e' (Reps.mono g'.1 ds r' h3) fun ρ'' σ'' H'' g'' e'' p' => q ρ'' σ'' H'' (g'.trans g'') e'' p'⟩
theorem g_tup {n : Nat} {gs : TGs} {ds : List PyData} {R : DEnv → Prop} (hn : ds.length = n) (h : PGsd K f gs ds ρ R) : PGd K f (gTup K n gs) (.tuple ds) ρ R := fun σ H v Q e r q => by
  obtain ⟨a, xs, rfl, h1, h2⟩ := rep_tuple.mp r
  exact ⟨a, xs, rfl, (hide_same _ _).seqT h1, by rw [h2.length]; exact hn, h σ H xs Q e h2 q⟩
theorem s_asg {g : TG} (h : PEd K f te ρ fun d => PGd K f g d ρ D.nx) : PSd K f (tAsg te g) ρ D := fun σ H E e n r b c =>
  h σ H _ e fun d v H1 g1 r1 p1 => p1 σ H1 v _ (e.mono g1) r1 fun ρ' σ' H' g' e' p' => n ρ' σ' H' (g1.trans g') e' p'
end
end L2
end
section
set_option Elab.async false
set_option linter.all false
set_option maxRecDepth 100000
set_option maxHeartbeats 4000000
namespace L2
open PySem PySem.Spec PyProof.Rows
section
variable {K : PySem.W.Frag} {f : Fx} {ρ : DEnv} {D : DEnds} {te ta tb : TE} {tt : TT} {ts tu : TS} {g : TG}
/-! ### for -/
theorem body_go {E : Ends} {H0 : Hp} {J J' : Nat → DEnv → Prop} {i : Nat} {σ : St} {H : Hp}
    (n : ∀ ρ' σ' H', Goes f H0 H' → EnvOk K f ρ' σ' H' → D.nx ρ' → E.nx σ' H') (r : ∀ d v H', Goes f H0 H' → Rep K (hide H' f) d v → D.rt d → E.rt v H')
    (g0 : Goes f H0 H) (e : EnvOk K f ρ σ H) (h : PSd K f ts ρ { D with nx := J (i + 1), ct := J (i + 1), bk := D.nx }) :
    ts { E with nx := fun σ H => ∃ ρ', EnvOk K f ρ' σ H ∧ Goes f H0 H ∧ J (i + 1) ρ', ct := fun σ H => ∃ ρ', EnvOk K f ρ' σ H ∧ Goes f H0 H ∧ J (i + 1) ρ', bk := E.nx } σ H :=
  h σ H _ e (fun ρ' σ' H' g' e' p => ⟨ρ', e', g0.trans g', p⟩) (fun d v H' g' r' p => r d v H' (g0.trans g') r' p) (fun ρ' σ' H' g' e' p => n ρ' σ' H' (g0.trans g') e' p) (fun ρ' σ' H' g' e' p => ⟨ρ', e', g0.trans g', p⟩)
theorem s_for_range {t : TA} (h : PAd K f t ρ fun xs => ∃ j : Int, xs = [.dat (.int j)] ∧ -(2 ^ 62) ≤ j ∧ j < 2 ^ 62 ∧ ∃ J : Nat → DEnv → Prop, J 0 ρ ∧
      (∀ (i : Nat) ρ', (i : Int) < j → J i ρ' → PGd K f g (.int i) ρ' fun ρ2 => PSd K f ts ρ2 { D with nx := J (i + 1), ct := J (i + 1), bk := D.nx }) ∧ ∀ ρ', J j.toNat ρ' → D.nx ρ') :
    PSd K f (tFor (iRng1 t) g ts) ρ D := fun σ H E e n r b c => h σ H _ e fun xs vs H1 g1 r1 ⟨j, ex, q1, q2, J, j0, js, jd⟩ => by
  subst ex
  cases r1 with
  | @cons _ v0 _ _ rx r' =>
    cases r'
    have rx' : Rep K (hide H1 f) (.int j) v0 := rx
    refine ⟨j, by rw [rep_int.mp rx'], q1, q2, for_range (fun i σ' H' => ∃ ρ', EnvOk K f ρ' σ' H' ∧ Goes f H H' ∧ J i ρ') ⟨ρ, e.mono g1, g1, j0⟩ (fun i σ' H' hi ⟨ρ', e', g', p⟩ => ?_) fun σ' H' ⟨ρ', e', g', p⟩ => n ρ' σ' H' g' e' (jd ρ' p)⟩
    have hi' : (i : Int) < j := by omega
    rw [Int.zero_add]
    exact js i ρ' hi' p σ' H' (.int i) _ e' ((rep_int (K := K)).mpr rfl) fun ρ2 σ2 H2 g2 e2 p2 => body_go (J := J) (J' := J) n r (g'.trans g2) e2 p2
theorem s_for_list (h : PEd K f te ρ fun x => ∃ ds, x = .list ds ∧ ∃ J : Nat → DEnv → Prop, J 0 ρ ∧
      (∀ (i : Nat) d ρ', ds[i]? = some d → J i ρ' → PGd K f g d ρ' fun ρ2 => PSd K f ts ρ2 { D with nx := J (i + 1), ct := J (i + 1), bk := D.nx }) ∧ ∀ ρ', J ds.length ρ' → D.nx ρ') :
    PSd K f (tFor (iList K te) g ts) ρ D := fun σ H E e n r b c => h σ H _ e fun x v H1 g1 r1 ⟨ds, ex, J, j0, js, jd⟩ => by
  subst ex
  obtain ⟨a, xs, rfl, h1, h2⟩ := rep_list.mp r1
  have hl := h2.length
  refine ⟨a, rfl, ⟨xs, (hide_same _ _).seq h1⟩, for_list (K := K) (a := a) (xs := xs) (fun i σ' H' => ∃ ρ', EnvOk K f ρ' σ' H' ∧ Goes f H H' ∧ Goes f H1 H' ∧ J i ρ') ⟨ρ, e.mono g1, g1, .refl g1.2, j0⟩ (fun i σ' H' _ ⟨ρ', e', g', g1', p⟩ => (hide_same _ _).seq (g1'.1.seq h1)) (fun i y σ' H' hy ⟨ρ', e', g', g1', p⟩ => ?_) fun σ' H' ⟨ρ', e', g', _, p⟩ => n ρ' σ' H' g' e' (jd ρ' (by rw [← hl]; exact p))⟩
  have hi : i < ds.length := by rw [← hl]; exact (List.getElem?_eq_some_iff.mp hy).1
  obtain ⟨z, hz, rz⟩ := h2.get (List.getElem?_eq_getElem hi)
  rw [hy] at hz
  cases hz
  refine js i _ ρ' (List.getElem?_eq_getElem hi) p σ' H' y _ e' (Rep.mono g1'.1 _ _ rz) fun ρ2 σ2 H2 g2 e2 p2 => ?_
  exact p2 σ2 H2 _ e2 (fun ρ3 σ3 H3 g3 e3 p3 => ⟨ρ3, e3, g'.trans (g2.trans g3), g1'.trans (g2.trans g3), p3⟩) (fun d v H3 g3 r3 p3 => r d v H3 (g'.trans (g2.trans g3)) r3 p3) (fun ρ3 σ3 H3 g3 e3 p3 => n ρ3 σ3 H3 (g'.trans (g2.trans g3)) e3 p3) (fun ρ3 σ3 H3 g3 e3 p3 => ⟨ρ3, e3, g'.trans (g2.trans g3), g1'.trans (g2.trans g3), p3⟩)
theorem s_for_tup (h : PEd K f te ρ fun x => ∃ ds, x = .tuple ds ∧ ∃ J : Nat → DEnv → Prop, J 0 ρ ∧
      (∀ (i : Nat) d ρ', ds[i]? = some d → J i ρ' → PGd K f g d ρ' fun ρ2 => PSd K f ts ρ2 { D with nx := J (i + 1), ct := J (i + 1), bk := D.nx }) ∧ ∀ ρ', J ds.length ρ' → D.nx ρ') :
    PSd K f (tFor (iTup K te) g ts) ρ D := fun σ H E e n r b c => h σ H _ e fun x v H1 g1 r1 ⟨ds, ex, J, j0, js, jd⟩ => by
  subst ex
  obtain ⟨a, xs, rfl, h1, h2⟩ := rep_tuple.mp r1
  have hl := h2.length
  refine ⟨a, rfl, ⟨xs, (hide_same _ _).seqT h1⟩, for_tup (K := K) (a := a) (xs := xs) (fun i σ' H' => ∃ ρ', EnvOk K f ρ' σ' H' ∧ Goes f H H' ∧ Goes f H1 H' ∧ J i ρ') ⟨ρ, e.mono g1, g1, .refl g1.2, j0⟩ (fun i σ' H' _ ⟨ρ', e', g', g1', p⟩ => (hide_same _ _).seqT (g1'.1.seqT h1)) (fun i y σ' H' hy ⟨ρ', e', g', g1', p⟩ => ?_) fun σ' H' ⟨ρ', e', g', _, p⟩ => n ρ' σ' H' g' e' (jd ρ' (by rw [← hl]; exact p))⟩
  have hi : i < ds.length := by rw [← hl]; exact (List.getElem?_eq_some_iff.mp hy).1
  obtain ⟨z, hz, rz⟩ := h2.get (List.getElem?_eq_getElem hi)
  rw [hy] at hz
  cases hz
  refine js i _ ρ' (List.getElem?_eq_getElem hi) p σ' H' y _ e' (Rep.mono g1'.1 _ _ rz) fun ρ2 σ2 H2 g2 e2 p2 => ?_
  exact p2 σ2 H2 _ e2 (fun ρ3 σ3 H3 g3 e3 p3 => ⟨ρ3, e3, g'.trans (g2.trans g3), g1'.trans (g2.trans g3), p3⟩) (fun d v H3 g3 r3 p3 => r d v H3 (g'.trans (g2.trans g3)) r3 p3) (fun ρ3 σ3 H3 g3 e3 p3 => n ρ3 σ3 H3 (g'.trans (g2.trans g3)) e3 p3) (fun ρ3 σ3 H3 g3 e3 p3 => ⟨ρ3, e3, g'.trans (g2.trans g3), g1'.trans (g2.trans g3), p3⟩)
theorem s_for_enum {t : TA} (h : PAd K f t ρ fun xs => ∃ ds, xs = [.dat (.list ds)] ∧ ∃ J : Nat → DEnv → Prop, J 0 ρ ∧
      (∀ (i : Nat) d ρ', ds[i]? = some d → J i ρ' → PGd K f g (.tuple [.int i, d]) ρ' fun ρ2 => PSd K f ts ρ2 { D with nx := J (i + 1), ct := J (i + 1), bk := D.nx }) ∧ ∀ ρ', J ds.length ρ' → D.nx ρ') :
    PSd K f (tFor (iEnum K t) g ts) ρ D := fun σ H E e n r b c => h σ H _ e fun xs vs H1 g1 r1 ⟨ds, ex, J, j0, js, jd⟩ => by
  subst ex
  cases r1 with
  | cons rx r' =>
    cases r'
    obtain ⟨a, xs, rfl, h1, h2⟩ := rep_list.mp rx
    have hl := h2.length
    refine ⟨a, rfl, ⟨xs, (hide_same _ _).seq h1⟩, for_enum (K := K) (a := a) (xs := xs) (fun i σ' H' => ∃ ρ', EnvOk K f ρ' σ' H' ∧ Goes f H H' ∧ Goes f H1 H' ∧ J i ρ') ⟨ρ, e.mono g1, g1, .refl g1.2, j0⟩ (fun i σ' H' _ ⟨ρ', e', g', g1', p⟩ => (hide_same _ _).seq (g1'.1.seq h1)) (fun i y σ' H' tp hy ⟨ρ', e', g', g1', p⟩ hn => ?_) fun σ' H' ⟨ρ', e', g', _, p⟩ => n ρ' σ' H' g' e' (jd ρ' (by rw [← hl]; exact p))⟩
    have hi : i < ds.length := by rw [← hl]; exact (List.getElem?_eq_some_iff.mp hy).1
    obtain ⟨z, hz, rz⟩ := h2.get (List.getElem?_eq_getElem hi)
    rw [hy] at hz
    cases hz
    have gn : Goes f H' (upd H' tp (.tup [.int i, y])) := .of_same (same_new hn _) e'.fd
    have rt : Rep K (hide (upd H' tp (.tup [.int i, y])) f) (.tuple [.int i, ds[i]]) (.ref tp) := rep_tuple.mpr ⟨tp, _, rfl, .of (hide_get (fresh_ne e'.fd hn) upd_same), .cons' (rep_int.mpr rfl) (.cons' (Rep.mono gn.1 _ _ (Rep.mono g1'.1 _ _ rz)) .nil')⟩
    refine js i _ ρ' (List.getElem?_eq_getElem hi) p σ' _ _ _ (e'.mono gn) rt fun ρ2 σ2 H2 g2' e2 p2 => ?_
    have g2 := gn.trans g2'
    exact p2 σ2 H2 _ e2 (fun ρ3 σ3 H3 g3 e3 p3 => ⟨ρ3, e3, g'.trans (g2.trans g3), g1'.trans (g2.trans g3), p3⟩) (fun d v H3 g3 r3 p3 => r d v H3 (g'.trans (g2.trans g3)) r3 p3) (fun ρ3 σ3 H3 g3 e3 p3 => n ρ3 σ3 H3 (g'.trans (g2.trans g3)) e3 p3) (fun ρ3 σ3 H3 g3 e3 p3 => ⟨ρ3, e3, g'.trans (g2.trans g3), g1'.trans (g2.trans g3), p3⟩)
end
end L2
end
section
set_option Elab.async false
set_option linter.all false
set_option maxRecDepth 100000
set_option maxHeartbeats 4000000
namespace L2
open PySem PySem.Spec PyProof.Rows
/-! ### comprehensions over data -/
def frD (fr : List Nat) (ρ : DEnv) : DEnv := fr.map fun j => (ρ[j]?).getD none
def startD (own : Nat) (fr : List Nat) (ρ : DEnv) : DEnv := List.replicate own none ++ frD fr ρ
abbrev Fx.with (f : Fx) (D : Addr) : Fx := ⟨f.f, D :: f.M⟩
section
variable {K : PySem.W.Frag} {f : Fx} {ρ : DEnv} {σ : St} {H H' : Hp} {D : Addr} {o : HO}
theorem startD_ok {own : Nat} {fr : List Nat} (e : EnvOk K f ρ σ H) : EnvOk K f (startD own fr ρ) (startC own fr σ) H := by
  refine ⟨by unfold startD startC frD; simp, fun i x h => ?_, e.fd⟩
  unfold startD frD at h
  unfold startC
  by_cases hi : i < own
  · rw [List.getElem?_append_left (by simpa using hi), List.getElem?_replicate] at h
    split at h <;> cases h
  · rw [List.getElem?_append_right (by simpa using hi)] at h ⊢
    simp only [List.length_replicate, List.getElem?_map] at h ⊢
    cases hj : fr[i - own]? with
    | none => rw [hj] at h; cases h
    | some j =>
      rw [hj] at h
      have h' : (ρ[j]?).getD none = some x := Option.some.inj h
      have hρ : ρ[j]? = some (some x) := by
        cases q : ρ[j]? with
        | none => rw [q] at h'; cases h'
        | some w => rw [q] at h'; exact congrArg some h'
      obtain ⟨v, h1, h2⟩ := e.get j x hρ
      exact ⟨v, by simp [h1], h2⟩
theorem hide_with_upd : hide (upd H D o) (f.with D) = hide H (f.with D) := by
  funext b
  unfold hide
  by_cases hb : f.f = some b ∨ b ∈ D :: f.M
  · rw [if_pos hb, if_pos hb]
  · rw [if_neg hb, if_neg hb]
    have : b ≠ D := fun z => hb (.inr (z ▸ List.mem_cons_self))
    exact upd_ne this
theorem same_with : Same (hide H (f.with D)) (hide H f) := fun b o h => by
  obtain ⟨h1, h2⟩ := hide_of h
  exact hide_get (fun z => h1 (z.elim .inl fun z => .inr (List.mem_cons_of_mem _ z))) h2
theorem same_in (hn : H D = none) : Same (hide H f) (hide (upd H D o) (f.with D)) := fun b u h => by
  obtain ⟨h1, h2⟩ := hide_of h
  have hb : b ≠ D := ne_of_none h2 hn
  exact hide_get (fun z => z.elim (fun z => h1 (.inl z)) fun z => (List.mem_cons.mp z).elim hb fun z => h1 (.inr z)) (by rw [upd_ne hb]; exact h2)
theorem fok_in (h : FOk f H) (hn : H D = none) : FOk (f.with D) (upd H D o) :=
  ⟨fun p e => let ⟨a, b, h1, h2⟩ := h.fd p e; ⟨a, b, by rw [upd_ne (ne_of_none h1 hn)]; exact h1, h2⟩, fun b hb => by
    rcases List.mem_cons.mp hb with rfl | hb
    · exact ⟨_, upd_same⟩
    · obtain ⟨o', h1⟩ := h.mm b hb
      exact ⟨o', by rw [upd_ne (ne_of_none h1 hn)]; exact h1⟩, fun p e hp => by
    rcases List.mem_cons.mp hp with rfl | hp
    · exact fresh_ne h hn (.inl e)
    · exact h.nm p e hp⟩
theorem env_in (e : EnvOk K f ρ σ H) (hn : H D = none) : EnvOk K (f.with D) ρ σ (upd H D o) :=
  ⟨e.len, fun i x h => let ⟨v, h1, h2⟩ := e.get i x h; ⟨v, h1, by
    cases x with
    | dat d => exact Rep.mono (same_in hn) d v h2
    | feed => exact h2
    | own k =>
      obtain ⟨p, h3, h4⟩ := h2
      refine ⟨p, ?_, h4⟩
      show (D :: f.M).reverse[k]? = some p
      rw [List.reverse_cons, List.getElem?_append_left (List.getElem?_eq_some_iff.mp h3).1]
      exact h3
    | exc C =>
      obtain ⟨a, h3, h4⟩ := h2
      exact ⟨a, h3, same_in hn _ _ h4⟩⟩, fok_in e.fd hn⟩
/-- the list is written on -/
theorem env_put (hD : f.f ≠ some D) (e : EnvOk K (f.with D) ρ σ H) : EnvOk K (f.with D) ρ σ (upd H D o) :=
  ⟨e.len, fun i x h => let ⟨v, h1, h2⟩ := e.get i x h; ⟨v, h1, by
    cases x with
    | dat d =>
      have h2' : Rep K (hide H (f.with D)) d v := h2
      show Rep K (hide (upd H D o) (f.with D)) d v
      rw [hide_with_upd]; exact h2'
    | feed => exact h2
    | own k => exact h2
    | exc C =>
      obtain ⟨a, h3, h4⟩ := h2
      refine ⟨a, h3, ?_⟩
      rw [hide_with_upd]
      exact h4⟩, ⟨fun p ep => let ⟨a, b, h1, h2⟩ := e.fd.fd p ep; ⟨a, b, by rw [upd_ne (fun z => hD (by rw [← z]; exact ep))]; exact h1, h2⟩, fun b hb => by
      by_cases hb' : b = D
      · subst hb'; exact ⟨_, upd_same⟩
      · rw [upd_ne hb']; exact e.fd.mm b hb, e.fd.nm⟩⟩
end
section
variable {K : PySem.W.Frag} {f : Fx} {ρ : DEnv} {P : PyData → Prop} {te tl : TE} {tt : TT} {g : TG} {own : Nat} {fr : List Nat}
/-- the loop's state: what the list has so far -/
structure CSt (K : PySem.W.Frag) (f : Fx) (D : Addr) (H2 : Hp) (ρ' : DEnv) (es : List PyData) (σ : St) (H : Hp) : Prop where
  env : EnvOk K (f.with D) ρ' σ H
  sm : Same (hide H2 (f.with D)) (hide H (f.with D))
  kp : ∀ b ∈ f.M, H b = H2 b
  lst : ∃ vs, H D = some (.lst vs) ∧ Reps K (hide H (f.with D)) es vs
theorem CSt.go {D : Addr} {H2 H H' : Hp} {ρ' : DEnv} {es : List PyData} {σ : St} (c : CSt K f D H2 ρ' es σ H) (gg : Goes (f.with D) H H') {ρ2 : DEnv} {σ2 : St} (e2 : EnvOk K (f.with D) ρ2 σ2 H') : CSt K f D H2 ρ2 es σ2 H' :=
  ⟨e2, c.sm.trans gg.sm, fun b hb => (gg.kp b (List.mem_cons_of_mem _ hb)).trans (c.kp b hb), let ⟨vs, h1, h2⟩ := c.lst; ⟨vs, (gg.kp D List.mem_cons_self).trans h1, Reps.mono gg.sm es vs h2⟩⟩
theorem CSt.put {D : Addr} {H2 H : Hp} {ρ' : DEnv} {es : List PyData} {σ : St} {d : PyData} {v : V} {vs : List V} (hD : f.f ≠ some D) (hM : D ∉ f.M) (c : CSt K f D H2 ρ' es σ H) (h1 : H D = some (.lst vs)) (h2 : Reps K (hide H (f.with D)) es vs) (r : Rep K (hide H (f.with D)) d v) :
    CSt K f D H2 ρ' (es ++ [d]) σ (upd H D (.lst (vs ++ [v]))) :=
  ⟨env_put hD c.env, by rw [hide_with_upd]; exact c.sm, fun b hb => (upd_ne (fun (z : b = D) => hM (z ▸ hb))).trans (c.kp b hb), ⟨_, upd_same, by rw [hide_with_upd]; exact h2.snoc r⟩⟩
/-- a turn of the loop -/
theorem comp_turn {D : Addr} {H2 H : Hp} {ρ' : DEnv} {es : List PyData} {σ : St} {d : PyData} {v : V} {W : St → Hp → Prop} {R : DEnv → List PyData → Prop} (hD : f.f ≠ some D) (hM : D ∉ f.M) (c : CSt K f D H2 ρ' es σ H) (hl : es.length < 1000) (r : Rep K (hide H (f.with D)) d v)
    (h : PGd K (f.with D) g d ρ' fun ρ2 => PTd K (f.with D) tt ρ2 fun b => if b = true then PEd K (f.with D) te ρ2 fun e => R ρ2 (es ++ [e]) else R ρ2 es)
    (hW : ∀ ρ2 es2 σ2 H', CSt K f D H2 ρ2 es2 σ2 H' → R ρ2 es2 → W σ2 H') :
    g v σ H fun σ2 H3 => tt σ2 H3 fun b H4 => if b = true then tEmit D te σ2 H4 W else W σ2 H4 := by
  refine h σ H v _ c.env r fun ρ2 σ2 H3 g3 e3 p3 => ?_
  have c3 := c.go g3 e3
  refine p3 σ2 H3 _ e3 fun b H4 g4 p4 => ?_
  have c4 := c3.go g4 (e3.mono g4)
  cases b with
  | false =>
    rw [if_neg Bool.false_ne_true] at p4 ⊢
    exact hW _ _ _ _ c4 p4
  | true =>
    rw [if_pos rfl] at p4 ⊢
    refine p4 σ2 H4 _ (e3.mono g4) fun e u H5 g5 r5 p5 => ?_
    have c5 := c4.go g5 ((e3.mono g4).mono g5)
    obtain ⟨vs, h1, h2⟩ := c5.lst
    exact ⟨vs, h1, small1000 (by rw [h2.length]; omega), hW _ _ _ _ (c5.put hD hM h1 h2 r5) p5⟩
/-- the list is whole -/
theorem comp_end {D : Addr} {H1 H : Hp} {ρ' : DEnv} {es : List PyData} {σ σ' : St} (hn : H1 D = none) (fo : FOk f H1) (c : CSt K f D (upd H1 D (.lst [])) ρ' es σ H) : Goes f H1 H ∧ Rep K (hide H f) (.list es) (.ref D) := by
  obtain ⟨vs, h1, h2⟩ := c.lst
  have nD := fresh_ne fo hn
  refine ⟨⟨((same_in hn).trans c.sm).trans same_with, ⟨c.env.fd.fd, fun b hb => c.env.fd.mm b (List.mem_cons_of_mem _ hb), fun p e hp => c.env.fd.nm p e (List.mem_cons_of_mem _ hp)⟩, fun b hb => ?_⟩, rep_list.mpr ⟨D, vs, rfl, .of (hide_get nD h1), Reps.mono same_with es vs h2⟩⟩
  rw [c.kp b hb, upd_ne]
  obtain ⟨o, h3⟩ := fo.mm b hb
  exact ne_of_none h3 hn
theorem comp_begin {D : Addr} {H1 : Hp} {σ : St} (hn : H1 D = none) (e : EnvOk K f ρ σ H1) : CSt K f D (upd H1 D (.lst [])) (startD own fr ρ) [] (startC own fr σ) (upd H1 D (.lst [])) :=
  ⟨env_in (startD_ok e) hn, Same.refl _, fun _ _ => rfl, ⟨[], upd_same, .nil'⟩⟩
/-- [.. for tg in range(n) if ..] -/
theorem c_range {t : TA} (h : PAd K f t ρ fun xs => ∃ j : Int, xs = [.dat (.int j)] ∧ j ≤ 1000 ∧ -1000 ≤ j ∧ ∃ R : Nat → DEnv → List PyData → Prop, R 0 (startD own fr ρ) [] ∧
      (∀ D (i : Nat) ρ' es, (i : Int) < j → R i ρ' es → PGd K (f.with D) g (.int i) ρ' fun ρ2 => PTd K (f.with D) tt ρ2 fun b => if b = true then PEd K (f.with D) te ρ2 fun e => R (i + 1) ρ2 (es ++ [e]) else R (i + 1) ρ2 es) ∧
      (∀ i ρ' es, R i ρ' es → es.length ≤ i) ∧ ∀ ρ' es, R j.toNat ρ' es → P (.list es)) :
    PEd K f (tComp (iRng1 t) own fr g tt fun D => tEmit D te) ρ P := fun σ H Q e q => h σ H _ e fun xs vs H1 g1 r1 ⟨j, ex, b1, b2, R, r0, rs, rl, re⟩ => by
  subst ex
  cases r1 with
  | @cons _ v0 _ _ rx r' =>
    cases r'
    have rx' : Rep K (hide H1 f) (.int j) v0 := rx
    refine ⟨j, by rw [rep_int.mp rx'], by omega, by omega, fun D hn => ?_⟩
    have nD := fresh_ne g1.2 hn
    have hD : f.f ≠ some D := fun z => nD (.inl z)
    have hM : D ∉ f.M := fun z => nD (.inr z)
    have e1 := e.mono g1
    refine ⟨fun i m σ' H' => ∃ ρ' es, CSt K f D (upd H1 D (.lst [])) ρ' es σ' H' ∧ R i ρ' es ∧ i ≤ j.toNat ∧ m + i = j.toNat, ⟨j.toNat, _, [], comp_begin hn e1, r0, Nat.zero_le _, rfl⟩, fun i m σ' H' ⟨ρ', es, c, p, hi, hm⟩ => ?_⟩
    by_cases hlt : i < j.toNat
    · refine .inr ⟨hlt, fun x H3 hy => ?_⟩
      obtain ⟨rfl, rfl⟩ := hy
      have hz : (0 : Int) + (i : Int) = (i : Int) := Int.zero_add _
      rw [hz]
      refine comp_turn (R := R (i + 1)) hD hM c (by have := rl i ρ' es p; omega) ((rep_int (K := K)).mpr rfl) (rs D i ρ' es (by omega) p) fun ρ2 es2 σ2 H4 c2 p2 => ?_
      exact ⟨m - 1, by omega, ρ2, es2, c2, p2, by omega, by omega⟩
    · have ei : i = j.toNat := by omega
      subst ei
      obtain ⟨ge, rep⟩ := comp_end (σ' := σ') hn g1.2 c
      exact .inl ⟨Nat.le_refl _, q _ _ H' (g1.trans ge) rep (re ρ' es p)⟩
theorem c_list (h : PEd K f tl ρ fun x => ∃ ds, x = .list ds ∧ ds.length ≤ 1000 ∧ ∃ R : Nat → DEnv → List PyData → Prop, R 0 (startD own fr ρ) [] ∧
      (∀ D (i : Nat) d ρ' es, ds[i]? = some d → R i ρ' es → PGd K (f.with D) g d ρ' fun ρ2 => PTd K (f.with D) tt ρ2 fun b => if b = true then PEd K (f.with D) te ρ2 fun e => R (i + 1) ρ2 (es ++ [e]) else R (i + 1) ρ2 es) ∧
      (∀ i ρ' es, R i ρ' es → es.length ≤ i) ∧ ∀ ρ' es, R ds.length ρ' es → P (.list es)) :
    PEd K f (tComp (iList K tl) own fr g tt fun D => tEmit D te) ρ P := fun σ H Q e q => h σ H _ e fun x v H1 g1 r1 ⟨ds, ex, hz, R, r0, rs, rl, re⟩ => by
  subst ex
  obtain ⟨a, xs, rfl, s1, s2⟩ := rep_list.mp r1
  have hl := s2.length
  refine ⟨a, rfl, ⟨xs, (hide_same _ _).seq s1⟩, fun D hn => ?_⟩
  have nD := fresh_ne g1.2 hn
  have hD : f.f ≠ some D := fun z => nD (.inl z)
  have hM : D ∉ f.M := fun z => nD (.inr z)
  have e1 := e.mono g1
  have keep : ∀ {ρ' : DEnv} {es : List PyData} {σ' : St} {H' : Hp}, CSt K f D (upd H1 D (.lst [])) ρ' es σ' H' → Same (hide H1 f) (hide H' (f.with D)) := fun c => (same_in hn).trans c.sm
  refine ⟨fun i m σ' H' => ∃ ρ' es, CSt K f D (upd H1 D (.lst [])) ρ' es σ' H' ∧ R i ρ' es ∧ i ≤ ds.length ∧ m + i = ds.length, ⟨ds.length, _, [], comp_begin hn e1, r0, Nat.zero_le _, rfl⟩, fun i m σ' H' ⟨ρ', es, c, p, hi, hm⟩ => ?_⟩
  have sq : SqL K H' a xs := (hide_same _ _).seq ((keep c).seq s1)
  by_cases hlt : i < ds.length
  · obtain ⟨z, hzz, rz⟩ := s2.get (List.getElem?_eq_getElem hlt)
    refine .inr ⟨⟨xs, z, sq, hzz⟩, fun x H3 hy => ?_⟩
    obtain ⟨rfl, hy⟩ := hy
    have ez := hy xs sq
    rw [hzz] at ez
    cases ez
    refine comp_turn (R := R (i + 1)) hD hM c (by have := rl i ρ' es p; omega) (Rep.mono (keep c) _ _ rz) (rs D i _ ρ' es (List.getElem?_eq_getElem hlt) p) fun ρ2 es2 σ2 H4 c2 p2 => ?_
    exact ⟨m - 1, by omega, ρ2, es2, c2, p2, by omega, by omega⟩
  · have ei : i = ds.length := by omega
    subst ei
    obtain ⟨ge, rep⟩ := comp_end (σ' := σ') hn g1.2 c
    exact .inl ⟨⟨xs, sq, by omega⟩, q _ _ H' (g1.trans ge) rep (re ρ' es p)⟩
/-! the forms one uses: one own name, no test -/
theorem c_range1 {t : TA} (h : PAd K f t ρ fun xs => ∃ j : Int, xs = [.dat (.int j)] ∧ j ≤ 1000 ∧ -1000 ≤ j ∧ ∃ R : Nat → PyData → Prop,
      (∀ D (i : Nat), (i : Int) < j → PEd K (f.with D) te (some (.dat (.int i)) :: frD fr ρ) (R i)) ∧ ∀ es : List PyData, es.length = j.toNat → (∀ (i : Nat) e, es[i]? = some e → R i e) → P (.list es)) :
    PEd K f (tComp (iRng1 t) 1 fr (gName 0) tYes fun D => tEmit D te) ρ P :=
  c_range fun σ H Q e q => h σ H Q e fun xs vs H' g' r' ⟨j, ex, b1, b2, R, rs, re⟩ => by
    refine q xs vs H' g' r' ⟨j, ex, b1, b2, fun i ρ' es => (∃ x, ρ' = x :: frD fr ρ) ∧ es.length = i ∧ ∀ (k : Nat) e, es[k]? = some e → R k e, ⟨⟨none, rfl⟩, rfl, fun k e h => by simp at h⟩, fun D i ρ' es hi p => ?_, fun i ρ' es p => Nat.le_of_eq p.2.1, fun ρ' es p => re es p.2.1 p.2.2⟩
    obtain ⟨⟨x, rfl⟩, hl, hp⟩ := p
    refine g_name ?_
    intro σ H Q e q
    refine q true H (.refl e.fd) ?_
    dsimp only
    rw [if_pos rfl]
    refine (rs D i hi).imp fun d hd => ⟨⟨_, rfl⟩, by rw [List.length_append, hl]; rfl, fun k e hk => ?_⟩
    by_cases hkl : k < es.length
    · rw [List.getElem?_append_left hkl] at hk; exact hp k e hk
    · rw [List.getElem?_append_right (by omega)] at hk
      have hk0 : k - es.length = 0 := by
        have := (List.getElem?_eq_some_iff.mp hk).1
        simp at this; omega
      rw [hk0] at hk
      cases hk
      have : k = i := by omega
      subst this
      exact hd
theorem c_list1 (h : PEd K f tl ρ fun x => ∃ ds, x = .list ds ∧ ds.length ≤ 1000 ∧ ∃ R : Nat → PyData → Prop,
      (∀ D (i : Nat) d, ds[i]? = some d → PEd K (f.with D) te (some (.dat d) :: frD fr ρ) (R i)) ∧ ∀ es : List PyData, es.length = ds.length → (∀ (i : Nat) e, es[i]? = some e → R i e) → P (.list es)) :
    PEd K f (tComp (iList K tl) 1 fr (gName 0) tYes fun D => tEmit D te) ρ P :=
  c_list (h.imp fun x ⟨ds, ex, hz, R, rs, re⟩ => by
    refine ⟨ds, ex, hz, fun i ρ' es => (∃ x, ρ' = x :: frD fr ρ) ∧ es.length = i ∧ ∀ (k : Nat) e, es[k]? = some e → R k e, ⟨⟨none, rfl⟩, rfl, fun k e h => by simp at h⟩, fun D i d ρ' es hi p => ?_, fun i ρ' es p => Nat.le_of_eq p.2.1, fun ρ' es p => re es p.2.1 p.2.2⟩
    obtain ⟨⟨x, rfl⟩, hl, hp⟩ := p
    refine g_name ?_
    intro σ H Q e q
    refine q true H (.refl e.fd) ?_
    dsimp only
    rw [if_pos rfl]
    refine (rs D i d hi).imp fun d hd => ⟨⟨_, rfl⟩, by rw [List.length_append, hl]; rfl, fun k e hk => ?_⟩
    by_cases hkl : k < es.length
    · rw [List.getElem?_append_left hkl] at hk; exact hp k e hk
    · rw [List.getElem?_append_right (by omega)] at hk
      have hk0 : k - es.length = 0 := by
        have := (List.getElem?_eq_some_iff.mp hk).1
        simp at this; omega
      rw [hk0] at hk
      cases hk
      have : k = i := by omega
      subst this
      exact hd)
end
end L2
end
section
set_option Elab.async false
set_option linter.all false
set_option maxRecDepth 100000
set_option maxHeartbeats 4000000
namespace L2
open PySem PySem.Spec PyProof.Rows
/-! ### the feed is written -/
section
variable {K : PySem.W.Frag} {f : Fx} {ρ : DEnv} {D : DEnds} {te : TE} {i : Nat}
theorem feed_put {σ : St} {H : Hp} {p : Addr} {a b : Int} (e : EnvOk K f ρ σ H) (ef : f.f = some p) (h0 : 0 ≤ a) (h1 : 0 ≤ b) (h2 : b < 2147483647) : Goes f H (upd H p (.lst [.int a, .int b])) :=
  have hM := e.fd.nm p ef
  ⟨fun x o h => by
    obtain ⟨n, hx⟩ := hide_of h
    exact hide_get n (by rw [upd_ne (fun z => n (.inl (by rw [z]; exact ef)))]; exact hx),
   ⟨fun q eq => by
      rw [ef] at eq; cases eq
      exact ⟨a, b, upd_same, h0, h1, h2⟩, fun x hx => by
      by_cases hxp : x = p
      · subst hxp; exact absurd hx hM
      · rw [upd_ne hxp]; exact e.fd.mm x hx, e.fd.nm⟩,
   fun x hx => upd_ne (fun z => hM (z ▸ hx))⟩
theorem s_feed0 (hi : ρ[i]? = some (some .feed)) (h : PEd K f te ρ fun d => ∃ a : Int, d = .int a ∧ 0 ≤ a ∧ D.nx ρ) : PSd K f (tAsg te (gSub (tVar i) (tC (.int 0)) rSetL)) ρ D := fun σ H E e n r b c => h σ H _ e fun d v H1 g1 r1 ⟨a, ed, h0, p⟩ => by
  subst ed
  obtain ⟨u, h1, q, ef, eu⟩ := e.get i _ hi
  obtain ⟨a', b', hf, c1, c2, c3⟩ := g1.2.fd q ef
  refine ⟨u, h1, q, _, 0, 0, eu, rfl, hf, rfl, ?_⟩
  rw [rep_int.mp r1]
  have g2 : Goes f H1 (upd H1 q (.lst [.int a, .int b'])) := feed_put (e.mono g1) ef h0 c2 c3
  exact n ρ σ _ (g1.trans g2) ((e.mono g1).mono g2) p
theorem s_feed1 (hi : ρ[i]? = some (some .feed)) (h : PEd K f te ρ fun d => ∃ a : Int, d = .int a ∧ 0 ≤ a ∧ a < 2147483647 ∧ D.nx ρ) : PSd K f (tAsg te (gSub (tVar i) (tC (.int 1)) rSetL)) ρ D := fun σ H E e n r b c => h σ H _ e fun d v H1 g1 r1 ⟨a, ed, h0, h0', p⟩ => by
  subst ed
  obtain ⟨u, h1, q, ef, eu⟩ := e.get i _ hi
  obtain ⟨a', b', hf, c1, c2, c3⟩ := g1.2.fd q ef
  refine ⟨u, h1, q, _, 1, 1, eu, rfl, hf, rfl, ?_⟩
  rw [rep_int.mp r1]
  have g2 : Goes f H1 (upd H1 q (.lst [.int a', .int a])) := feed_put (e.mono g1) ef c1 h0 h0'
  exact n ρ σ _ (g1.trans g2) ((e.mono g1).mono g2) p
end
theorem pe_globI {X : Cx} {x : Str} {i : Int} {t : Tok} {pos : Pos} (hg : Gl X x) (hm : X.mg x = some (.int i t)) (hd : (x == ("__debug__" : Str)) = false := by decide) : PE X (.Name x pos) (tC (.int i)) := pe_glob hg hm ⟨t, rfl⟩ hd
/-! ### defs over data -/
def startV (N : List Str) (xs : List DV) : DEnv := xs.map some ++ List.replicate (N.length - xs.length) none
theorem startV_ok {K : PySem.W.Frag} {f : Fx} {H : Hp} {N : List Str} {xs : List DV} {vs : List V} (r : RepVs K f H xs vs) (fo : FOk f H) : EnvOk K f (startV N xs) (start N vs) H := by
  have hl := r.length
  refine ⟨by unfold startV start; simp [hl], fun i x h => ?_, fo⟩
  unfold startV at h
  unfold start
  have get : ∀ {xs : List DV} {vs : List V} {i : Nat} {x : DV}, RepVs K f H xs vs → xs[i]? = some x → ∃ v, vs[i]? = some v ∧ RepV K f H x v := by
    intro xs vs i x r
    induction r generalizing i with
    | nil => intro h; simp at h
    | cons r1 r2 ih =>
      intro h
      cases i with
      | zero => simp at h; subst h; exact ⟨_, rfl, r1⟩
      | succ i => simp at h; obtain ⟨v, h1, h2⟩ := ih h; exact ⟨v, by simpa using h1, h2⟩
  by_cases hi : i < xs.length
  · rw [List.getElem?_append_left (by simpa using hi), List.getElem?_map] at h
    cases q : xs[i]? with
    | none => rw [q] at h; cases h
    | some y =>
      rw [q] at h
      cases h
      obtain ⟨v, h1, h2⟩ := get r q
      exact ⟨v, by rw [List.getElem?_append_left (by simp; omega), List.getElem?_map, h1]; rfl, h2⟩
  · rw [List.getElem?_append_right (by simpa using hi), List.getElem?_replicate] at h
    split at h <;> cases h
/-- a def of the text with its name -/
structure Def (K : PySem.W.Frag) (mg : Str → Option Value) (x : Str) (st : Stmt) (ps : List Str) : Prop where
  ex : ∃ (f : Addr) (fd : FuncData), Fun K x x st f fd ∧ Binds K fd ps [] ∧ mg x = some (.ref f)
structure FnIn (P : Program) (w : World) (K : PySem.W.Frag) (mg : Str → Option Value) (base : Heap) (k : Nat) (x : Str) (ps : List Str) (sp : Sp) : Prop where
  ex : ∃ (f : Addr) (fd : FuncData), FnOk P w K mg base CX0 k f fd ps sp ∧ mg x = some (.ref f) ∧ PySem.W.keepIn K (.ref f) = true ∧ Binds K fd ps []
section
variable {P : Program} {w : World} {K : PySem.W.Frag} {mg : Str → Option Value} {base : Heap} {j k n : Nat} {x : Str} {st : Stmt} {ps N : List Str} {γ : Type} {pre : γ → List DV → Prop} {post : γ → PyData → Prop} {sp : Sp}
theorem FnIn.mono (h : FnIn P w K mg base j x ps sp) (hk : j ≤ k) : FnIn P w K mg base k x ps sp :=
  let ⟨f, fd, a, b, c, d⟩ := h.ex; ⟨f, fd, a.mono hk, b, c, d⟩
theorem Def.ok (F : Def K mg x st ps) (S : FnScope N ps (defScope st)) (hn : ps.length = n)
    (h : ∀ (fa : Addr) (cdv : Value) (A : Around) (outer : List Env) (s : Shared) (H : Hp) (E : XK), Room k (A.deeper (envOfC x (defScope st) s.heap.objs.size fa cdv)) →
      ∃ t, PSs (cxOf CX0 P w K mg base N x (defScope st) fa cdv A outer s H E).nox (defBody st) t ∧ ∀ (f : Fx) (xs : List DV) (c : γ), xs.length = n → pre c xs → PSd K f t (startV N xs) { nx := fun _ => post c .none, rt := post c }) :
    FnIn P w K mg base (k + 1) x ps (spD K n pre post) := by
  obtain ⟨fa, fd, F1, F2, F3⟩ := F.ex
  refine ⟨fa, fd, F1.ok S (fun vs H Q E h => ?_) (fun cdv A outer s H vs Q E hr hs => ?_), F3, F1.kp, F2⟩
  · obtain ⟨f, xs, c, r, hl, _⟩ := h
    rw [r.length, hl, hn]
  · obtain ⟨f, xs, c, r, hl, fo, hp, q⟩ := hs
    obtain ⟨t, h1, h2⟩ := h fa cdv A outer s H E hr
    exact ⟨t, h1, h2 f xs c hl hp (start N vs) H _ (startV_ok r fo) (fun _ _ H' g _ p => q .none _ H' g (rep_none.mpr rfl) p) (fun d v H' g r p => q d v H' g r p) (fun _ _ _ _ _ z => z.elim) (fun _ _ _ _ _ z => z.elim)⟩
/-- a def by its raw reading -/
theorem Def.raw (F : Def K mg x st ps) (S : FnScope N ps (defScope st)) (len : ∀ vs H Q E, sp vs H Q E → vs.length = ps.length)
    (h : ∀ (fa : Addr) (cdv : Value) (A : Around) (outer : List Env) (s : Shared) (H : Hp) (vs : List V) (Q : VK) (E : XK), Room k (A.deeper (envOfC x (defScope st) s.heap.objs.size fa cdv)) → sp vs H Q E →
      ∃ t, PSs (cxOf CX0 P w K mg base N x (defScope st) fa cdv A outer s H E).nox (defBody st) t ∧ t { nx := fun _ H' => Q .non H', rt := Q } (start N vs) H) :
    FnIn P w K mg base (k + 1) x ps sp := by
  obtain ⟨fa, fd, F1, F2, F3⟩ := F.ex
  exact ⟨fa, fd, F1.ok S len (fun cdv A outer s H vs Q E hr hs => h fa cdv A outer s H vs Q E hr hs), F3, F1.kp, F2⟩
theorem pe_callI {X : Cx} {e : Expr} {es : List Expr} {t : TA} {p pos : Pos} (G : FnIn X.prog X.w X.K X.mg X.base k x ps sp) (hr : Room k X.A) (hg : Gl X x) (ha : PA X (e :: es) t) (hdb : (x == ("__debug__" : Str)) = false := by decide)
    (he : starEach (e :: es) X.env = (false, eval e X.env) :: starEach es X.env := by rfl) (hpl : (backTo pos (starEach es X.env)).any (·.1) = false := by rfl) : PE X (.Call (.Name x p) (e :: es) [] pos) (tCall sp [] E0 t) := by
  obtain ⟨f, fd, a, b, c, d⟩ := G.ex
  exact pe_call a hr hg b c d .nil pass0 ha hdb he hpl
end
section
variable {K : PySem.W.Frag} {f : Fx} {ρ : DEnv} {σ : St} {H : Hp} {E : Ends} {ts tu : TS} {D : DEnds}
/-- first over data, then raw -/
theorem s_then (h : PSd K f ts ρ D) (e : EnvOk K f ρ σ H) (hn : ∀ ρ' σ' H', Goes f H H' → EnvOk K f ρ' σ' H' → D.nx ρ' → tu E σ' H') (hr : ∀ d v H', Goes f H H' → Rep K (hide H' f) d v → D.rt d → E.rt v H') (hb : ∀ ρ, ¬ D.bk ρ) (hc : ∀ ρ, ¬ D.ct ρ) : tSeq ts tu E σ H :=
  h σ H { E with nx := tu E } e hn hr (fun ρ' _ _ _ _ p => (hb ρ' p).elim) (fun ρ' _ _ _ _ p => (hc ρ' p).elim)
theorem new_list {ta : TA} {Q : VK} {R : List PyData → Prop} (h : PAd K f ta ρ fun xs => ∃ ds, allDat xs = some ds ∧ ds.length ≤ 1000 ∧ R ds) (e : EnvOk K f ρ σ H)
    (q : ∀ p ds vs H1, Goes f H H1 → H1 p = none → Reps K (hide H1 f) ds vs → R ds → Q (.ref p) (upd H1 p (.lst vs))) : tLst ta σ H Q :=
  h σ H _ e fun xs vs H1 g1 r1 ⟨ds, ea, hl, p⟩ => by
    have rs := reps_of r1 ea
    exact ⟨by rw [rs.length]; exact Nat.le_of_lt (small1000 hl), fun l hn => q l ds vs H1 g1 hn rs p⟩
end
end L2
end
section
set_option Elab.async false
set_option linter.all false
set_option maxRecDepth 100000
set_option maxHeartbeats 4000000
namespace L2
open PySem PySem.Spec PyProof.Rows
section
variable {X : Cx} {e st : Expr} {te ts : TE} {pos p2 : Pos}
/-- xs[::-1] of a list: a new list -/
def tRev (K : PySem.W.Frag) (te ts : TE) : TE := fun σ H Q => te σ H fun x H1 => ts σ H1 fun y H2 => ∃ a xs, x = .ref a ∧ y = .int (-1) ∧ SqL K H2 a xs ∧ ∀ p, H2 p = none → Q (.ref p) (upd H2 p (.lst xs.reverse))
theorem pe_rev (he : PE X e te) (hst : PE X st ts) : PE X (.Subscript e (.Slice none none (some st) p2) pos) (tRev X.K te ts) := by
  intro pins s σ H Q I h
  refine Subscript_ (thn (he pins s σ H _ I h) fun v s1 ⟨x, H1, I1, r1, q1⟩ => ?_)
  refine wpAny_Slice ?_
  rw [evalPart_none]
  refine wpAny_pure (wpAny_pure ?_)
  rw [evalPart_some]
  refine thn (hst pins s1 σ H1 _ I1 q1) fun vs s3 ⟨y, H3, I3, r3, a, xs, ex, ey, hq, q⟩ => ?_
  subst ex ey
  cases r1
  obtain ⟨t, rfl⟩ := r3
  have I4 : Inv X pins σ H3 { s3 with heap := s3.heap.push { cls := .type "slice", data := .fields #[.none, .none, .int (-1) t] } } := I3.kept (t' := s3.toks) fun b ob q => Heap.get?_push_of_some _ q
  show wpAny (model X.prog X.w) X.A (subscriptTail e (.Slice none none (some st) p2) (.ref a) (.ref s3.heap.objs.size)) (EP X pins σ Q) X.xe { s3 with heap := s3.heap.push { cls := .type "slice", data := .fields #[.none, .none, .int (-1) t] } }
  obtain ⟨its, r, ht, hz⟩ := I4.list hq
  have hlen := r.length
  refine tail_any (ops := [.ref a, .ref s3.heap.objs.size]) ht.isList.typeIs slot_list_getitem.lookup (wpAny_getItem_list_slice ht.isList (Heap.IsSliceOf.new ..) .none .none (.int (-1) t) (by simp) ?_ (by rw [List.size_toArray] <;> omega)) (by with_unfolding_all rfl)
  rw [PySem.W.krv_pick]
  refine ⟨.ref _, _, I4.laid (t' := s3.toks) (o := .lst xs.reverse) (fun b ob q => Heap.get?_push_of_some _ q) (Nat.le_refl _) ?_, rfl, q _ (I4.hok.fresh (Nat.le_refl _))⟩
  exact ⟨by rw [List.length_reverse]; exact hz, its.reverse, 0, Vals.reverse r, Heap.get?_push_size _ rfl⟩
end
section
variable {K : PySem.W.Frag} {f : Fx} {ρ : DEnv}
theorem Goes.free {H H' : Hp} {p : Addr} (g : Goes f H H') (fo : FOk f H) (h : H' p = none) : H p = none := by
  cases q : H p with
  | none => rfl
  | some o =>
    by_cases hh : f.f = some p ∨ p ∈ f.M
    · rcases hh with hh | hh
      · obtain ⟨a, b, h1, _⟩ := g.ok.fd p hh
        rw [h] at h1; cases h1
      · rw [g.kp p hh, q] at h; cases h
    · have := hide_of (g.sm p o (hide_get hh q))
      rw [h] at this; cases this.2
/-- a new list -/
def PEdL (K : PySem.W.Frag) (f : Fx) (te : TE) (ρ : DEnv) (P : List PyData → Prop) : Prop := ∀ (σ : St) (H : Hp) (Q : VK), EnvOk K f ρ σ H →
  (∀ es D vs H', Goes f H H' → H D = none → H' D = some (.lst vs) → Reps K (hide H' f) es vs → P es → Q (.ref D) H') → te σ H Q
theorem PEdL.ped {te : TE} {P : PyData → Prop} (h : PEdL K f te ρ fun es => P (.list es)) : PEd K f te ρ P := fun σ H Q e q => h σ H Q e fun es D vs H' g n h1 r p =>
  q (.list es) _ H' g (rep_list.mpr ⟨D, vs, rfl, .of (hide_get (fresh_ne e.fd n) h1), r⟩) p
theorem PEdL.imp {te : TE} {P P' : List PyData → Prop} (h : PEdL K f te ρ P) (i : ∀ es, P es → P' es) : PEdL K f te ρ P' := fun σ H Q e q => h σ H Q e fun es D vs H' g n h1 r p => q es D vs H' g n h1 r (i es p)
theorem l_lst {t : TA} {P : List PyData → Prop} (h : PAd K f t ρ fun xs => ∃ ds, allDat xs = some ds ∧ ds.length ≤ 1000 ∧ P ds) : PEdL K f (tLst t) ρ P := fun σ H Q e q =>
  new_list h e fun p ds vs H1 g1 hn rs hp => by
    have g2 : Goes f H1 (upd H1 p (.lst vs)) := .of_same (same_new hn _) g1.2
    exact q ds p vs _ (g1.trans g2) (g1.free e.fd hn) upd_same (Reps.mono g2.1 ds vs rs) hp
theorem l_rev {te ts : TE} {P : List PyData → Prop} (h : PEd K f te ρ fun x => ∃ ds, x = .list ds ∧ PEd K f ts ρ fun y => y = .int (-1) ∧ P ds.reverse) : PEdL K f (tRev K te ts) ρ P := fun σ H Q e q =>
  h σ H _ e fun x v H1 g1 r1 ⟨ds, ex, p1⟩ => p1 σ H1 _ (e.mono g1) fun y u H2 g2 r2 ⟨ey, p2⟩ => by
    subst ex ey
    obtain ⟨a, xs, rfl, h1, h2⟩ := rep_list.mp r1
    refine ⟨a, xs, rfl, rep_int.mp r2, (hide_same _ _).seq (g2.1.seq h1), fun l hn => ?_⟩
    have g3 : Goes f H2 (upd H2 l (.lst xs.reverse)) := .of_same (same_new hn _) g2.2
    have rr : ∀ {ds : List PyData} {xs : List V}, Reps K (hide (upd H2 l (.lst xs.reverse)) f) ds xs → True := fun _ => trivial
    have rev : ∀ (H : Hp) (ds : List PyData) (xs : List V), Reps K H ds xs → Reps K H ds.reverse xs.reverse := by
      intro H ds
      induction ds with
      | nil => intro xs h; rw [reps_nil.mp h]; exact .nil'
      | cons d ds ih =>
        intro xs h
        obtain ⟨x, r, rfl, h2, h3⟩ := reps_cons.mp h
        rw [List.reverse_cons, List.reverse_cons]
        exact (ih r h3).snoc h2
    exact q ds.reverse l _ _ (g1.trans (g2.trans g3)) ((g1.trans g2).free e.fd hn) upd_same (Reps.mono g3.1 _ _ (rev _ _ _ (Reps.mono g2.1 _ _ h2))) p2
end
end L2
end
section
set_option Elab.async false
set_option linter.all false
set_option maxRecDepth 100000
set_option maxHeartbeats 4000000
namespace L2
open PySem PySem.Spec PyProof.Rows
/-- a table in the heap: its rows are lists of their own -/
structure TabAt (H : Hp) (a : Addr) (as : List Addr) (rows : List (List Int)) : Prop where
  top : H a = some (.lst (as.map .ref))
  nd : (a :: as).Nodup
  len : as.length = rows.length
  row : ∀ (i : Nat) x r, as[i]? = some x → rows[i]? = some r → H x = some (.lst (r.map .int))
def PEdT (K : PySem.W.Frag) (f : Fx) (te : TE) (ρ : DEnv) (P : List (List Int) → Prop) : Prop := ∀ (σ : St) (H : Hp) (Q : VK), EnvOk K f ρ σ H →
  (∀ rows a as H', Goes f H H' → H a = none → (∀ x ∈ as, H x = none) → TabAt H' a as rows → P rows → Q (.ref a) H') → te σ H Q
section
variable {K : PySem.W.Frag} {f : Fx} {ρ : DEnv} {te tl : TE} {fr : List Nat}
theorem tab_core {J : It} {n : Nat} {dd : Nat → PyData} {R : Nat → List Int → Prop} {D : Addr} {H1 : Hp} {σ : St} {Q : VK} (hn : H1 D = none) (e1 : EnvOk K f ρ σ H1) (hz : n ≤ 1000)
    (hJ : ∀ (i : Nat) H', Same (hide H1 f) (hide H' (f.with D)) → (i < n → J.go i H' ∧ ∀ x H3, J.yld i H' x H3 → H3 = H' ∧ Rep K (hide H' (f.with D)) (dd i) x) ∧ (i = n → J.stop i H'))
    (hte : ∀ i, i < n → PEdL K (f.with D) te (some (.dat (dd i)) :: frD fr ρ) fun es => ∃ ns : List Int, es = ns.map .int ∧ R i ns)
    (hQ : ∀ rows as H', Goes f H1 H' → (∀ x ∈ as, H1 x = none) → TabAt H' D as rows → rows.length = n → (∀ (k : Nat) r, rows[k]? = some r → R k r) → Q (.ref D) H') :
    tLoop J (gName 0) tYes (tEmit D te) (startC 1 fr σ) (upd H1 D (.lst [])) fun _ H2 => Q (.ref D) H2 := by
  have nD := fresh_ne e1.fd hn
  have hD : f.f ≠ some D := fun z => nD (.inl z)
  have hM : D ∉ f.M := fun z => nD (.inr z)
  have fo2 : FOk (f.with D) (upd H1 D (.lst [])) := fok_in e1.fd hn
  refine ⟨fun i m σ' H' => i ≤ n ∧ m + i = n ∧ ∃ y as rows, EnvOk K (f.with D) (y :: frD fr ρ) σ' H' ∧ Same (hide (upd H1 D (.lst [])) (f.with D)) (hide H' (f.with D)) ∧ (∀ b ∈ f.M, H' b = (upd H1 D (.lst [])) b) ∧ (∀ p, H' p = none → (upd H1 D (.lst [])) p = none) ∧
      H' D = some (.lst (as.map .ref)) ∧ as.Nodup ∧ D ∉ as ∧ (∀ x ∈ as, (upd H1 D (.lst [])) x = none) ∧ as.length = i ∧ rows.length = i ∧ (∀ (k : Nat) x r, as[k]? = some x → rows[k]? = some r → H' x = some (.lst (r.map .int))) ∧ ∀ (k : Nat) r, rows[k]? = some r → R k r,
    ⟨n, Nat.zero_le _, rfl, none, [], [], env_in (startD_ok (own := 1) (fr := fr) e1) hn, Same.refl _, fun _ _ => rfl, fun _ h => h, upd_same, List.nodup_nil, by simp, (fun x hx => by cases hx), rfl, rfl, (fun k x r h => by simp at h), fun k r h => by simp at h⟩, ?_⟩
  rintro i m σ' H' ⟨hi, hm, y, as, rows, env, sm, kp, fre, top, nd, nDas, asf, la, lr, rw', hR⟩
  have smk : Same (hide H1 f) (hide H' (f.with D)) := (same_in hn).trans sm
  obtain ⟨jg, js⟩ := hJ i H' smk
  by_cases hlt : i < n
  · obtain ⟨go, yl⟩ := jg hlt
    refine .inr ⟨go, fun x H3 hy => ?_⟩
    obtain ⟨rfl, rx⟩ := yl x H3 hy
    unfold gName tYes
    dsimp only
    rw [if_pos rfl]
    unfold tEmit
    have env2 : EnvOk K (f.with D) (some (.dat (dd i)) :: frD fr ρ) (σ'.set 0 (some x)) H3 := env.set 0 (x := .dat (dd i)) rx
    refine hte i hlt _ H3 _ env2 fun es Dn vs H4 g4 n4 h4 r4 ⟨ns, hes, hRn⟩ => ?_
    subst hes
    have evs : vs = ns.map V.int := r4.ints
    subst evs
    have hDn : Dn ≠ D := fun z => by rw [z, top] at n4; cases n4
    have keep : ∀ x ∈ as, ∀ o, H3 x = some o → H4 x = some o := fun x hx o ho => (hide_of (g4.sm x o (hide_get (fresh_ne fo2 (asf x hx)) ho))).2
    have hasome : ∀ x ∈ as, ∃ o, H3 x = some o := fun x hx => by
      obtain ⟨k, hk, ek⟩ := List.getElem_of_mem hx
      exact ⟨_, rw' k x _ (by rw [List.getElem?_eq_getElem hk, ek]) (List.getElem?_eq_getElem (by omega))⟩
    have nDn : Dn ∉ as := fun hx => by
      obtain ⟨o, ho⟩ := hasome Dn hx
      rw [n4] at ho; cases ho
    refine ⟨as.map .ref, (g4.kp D List.mem_cons_self).trans top, small1000 (by rw [List.length_map]; omega), m - 1, by omega, by omega, by omega, some (.dat (dd i)), as ++ [Dn], rows ++ [ns], env_put hD (env2.mono g4), ?_, ?_, ?_, ?_, ?_, ?_, ?_, ?_, ?_, ?_, ?_⟩
    · rw [hide_with_upd (H := H4)]; exact sm.trans g4.sm
    · exact fun b hb => (upd_ne (fun (z : b = D) => hM (z ▸ hb))).trans ((g4.kp b (List.mem_cons_of_mem _ hb)).trans (kp b hb))
    · intro p hp
      by_cases hpd : p = D
      · subst hpd; rw [upd_same] at hp; cases hp
      · rw [upd_ne hpd] at hp
        exact fre p (g4.free env2.fd hp)
    · rw [upd_same, List.map_append]; rfl
    · exact List.nodup_append.mpr ⟨nd, by simp, fun x hx z hz => by
        have : z = Dn := by simpa using hz
        subst this
        exact fun e => nDn (e ▸ hx)⟩
    · simp [nDas, Ne.symm hDn]
    · intro x hx
      rcases List.mem_append.mp hx with hx | hx
      · exact asf x hx
      · have : x = Dn := by simpa using hx
        subst this
        exact fre _ n4
    · simp [la]
    · simp [lr]
    · intro k x r hx hr
      have hxm := List.mem_of_getElem? hx
      have hxD : x ≠ D := by
        rintro rfl
        rcases List.mem_append.mp hxm with hx' | hx'
        · exact nDas hx'
        · have : x = Dn := by simpa using hx'
          exact hDn this.symm
      rw [upd_ne hxD]
      by_cases hk : k < as.length
      · rw [List.getElem?_append_left hk] at hx
        rw [List.getElem?_append_left (by omega)] at hr
        exact keep x (List.mem_of_getElem? hx) _ (rw' k x r hx hr)
      · have hk' : k = as.length := by
          have := (List.getElem?_eq_some_iff.mp hx).1
          simp at this; omega
        subst hk'
        rw [List.getElem?_append_right (Nat.le_refl _)] at hx
        rw [List.getElem?_append_right (by omega)] at hr
        simp only [Nat.sub_self, List.getElem?_cons_zero] at hx
        rw [la, ← lr, Nat.sub_self, List.getElem?_cons_zero] at hr
        cases hx
        cases hr
        exact h4
    · intro k r hr
      by_cases hk : k < rows.length
      · rw [List.getElem?_append_left hk] at hr; exact hR k r hr
      · have hk' : k = rows.length := by
          have := (List.getElem?_eq_some_iff.mp hr).1
          simp at this; omega
        subst hk'
        rw [List.getElem?_append_right (Nat.le_refl _), Nat.sub_self, List.getElem?_cons_zero] at hr
        cases hr
        rw [lr]; exact hRn
  · have ei : i = n := by omega
    subst ei
    refine .inl ⟨js rfl, hQ rows as H' ⟨smk.trans same_with, ⟨env.fd.fd, fun b hb => env.fd.mm b (List.mem_cons_of_mem _ hb), fun p e hp => env.fd.nm p e (List.mem_cons_of_mem _ hp)⟩, fun b hb => ?_⟩ (fun x hx => ?_) ⟨top, List.nodup_cons.mpr ⟨nDas, nd⟩, by omega, rw'⟩ lr hR⟩
    · rw [kp b hb, upd_ne]
      obtain ⟨o, h3⟩ := e1.fd.mm b hb
      exact ne_of_none h3 hn
    · have := asf x hx
      rw [upd_ne (fun (z : x = D) => nDas (z ▸ hx))] at this
      exact this
theorem t_range {t : TA} {P : List (List Int) → Prop} (h : PAd K f t ρ fun xs => ∃ j : Int, xs = [.dat (.int j)] ∧ j ≤ 1000 ∧ -1000 ≤ j ∧ ∃ R : Nat → List Int → Prop,
      (∀ D (i : Nat), (i : Int) < j → PEdL K (f.with D) te (some (.dat (.int i)) :: frD fr ρ) fun es => ∃ ns : List Int, es = ns.map .int ∧ R i ns) ∧ ∀ rows, rows.length = j.toNat → (∀ (k : Nat) r, rows[k]? = some r → R k r) → P rows) :
    PEdT K f (tComp (iRng1 t) 1 fr (gName 0) tYes fun D => tEmit D te) ρ P := fun σ H Q e q => h σ H _ e fun xs vs H1 g1 r1 ⟨j, ex, b1, b2, R, rs, re⟩ => by
  subst ex
  cases r1 with
  | @cons _ v0 _ _ rx r' =>
    cases r'
    have rx' : Rep K (hide H1 f) (.int j) v0 := rx
    refine ⟨j, by rw [rep_int.mp rx'], by omega, by omega, fun D hn => ?_⟩
    refine tab_core (n := j.toNat) (dd := fun i => .int i) (R := R) hn (e.mono g1) (by omega) (fun i H' _ => ⟨fun hi => ⟨hi, fun x H3 hy => ?_⟩, fun hi => Nat.le_of_eq hi.symm⟩) (fun i hi => rs D i (by omega)) fun rows as H' g' fa ta hl hR => ?_
    · obtain ⟨rfl, rfl⟩ := hy
      have hz : (0 : Int) + (i : Int) = (i : Int) := Int.zero_add _
      exact ⟨rfl, by rw [hz]; exact (rep_int (K := K)).mpr rfl⟩
    · exact q rows D as H' (g1.trans g') (g1.free e.fd hn) (fun x hx => g1.free e.fd (fa x hx)) ta (re rows hl hR)
theorem t_list {P : List (List Int) → Prop} (h : PEd K f tl ρ fun x => ∃ ds, x = .list ds ∧ ds.length ≤ 1000 ∧ ∃ R : Nat → List Int → Prop,
      (∀ D (i : Nat) d, ds[i]? = some d → PEdL K (f.with D) te (some (.dat d) :: frD fr ρ) fun es => ∃ ns : List Int, es = ns.map .int ∧ R i ns) ∧ ∀ rows, rows.length = ds.length → (∀ (k : Nat) r, rows[k]? = some r → R k r) → P rows) :
    PEdT K f (tComp (iList K tl) 1 fr (gName 0) tYes fun D => tEmit D te) ρ P := fun σ H Q e q => h σ H _ e fun x v H1 g1 r1 ⟨ds, ex, hz, R, rs, re⟩ => by
  subst ex
  obtain ⟨a, xs, rfl, s1, s2⟩ := rep_list.mp r1
  have hl := s2.length
  refine ⟨a, rfl, ⟨xs, (hide_same _ _).seq s1⟩, fun D hn => ?_⟩
  refine tab_core (n := ds.length) (dd := fun i => ds.getD i .none) (R := R) hn (e.mono g1) hz (fun i H' sk => ?_) (fun i hi => ?_) fun rows as H' g' fa ta hl' hR => ?_
  · have sq : SqL K H' a xs := (hide_same _ _).seq (sk.seq s1)
    refine ⟨fun hi => ?_, fun hi => ⟨xs, sq, by omega⟩⟩
    obtain ⟨z, hzz, rz⟩ := s2.get (List.getElem?_eq_getElem hi)
    refine ⟨⟨xs, z, sq, hzz⟩, fun x H3 hy => ?_⟩
    obtain ⟨rfl, hy⟩ := hy
    have ez := hy xs sq
    rw [hzz] at ez
    cases ez
    refine ⟨rfl, ?_⟩
    have eg : ds.getD i .none = ds[i] := by simp [List.getD, hi]
    rw [eg]
    exact Rep.mono sk _ _ rz
  · have eg : ds.getD i .none = ds[i] := by simp [List.getD, hi]
    rw [eg]
    exact rs D i _ (List.getElem?_eq_getElem hi)
  · exact q rows D as H' (g1.trans g') (g1.free e.fd hn) (fun x hx => g1.free e.fd (fa x hx)) ta (re rows hl' hR)
/-- a table is data, too -/
theorem TabAt.rep {H : Hp} {a : Addr} {as : List Addr} {rows : List (List Int)} (t : TabAt H a as rows) (ha : ¬ (f.f = some a ∨ a ∈ f.M)) (hs : ∀ x ∈ as, ¬ (f.f = some x ∨ x ∈ f.M)) : Rep K (hide H f) (.list (rows.map fun r => .list (r.map .int))) (.ref a) := by
  refine rep_list.mpr ⟨a, _, rfl, .of (hide_get ha t.top), ?_⟩
  have key : ∀ (as : List Addr) (rows : List (List Int)), as.length = rows.length → (∀ x ∈ as, ¬ (f.f = some x ∨ x ∈ f.M)) → (∀ (i : Nat) x r, as[i]? = some x → rows[i]? = some r → H x = some (.lst (r.map .int))) → Reps K (hide H f) (rows.map fun r => .list (r.map .int)) (as.map .ref) := by
    intro as
    induction as with
    | nil => intro rows hl _ _; cases rows with
      | nil => exact .nil'
      | cons r rs => cases hl
    | cons x as ih =>
      intro rows hl hs hr
      cases rows with
      | nil => cases hl
      | cons r rs =>
        exact .cons' (rep_list.mpr ⟨x, _, rfl, .of (hide_get (hs x List.mem_cons_self) (hr 0 x r rfl rfl)), Reps.ints' r⟩) (ih rs (by simpa using hl) (fun y hy => hs y (List.mem_cons_of_mem _ hy)) fun i y q h1 h2 => hr (i + 1) y q (by simpa using h1) (by simpa using h2))
  exact key as rows t.len hs t.row
end
/-- a def that tells a new table -/
def spT {γ : Type} (K : PySem.W.Frag) (n : Nat) (pre : γ → List DV → Prop) (post : γ → List (List Int) → Prop) : Sp := fun vs H Q _ => ∃ f xs c, RepVs K f H xs vs ∧ xs.length = n ∧ FOk f H ∧ pre c xs ∧
  ∀ rows a as H', Goes f H H' → H a = none → (∀ x ∈ as, H x = none) → TabAt H' a as rows → post c rows → Q (.ref a) H'
end L2
end
section
set_option Elab.async false
set_option linter.all false
set_option maxRecDepth 100000
set_option maxHeartbeats 4000000
namespace L2
open PySem PySem.Spec PyProof.Rows
/-! ### isinstance(x, list), isinstance(x, tuple) -/
def rIsi (K : PySem.W.Frag) : List V → Hp → VK → Prop := fun xs H Q => ∃ x n b, xs = [x, .ty n] ∧ ((∃ a ys, x = .ref a ∧ SqL K H a ys ∧ PySem.W.kitOne K (.type "list") (.type n) = some b) ∨ (∃ a ys, x = .ref a ∧ SqT K H a ys ∧ PySem.W.kitOne K (.type "tuple") (.type n) = some b) ∨ ∃ t, TyOf K H x t ∧ PySem.W.kitOne K t (.type n) = some b) ∧ Q (.bl b) H
theorem call_isi {X : Cx} : CallR X (.builtin "isinstance") (rIsi X.K) := by
  intro pins s σ H xs us Q I r h
  obtain ⟨x, n, b, rfl, hx, q⟩ := h
  obtain ⟨u, w', rfl, rx, rn⟩ := vals2 r
  cases rn
  rcases hx with ⟨a, ys, rfl, hq, hk⟩ | ⟨a, ys, rfl, hq, hk⟩ | ⟨t, ty, hk⟩
  · cases rx
    obtain ⟨its, _, p, _⟩ := I.list hq
    obtain ⟨o, ho, hc, _⟩ := p.isList
    exact PySem.W.kia_one PySem.W.kitx_list I.kIn ⟨o, ho, hc⟩ hk (fun z => nomatch z) fun tk => ⟨.bl b, H, I.tok tk, rfl, q⟩
  · cases rx
    obtain ⟨its, _, p, _⟩ := I.tuple hq
    obtain ⟨o, ho, hc, _⟩ := p
    exact PySem.W.kia_one PySem.W.kitx_tuple I.kIn ⟨o, ho, hc⟩ hk (fun z => nomatch z) fun tk => ⟨.bl b, H, I.tok tk, rfl, q⟩
  · exact isinst_ok I rx ty hk fun tk => ⟨.bl b, H, I.tok tk, rfl, q⟩
section
variable {K : PySem.W.Frag} {f : Fx} {ρ : DEnv} {P : PyData → Prop} {te ta tb : TE}
theorem d_isL {n : String} {b : Bool} (hk : PySem.W.kitOne K (.type "list") (.type n) = some b) (h : PEd K f te ρ fun d => ∃ ds, d = .list ds ∧ P (.bool b)) : PEd K f (tCB (rIsi K) (tCons te (tCons (tC (.ty n)) tNil))) ρ P := fun σ H Q e q => h σ H _ e fun d v H1 g r ⟨ds, ed, p⟩ => by
  subst ed
  obtain ⟨a, xs, rfl, s1, _⟩ := rep_list.mp r
  exact ⟨_, n, b, rfl, .inl ⟨a, xs, rfl, (hide_same _ _).seq s1, hk⟩, q _ _ H1 g (rep_bool.mpr rfl) p⟩
theorem d_isT {n : String} {b : Bool} (hk : PySem.W.kitOne K (.type "tuple") (.type n) = some b) (h : PEd K f te ρ fun d => ∃ ds, d = .tuple ds ∧ P (.bool b)) : PEd K f (tCB (rIsi K) (tCons te (tCons (tC (.ty n)) tNil))) ρ P := fun σ H Q e q => h σ H _ e fun d v H1 g r ⟨ds, ed, p⟩ => by
  subst ed
  obtain ⟨a, xs, rfl, s1, _⟩ := rep_tuple.mp r
  exact ⟨_, n, b, rfl, .inr (.inl ⟨a, xs, rfl, (hide_same _ _).seqT s1, hk⟩), q _ _ H1 g (rep_bool.mpr rfl) p⟩
theorem flat_reps {H : Hp} {ds : List PyData} {vs : List V} (r : Reps K H ds vs) : ∀ k : Nat, Reps K H (List.replicate k ds).flatten (List.replicate k vs).flatten
  | 0 => .nil'
  | k + 1 => by
    rw [List.replicate_succ, List.replicate_succ, List.flatten_cons, List.flatten_cons]
    exact r.append (flat_reps r k)
/-- [..] * n -/
theorem d_rep (h : PEdL K f ta ρ fun ds => PEd K f tb ρ fun y => ∃ k : Int, y = .int k ∧ 0 ≤ k ∧ k ≤ 100 ∧ ds.length ≤ 7 ∧ P (.list (List.replicate k.toNat ds).flatten)) : PEd K f (tOp rRep ta tb) ρ P := fun σ H Q e q =>
  h σ H _ e fun ds D vs H1 g1 n1 h1 r1 p1 => p1 σ H1 _ (e.mono g1) fun y w H2 g2 r2 ⟨k, ey, k0, k1, hd, p⟩ => by
    subst ey
    have hD := fresh_ne e.fd n1
    have h2 : H2 D = some (.lst vs) := (hide_of (g2.sm D _ (hide_get hD h1))).2
    have r3 := Reps.mono g2.1 ds vs r1
    have hl := r3.length
    refine ⟨D, k, vs, rfl, rep_int.mp r2, h2, by omega, by omega, ?_, fun l hn => ?_⟩
    · refine Nat.le_of_lt (small1000 ?_)
      rw [hl]
      have : k.toNat ≤ 100 := by omega
      exact Nat.le_trans (Nat.mul_le_mul hd this) (by decide)
    · have g3 : Goes f H2 (upd H2 l (.lst (List.replicate k.toNat vs).flatten)) := .of_same (same_new hn _) g2.2
      exact q _ _ _ (g1.trans (g2.trans g3)) (rep_list.mpr ⟨l, _, rfl, .of (hide_get (fresh_ne g2.2 hn) upd_same), flat_reps (Reps.mono g3.1 ds vs r3) _⟩) p
end
section
variable {P : Program} {w : World} {K : PySem.W.Frag} {mg : Str → Option Value} {base : Heap} {j k n : Nat} {x : Str} {st : Stmt} {ps N : List Str} {γ : Type} {pre : γ → List DV → Prop} {post : γ → List (List Int) → Prop}
theorem Def.okT (F : Def K mg x st ps) (S : FnScope N ps (defScope st)) (hn : ps.length = n)
    (h : ∀ (fa : Addr) (cdv : Value) (A : Around) (outer : List Env) (s : Shared) (H : Hp) (E : XK), Room k (A.deeper (envOfC x (defScope st) s.heap.objs.size fa cdv)) →
      ∃ t, PSs (cxOf CX0 P w K mg base N x (defScope st) fa cdv A outer s H E).nox (defBody st) t ∧ ∀ (f : Fx) (xs : List DV) (c : γ), xs.length = n → pre c xs → ∀ (σ : St) (H : Hp) (D : Ends), EnvOk K f (startV N xs) σ H →
        (∀ rows a as H', Goes f H H' → H a = none → (∀ y ∈ as, H y = none) → TabAt H' a as rows → post c rows → D.rt (.ref a) H') → t D σ H) :
    FnIn P w K mg base (k + 1) x ps (spT K n pre post) := by
  refine F.raw S (fun vs H Q E h => ?_) fun fa cdv A outer s H vs Q E hr hs => ?_
  · obtain ⟨f, xs, c, r, hl, _⟩ := h
    rw [r.length, hl, hn]
  · obtain ⟨f, xs, c, r, hl, fo, hp, q⟩ := hs
    obtain ⟨t, h1, h2⟩ := h fa cdv A outer s H E hr
    exact ⟨t, h1, h2 f xs c hl hp (start N vs) H _ (startV_ok r fo) q⟩
/-- .. as data -/
theorem FnIn.tabD (G : FnIn P w K mg base k x ps (spT K n pre post)) : FnIn P w K mg base k x ps (spD K n pre fun c r => ∃ rows, r = .list (rows.map fun q => .list (q.map .int)) ∧ post c rows) := by
  obtain ⟨fa, fd, a, b, c, d⟩ := G.ex
  refine ⟨fa, fd, a.imp fun vs H Q E h => ?_, b, c, d⟩
  obtain ⟨f, xs, cc, r, hl, fo, hp, q⟩ := h
  exact ⟨f, xs, cc, r, hl, fo, hp, fun rows l as H' g hn hs ta po => q _ _ H' g (ta.rep (fresh_ne fo hn) fun y hy => fresh_ne fo (hs y hy)) ⟨rows, rfl, po⟩⟩
end
section
variable {K : PySem.W.Frag} {f : Fx} {ρ : DEnv} {P : List PyData → Prop} {te tl : TE} {tt : TT} {g : TG} {own : Nat} {fr : List Nat}
/-- [.. for tg in range(n) if ..] -/
theorem c_rangeL {t : TA} (h : PAd K f t ρ fun xs => ∃ j : Int, xs = [.dat (.int j)] ∧ j ≤ 1000 ∧ -1000 ≤ j ∧ ∃ R : Nat → DEnv → List PyData → Prop, R 0 (startD own fr ρ) [] ∧
      (∀ D (i : Nat) ρ' es, (i : Int) < j → R i ρ' es → PGd K (f.with D) g (.int i) ρ' fun ρ2 => PTd K (f.with D) tt ρ2 fun b => if b = true then PEd K (f.with D) te ρ2 fun e => R (i + 1) ρ2 (es ++ [e]) else R (i + 1) ρ2 es) ∧
      (∀ i ρ' es, R i ρ' es → es.length ≤ i) ∧ ∀ ρ' es, R j.toNat ρ' es → P es) :
    PEdL K f (tComp (iRng1 t) own fr g tt fun D => tEmit D te) ρ P := fun σ H Q e q => h σ H _ e fun xs vs H1 g1 r1 ⟨j, ex, b1, b2, R, r0, rs, rl, re⟩ => by
  subst ex
  cases r1 with
  | @cons _ v0 _ _ rx r' =>
    cases r'
    have rx' : Rep K (hide H1 f) (.int j) v0 := rx
    refine ⟨j, by rw [rep_int.mp rx'], by omega, by omega, fun D hn => ?_⟩
    have nD := fresh_ne g1.2 hn
    have hD : f.f ≠ some D := fun z => nD (.inl z)
    have hM : D ∉ f.M := fun z => nD (.inr z)
    have e1 := e.mono g1
    refine ⟨fun i m σ' H' => ∃ ρ' es, CSt K f D (upd H1 D (.lst [])) ρ' es σ' H' ∧ R i ρ' es ∧ i ≤ j.toNat ∧ m + i = j.toNat, ⟨j.toNat, _, [], comp_begin hn e1, r0, Nat.zero_le _, rfl⟩, fun i m σ' H' ⟨ρ', es, c, p, hi, hm⟩ => ?_⟩
    by_cases hlt : i < j.toNat
    · refine .inr ⟨hlt, fun x H3 hy => ?_⟩
      obtain ⟨rfl, rfl⟩ := hy
      have hz : (0 : Int) + (i : Int) = (i : Int) := Int.zero_add _
      rw [hz]
      refine comp_turn (R := R (i + 1)) hD hM c (by have := rl i ρ' es p; omega) ((rep_int (K := K)).mpr rfl) (rs D i ρ' es (by omega) p) fun ρ2 es2 σ2 H4 c2 p2 => ?_
      exact ⟨m - 1, by omega, ρ2, es2, c2, p2, by omega, by omega⟩
    · have ei : i = j.toNat := by omega
      subst ei
      obtain ⟨ge, _⟩ := comp_end (σ' := σ') hn g1.2 c
      obtain ⟨vs, h1, h2⟩ := c.lst
      exact .inl ⟨Nat.le_refl _, q es D vs H' (g1.trans ge) (g1.free e.fd hn) h1 (Reps.mono same_with es vs h2) (re ρ' es p)⟩
theorem c_listL (h : PEd K f tl ρ fun x => ∃ ds, x = .list ds ∧ ds.length ≤ 1000 ∧ ∃ R : Nat → DEnv → List PyData → Prop, R 0 (startD own fr ρ) [] ∧
      (∀ D (i : Nat) d ρ' es, ds[i]? = some d → R i ρ' es → PGd K (f.with D) g d ρ' fun ρ2 => PTd K (f.with D) tt ρ2 fun b => if b = true then PEd K (f.with D) te ρ2 fun e => R (i + 1) ρ2 (es ++ [e]) else R (i + 1) ρ2 es) ∧
      (∀ i ρ' es, R i ρ' es → es.length ≤ i) ∧ ∀ ρ' es, R ds.length ρ' es → P es) :
    PEdL K f (tComp (iList K tl) own fr g tt fun D => tEmit D te) ρ P := fun σ H Q e q => h σ H _ e fun x v H1 g1 r1 ⟨ds, ex, hz, R, r0, rs, rl, re⟩ => by
  subst ex
  obtain ⟨a, xs, rfl, s1, s2⟩ := rep_list.mp r1
  have hl := s2.length
  refine ⟨a, rfl, ⟨xs, (hide_same _ _).seq s1⟩, fun D hn => ?_⟩
  have nD := fresh_ne g1.2 hn
  have hD : f.f ≠ some D := fun z => nD (.inl z)
  have hM : D ∉ f.M := fun z => nD (.inr z)
  have e1 := e.mono g1
  have keep : ∀ {ρ' : DEnv} {es : List PyData} {σ' : St} {H' : Hp}, CSt K f D (upd H1 D (.lst [])) ρ' es σ' H' → Same (hide H1 f) (hide H' (f.with D)) := fun c => (same_in hn).trans c.sm
  refine ⟨fun i m σ' H' => ∃ ρ' es, CSt K f D (upd H1 D (.lst [])) ρ' es σ' H' ∧ R i ρ' es ∧ i ≤ ds.length ∧ m + i = ds.length, ⟨ds.length, _, [], comp_begin hn e1, r0, Nat.zero_le _, rfl⟩, fun i m σ' H' ⟨ρ', es, c, p, hi, hm⟩ => ?_⟩
  have sq : SqL K H' a xs := (hide_same _ _).seq ((keep c).seq s1)
  by_cases hlt : i < ds.length
  · obtain ⟨z, hzz, rz⟩ := s2.get (List.getElem?_eq_getElem hlt)
    refine .inr ⟨⟨xs, z, sq, hzz⟩, fun x H3 hy => ?_⟩
    obtain ⟨rfl, hy⟩ := hy
    have ez := hy xs sq
    rw [hzz] at ez
    cases ez
    refine comp_turn (R := R (i + 1)) hD hM c (by have := rl i ρ' es p; omega) (Rep.mono (keep c) _ _ rz) (rs D i _ ρ' es (List.getElem?_eq_getElem hlt) p) fun ρ2 es2 σ2 H4 c2 p2 => ?_
    exact ⟨m - 1, by omega, ρ2, es2, c2, p2, by omega, by omega⟩
  · have ei : i = ds.length := by omega
    subst ei
    obtain ⟨ge, _⟩ := comp_end (σ' := σ') hn g1.2 c
    obtain ⟨vs, h1, h2⟩ := c.lst
    exact .inl ⟨⟨xs, sq, by omega⟩, q es D vs H' (g1.trans ge) (g1.free e.fd hn) h1 (Reps.mono same_with es vs h2) (re ρ' es p)⟩
/-! the forms one uses: one own name, no test -/
theorem c_rangeL1 {t : TA} (h : PAd K f t ρ fun xs => ∃ j : Int, xs = [.dat (.int j)] ∧ j ≤ 1000 ∧ -1000 ≤ j ∧ ∃ R : Nat → PyData → Prop,
      (∀ D (i : Nat), (i : Int) < j → PEd K (f.with D) te (some (.dat (.int i)) :: frD fr ρ) (R i)) ∧ ∀ es : List PyData, es.length = j.toNat → (∀ (i : Nat) e, es[i]? = some e → R i e) → P es) :
    PEdL K f (tComp (iRng1 t) 1 fr (gName 0) tYes fun D => tEmit D te) ρ P :=
  c_rangeL fun σ H Q e q => h σ H Q e fun xs vs H' g' r' ⟨j, ex, b1, b2, R, rs, re⟩ => by
    refine q xs vs H' g' r' ⟨j, ex, b1, b2, fun i ρ' es => (∃ x, ρ' = x :: frD fr ρ) ∧ es.length = i ∧ ∀ (k : Nat) e, es[k]? = some e → R k e, ⟨⟨none, rfl⟩, rfl, fun k e h => by simp at h⟩, fun D i ρ' es hi p => ?_, fun i ρ' es p => Nat.le_of_eq p.2.1, fun ρ' es p => re es p.2.1 p.2.2⟩
    obtain ⟨⟨x, rfl⟩, hl, hp⟩ := p
    refine g_name ?_
    intro σ H Q e q
    refine q true H (.refl e.fd) ?_
    dsimp only
    rw [if_pos rfl]
    refine (rs D i hi).imp fun d hd => ⟨⟨_, rfl⟩, by rw [List.length_append, hl]; rfl, fun k e hk => ?_⟩
    by_cases hkl : k < es.length
    · rw [List.getElem?_append_left hkl] at hk; exact hp k e hk
    · rw [List.getElem?_append_right (by omega)] at hk
      have hk0 : k - es.length = 0 := by
        have := (List.getElem?_eq_some_iff.mp hk).1
        simp at this; omega
      rw [hk0] at hk
      cases hk
      have : k = i := by omega
      subst this
      exact hd
theorem c_listL1 (h : PEd K f tl ρ fun x => ∃ ds, x = .list ds ∧ ds.length ≤ 1000 ∧ ∃ R : Nat → PyData → Prop,
      (∀ D (i : Nat) d, ds[i]? = some d → PEd K (f.with D) te (some (.dat d) :: frD fr ρ) (R i)) ∧ ∀ es : List PyData, es.length = ds.length → (∀ (i : Nat) e, es[i]? = some e → R i e) → P es) :
    PEdL K f (tComp (iList K tl) 1 fr (gName 0) tYes fun D => tEmit D te) ρ P :=
  c_listL (h.imp fun x ⟨ds, ex, hz, R, rs, re⟩ => by
    refine ⟨ds, ex, hz, fun i ρ' es => (∃ x, ρ' = x :: frD fr ρ) ∧ es.length = i ∧ ∀ (k : Nat) e, es[k]? = some e → R k e, ⟨⟨none, rfl⟩, rfl, fun k e h => by simp at h⟩, fun D i d ρ' es hi p => ?_, fun i ρ' es p => Nat.le_of_eq p.2.1, fun ρ' es p => re es p.2.1 p.2.2⟩
    obtain ⟨⟨x, rfl⟩, hl, hp⟩ := p
    refine g_name ?_
    intro σ H Q e q
    refine q true H (.refl e.fd) ?_
    dsimp only
    rw [if_pos rfl]
    refine (rs D i d hi).imp fun d hd => ⟨⟨_, rfl⟩, by rw [List.length_append, hl]; rfl, fun k e hk => ?_⟩
    by_cases hkl : k < es.length
    · rw [List.getElem?_append_left hkl] at hk; exact hp k e hk
    · rw [List.getElem?_append_right (by omega)] at hk
      have hk0 : k - es.length = 0 := by
        have := (List.getElem?_eq_some_iff.mp hk).1
        simp at this; omega
      rw [hk0] at hk
      cases hk
      have : k = i := by omega
      subst this
      exact hd)
end
end L2
end
section
set_option Elab.async false
set_option linter.all false
set_option maxRecDepth 100000
namespace L2
open PySem PySem.Spec PyProof.Rows
/-! ### the rules with the written part as a letter (within a comprehension's block nothing of the block may stand in a reading) -/
section
variable {X : Cx} {K : PySem.W.Frag}
theorem ix_listK (hK : X.K = K) : IxR X (rIxL K) := hK ▸ ix_list
theorem ix_tupK (hK : X.K = K) : IxR X (rIxT K) := hK ▸ ix_tup
theorem call_lenK (hK : X.K = K) : CallR X (.builtin "len") (fun xs H Q => ∃ p ys, xs = [.ref p] ∧ (SqL K H p ys ∨ SqT K H p ys) ∧ Q (.int ys.length) H) := hK ▸ call_len_seq
theorem call_listK (hK : X.K = K) : CallR X (.type "list") (fun xs H Q => ∃ p ys, xs = [.ref p] ∧ (SqL K H p ys ∨ SqT K H p ys) ∧ ∀ l, H l = none → Q (.ref l) (upd H l (.lst ys))) := hK ▸ call_list_of
theorem call_tupleK (hK : X.K = K) : CallR X (.type "tuple") (fun xs H Q => ∃ p ys, xs = [.ref p] ∧ ((SqL K H p ys ∧ ∀ l, H l = none → Q (.ref l) (upd H l (.tup ys))) ∨ (SqT K H p ys ∧ Q (.ref p) H))) := hK ▸ call_tuple_of
theorem call_minK (hK : X.K = K) (hc : X.calm = true) : CallR X (.builtin "min") (fun xs H Q => ∃ a ns, xs = [.ref a] ∧ SqL K H a (ns.map V.int) ∧ ns ≠ [] ∧ ∀ M, M ∈ ns → (∀ b ∈ ns, M ≤ b) → Q (.int M) H) := hK ▸ call_minL hc
theorem call_maxK (hK : X.K = K) (hc : X.calm = true) : CallR X (.builtin "max") (fun xs H Q => ∃ a ns, xs = [.ref a] ∧ SqL K H a (ns.map V.int) ∧ ns ≠ [] ∧ ∀ M, M ∈ ns → (∀ b ∈ ns, b ≤ M) → Q (.int M) H) := hK ▸ call_maxL hc
theorem op_eqK (hK : X.K = K) (hu : X.A.units + 64 < cLine) : OpR X (compareOp .Eq) (rEqD K false) := hK ▸ op_eqD hu
theorem op_neK (hK : X.K = K) (hu : X.A.units + 64 < cLine) : OpR X (compareOp .NotEq) (rEqD K true) := hK ▸ op_neD hu
theorem call_isiK (hK : X.K = K) : CallR X (.builtin "isinstance") (rIsi K) := hK ▸ call_isi
variable {tg l e st : Expr} {tl te ts : TE} {ta : TA} {p pos p2 : Pos}
theorem pi_listK (hK : X.K = K) (hl : PE X l tl) : PI X tg l (iList K tl) := hK ▸ pi_list hl
theorem pi_tupK (hK : X.K = K) (hl : PE X l tl) : PI X tg l (iTup K tl) := hK ▸ pi_tup hl
theorem pi_enumK {es : List Expr} {k : Nat} {tpos : Pos} (hK : X.K = K) (hg : Gl X "enumerate") (hm : X.mg "enumerate" = none) (ha : PA X [l] ta) (hs : starEach [l] X.env = [(false, eval l X.env)] := by rfl) : PI X (.Tuple es k tpos) (.Call (.Name "enumerate" p) [l] [] pos) (iEnum K ta) := hK ▸ pi_enum hg hm ha hs
theorem pt_truK (hK : X.K = K) (ha : PE X e te) (he : ∀ whole, isTrue e X.env whole = (do let v ← whole; standAt e.pos; holding [v] (truthy v))) : PT X e (tTru K te) := hK ▸ pt_tru ha he
theorem pe_revK (hK : X.K = K) (he : PE X e te) (hst : PE X st ts) : PE X (.Subscript e (.Slice none none (some st) p2) pos) (tRev K te ts) := hK ▸ pe_rev he hst
theorem pg_tupK {es : List Expr} {k : Nat} {t : TGs} {n : Nat} (hK : X.K = K) (hc : X.calm = true) (h : PGs X es t) (hn : (assignEach es X.env).length = n := by rfl) (hst : (assignEach es X.env).findIdx? (·.1) = none := by rfl) : PG X (.Tuple es k pos) (gTup K n t) := hK ▸ pg_tup hc h hn hst
end
end L2
end
section
set_option Elab.async false
set_option linter.all false
set_option maxRecDepth 100000
set_option maxHeartbeats 4000000
namespace L2
open PySem PySem.Spec PyProof.Rows
/-! ### what is walked, as a list of data -/
structure ItD (K : PySem.W.Frag) (f : Fx) (ds : List PyData) (J : It) (H1 : Hp) : Prop where
  go : ∀ (f' : Fx) (H' : Hp) (i : Nat) d, FOk f' H' → Same (hide H1 f) (hide H' f') → ds[i]? = some d → J.go i H' ∧ ∀ x H3, J.yld i H' x H3 → Goes f' H' H3 ∧ Rep K (hide H3 f') d x
  st : ∀ (f' : Fx) (H' : Hp), FOk f' H' → Same (hide H1 f) (hide H' f') → J.stop ds.length H'
def PId (K : PySem.W.Frag) (f : Fx) (wi : TI) (ρ : DEnv) (R : List PyData → Prop) : Prop := ∀ (σ : St) (H : Hp) (C : It → Hp → Prop), EnvOk K f ρ σ H →
  (∀ ds J H1, Goes f H H1 → ItD K f ds J H1 → R ds → C J H1) → wi σ H C
def rangeD (n : Nat) : List PyData := (List.range n).map fun (i : Nat) => .int (i : Int)
def rangeD2 (i j : Int) : List PyData := (List.range (j - i).toNat).map fun (k : Nat) => .int (i + (k : Int))
def enumD (ds : List PyData) : List PyData := ds.mapIdx fun i d => .tuple [.int (i : Int), d]
section
variable {K : PySem.W.Frag} {f : Fx} {ρ : DEnv} {R : List PyData → Prop} {tl : TE} {t : TA}
theorem PId.imp {wi : TI} {R' : List PyData → Prop} (h : PId K f wi ρ R) (i : ∀ ds, R ds → R' ds) : PId K f wi ρ R' := fun σ H C e q => h σ H C e fun ds J H1 g it r => q ds J H1 g it (i ds r)
theorem i_range (h : PAd K f t ρ fun xs => ∃ j : Int, xs = [.dat (.int j)] ∧ -(2 ^ 62) ≤ j ∧ j < 2 ^ 62 ∧ R (rangeD j.toNat)) : PId K f (iRng1 t) ρ R := fun σ H C e q => h σ H _ e fun xs vs H1 g1 r1 ⟨j, ex, q1, q2, p⟩ => by
  subst ex
  cases r1 with
  | @cons _ v0 _ _ rx r' =>
    cases r'
    have rx' : Rep K (hide H1 f) (.int j) v0 := rx
    refine ⟨j, by rw [rep_int.mp rx'], q1, q2, q _ _ H1 g1 ⟨fun f' H' i d fo _ hd => ?_, fun f' H' _ _ => ?_⟩ p⟩
    · unfold rangeD at hd
      rw [List.getElem?_map] at hd
      by_cases hi : i < j.toNat
      · rw [List.getElem?_range hi] at hd
        cases hd
        refine ⟨hi, fun x H3 hy => ?_⟩
        obtain ⟨rfl, rfl⟩ := hy
        exact ⟨.refl fo, rep_int.mpr (by rw [Int.zero_add])⟩
      · rw [List.getElem?_eq_none (by rw [List.length_range]; omega)] at hd
        cases hd
    · show j.toNat ≤ (rangeD j.toNat).length
      unfold rangeD
      rw [List.length_map, List.length_range]
      exact Nat.le_refl _
theorem i_range2 (h : PAd K f t ρ fun xs => ∃ i j : Int, xs = [.dat (.int i), .dat (.int j)] ∧ (-(2 ^ 62) ≤ i ∧ i < 2 ^ 62 ∧ -(2 ^ 62) ≤ j ∧ j < 2 ^ 62) ∧ R (rangeD2 i j)) : PId K f (iRng2 t) ρ R := fun σ H C e q => h σ H _ e fun xs vs H1 g1 r1 ⟨i, j, ex, q1, p⟩ => by
  subst ex
  cases r1 with
  | @cons _ v0 _ _ rx r' =>
    cases r' with
    | @cons _ v1 _ _ ry r'' =>
      cases r''
      have rx' : Rep K (hide H1 f) (.int i) v0 := rx
      have ry' : Rep K (hide H1 f) (.int j) v1 := ry
      refine ⟨i, j, by rw [rep_int.mp rx', rep_int.mp ry'], q1, q _ _ H1 g1 ⟨fun f' H' k d fo _ hd => ?_, fun f' H' _ _ => ?_⟩ p⟩
      · unfold rangeD2 at hd
        rw [List.getElem?_map] at hd
        by_cases hi : k < (j - i).toNat
        · rw [List.getElem?_range hi] at hd
          cases hd
          refine ⟨hi, fun x H3 hy => ?_⟩
          obtain ⟨rfl, rfl⟩ := hy
          exact ⟨.refl fo, rep_int.mpr rfl⟩
        · rw [List.getElem?_eq_none (by rw [List.length_range]; omega)] at hd
          cases hd
      · show (j - i).toNat ≤ (rangeD2 i j).length
        unfold rangeD2
        rw [List.length_map, List.length_range]
        exact Nat.le_refl _
theorem i_list (h : PEd K f tl ρ fun x => ∃ ds, x = .list ds ∧ R ds) : PId K f (iList K tl) ρ R := fun σ H C e q => h σ H _ e fun x v H1 g1 r1 ⟨ds, ex, p⟩ => by
  subst ex
  obtain ⟨a, xs, rfl, h1, h2⟩ := rep_list.mp r1
  have hl := h2.length
  refine ⟨a, rfl, ⟨xs, (hide_same _ _).seq h1⟩, q ds _ H1 g1 ⟨fun f' H' i d fo sm hd => ?_, fun f' H' _ sm => ⟨xs, (hide_same _ _).seq (sm.seq h1), Nat.le_of_eq hl⟩⟩ p⟩
  obtain ⟨z, hz, rz⟩ := h2.get hd
  have sq : SqL K H' a xs := (hide_same _ _).seq (sm.seq h1)
  refine ⟨⟨xs, z, sq, hz⟩, fun x H3 hy => ?_⟩
  obtain ⟨rfl, hy⟩ := hy
  have ez := hy xs sq
  rw [hz] at ez
  cases ez
  exact ⟨.refl fo, Rep.mono sm _ _ rz⟩
theorem i_tup (h : PEd K f tl ρ fun x => ∃ ds, x = .tuple ds ∧ R ds) : PId K f (iTup K tl) ρ R := fun σ H C e q => h σ H _ e fun x v H1 g1 r1 ⟨ds, ex, p⟩ => by
  subst ex
  obtain ⟨a, xs, rfl, h1, h2⟩ := rep_tuple.mp r1
  have hl := h2.length
  refine ⟨a, rfl, ⟨xs, (hide_same _ _).seqT h1⟩, q ds _ H1 g1 ⟨fun f' H' i d fo sm hd => ?_, fun f' H' _ sm => ⟨xs, (hide_same _ _).seqT (sm.seqT h1), Nat.le_of_eq hl⟩⟩ p⟩
  obtain ⟨z, hz, rz⟩ := h2.get hd
  have sq : SqT K H' a xs := (hide_same _ _).seqT (sm.seqT h1)
  refine ⟨⟨xs, z, sq, hz⟩, fun x H3 hy => ?_⟩
  obtain ⟨rfl, hy⟩ := hy
  have ez := hy xs sq
  rw [hz] at ez
  cases ez
  exact ⟨.refl fo, Rep.mono sm _ _ rz⟩
theorem i_enum (h : PAd K f t ρ fun xs => ∃ ds, xs = [.dat (.list ds)] ∧ R (enumD ds)) : PId K f (iEnum K t) ρ R := fun σ H C e q => h σ H _ e fun xs vs H1 g1 r1 ⟨ds, ex, p⟩ => by
  subst ex
  cases r1 with
  | cons rx r' =>
    cases r'
    obtain ⟨a, xs, rfl, h1, h2⟩ := rep_list.mp rx
    have hl := h2.length
    refine ⟨a, rfl, ⟨xs, (hide_same _ _).seq h1⟩, q (enumD ds) _ H1 g1 ⟨fun f' H' i d fo sm hd => ?_, fun f' H' _ sm => ⟨xs, (hide_same _ _).seq (sm.seq h1), by unfold enumD; rw [List.length_mapIdx]; exact Nat.le_of_eq hl⟩⟩ p⟩
    unfold enumD at hd
    rw [List.getElem?_mapIdx] at hd
    cases eq : ds[i]? with
    | none => rw [eq] at hd; cases hd
    | some d0 =>
      rw [eq] at hd
      cases hd
      obtain ⟨z, hz, rz⟩ := h2.get eq
      have sq : SqL K H' a xs := (hide_same _ _).seq (sm.seq h1)
      refine ⟨⟨xs, z, sq, hz⟩, fun x H3 hy => ?_⟩
      obtain ⟨tp, y, rfl, hn, rfl, hy⟩ := hy
      have ez := hy xs sq
      rw [hz] at ez
      cases ez
      have gn : Goes f' H' (upd H' tp (.tup [.int i, z])) := .of_same (same_new hn _) fo
      exact ⟨gn, rep_tuple.mpr ⟨tp, _, rfl, .of (hide_get (fresh_ne fo hn) upd_same), .cons' (rep_int.mpr rfl) (.cons' (Rep.mono gn.1 _ _ (Rep.mono sm _ _ rz)) .nil')⟩⟩
end
/-! ### for -/
section
variable {K : PySem.W.Frag} {f : Fx} {ρ : DEnv} {D : DEnds} {wi : TI} {g : TG} {ts : TS}
theorem s_for (h : PId K f wi ρ fun ds => ∃ J : Nat → DEnv → Prop, J 0 ρ ∧
      (∀ (i : Nat) d ρ', ds[i]? = some d → J i ρ' → PGd K f g d ρ' fun ρ2 => PSd K f ts ρ2 { D with nx := J (i + 1), ct := J (i + 1), bk := D.nx }) ∧ ∀ ρ', J ds.length ρ' → D.nx ρ') :
    PSd K f (tFor wi g ts) ρ D := fun σ H E e n r b c => h σ H _ e fun ds J H1 g1 it ⟨Jv, j0, js, jd⟩ => by
  refine ⟨fun i m σ' H' => ∃ ρ', EnvOk K f ρ' σ' H' ∧ Goes f H1 H' ∧ Jv i ρ' ∧ m + i = ds.length, ⟨ds.length, ρ, e.mono g1, .refl g1.2, j0, rfl⟩, fun i m σ' H' ⟨ρ', e', g', p, hm⟩ => ?_⟩
  by_cases hi : i < ds.length
  · obtain ⟨hgo, hy⟩ := it.go f H' i _ e'.fd g'.sm (List.getElem?_eq_getElem hi)
    refine .inr ⟨hgo, fun σ2 H2 => ∃ ρ2, EnvOk K f ρ2 σ2 H2 ∧ Goes f H1 H2 ∧ Jv (i + 1) ρ2, fun σ2 H2 ⟨ρ2, e2, g2, p2⟩ => ⟨m - 1, by omega, ρ2, e2, g2, p2, by omega⟩, fun x H3 hx => ?_⟩
    obtain ⟨g3, r3⟩ := hy x H3 hx
    refine js i _ ρ' (List.getElem?_eq_getElem hi) p σ' H3 x _ (e'.mono g3) r3 fun ρ2 σ2 H4 g4 e4 p4 => ?_
    have gg := g'.trans (g3.trans g4)
    exact p4 σ2 H4 _ e4 (fun ρ5 σ5 H5 g5 e5 p5 => ⟨ρ5, e5, gg.trans g5, p5⟩) (fun d v H5 g5 r5 p5 => r d v H5 (g1.trans (gg.trans g5)) r5 p5) (fun ρ5 σ5 H5 g5 e5 p5 => n ρ5 σ5 H5 (g1.trans (gg.trans g5)) e5 p5) (fun ρ5 σ5 H5 g5 e5 p5 => ⟨ρ5, e5, gg.trans g5, p5⟩)
  · have ei : i = ds.length := by omega
    subst ei
    exact .inl ⟨it.st f H' e'.fd g'.sm, n ρ' σ' H' (g1.trans g') e' (jd ρ' p)⟩
end
/-! ### comprehensions -/
section
variable {K : PySem.W.Frag} {f : Fx} {ρ : DEnv} {D : Addr} {wi : TI} {g : TG} {tt : TT} {te : TE}
theorem CSt.self {H2 H : Hp} {es : List PyData} {σ : St} (c : CSt K f D H2 ρ es σ H) : CSt K f D H ρ es σ H := ⟨c.env, Same.refl _, fun _ _ => rfl, c.lst⟩
theorem CSt.trans {H2 H H' : Hp} {es es' : List PyData} {ρ' : DEnv} {σ σ' : St} (c : CSt K f D H2 ρ es σ H) (d : CSt K f D H ρ' es' σ' H') : CSt K f D H2 ρ' es' σ' H' := ⟨d.env, c.sm.trans d.sm, fun b hb => (d.kp b hb).trans (c.kp b hb), d.lst⟩
def PBd (K : PySem.W.Frag) (f : Fx) (D : Addr) (tb : TB) (ρ : DEnv) (es : List PyData) (R : DEnv → List PyData → Prop) : Prop := f.f ≠ some D → D ∉ f.M → ∀ (σ : St) (H H2 : Hp) (W : St → Hp → Prop), CSt K f D H2 ρ es σ H →
  (∀ ρ2 es2 σ2 H', CSt K f D H2 ρ2 es2 σ2 H' → R ρ2 es2 → W σ2 H') → tb σ H W
theorem b_emit {es : List PyData} {R : DEnv → List PyData → Prop} (hl : es.length < 1000) (h : PEd K (f.with D) te ρ fun e => R ρ (es ++ [e])) : PBd K f D (tEmit D te) ρ es R := fun hD hM σ H H2 W c q =>
  h σ H _ c.env fun e u H5 g5 r5 p5 => by
    have c5 := c.go g5 (c.env.mono g5)
    obtain ⟨vs, h1, h2⟩ := c5.lst
    exact ⟨vs, h1, small1000 (by rw [h2.length]; omega), q _ _ _ _ (c5.put hD hM h1 h2 r5) p5⟩
/-- a loop that writes the list at D -/
theorem b_loop {fi : Fx} {Hi H2 H : Hp} {ds es : List PyData} {J : It} {tb : TB} {σ : St} {W : St → Hp → Prop} (it : ItD K fi ds J Hi) (hD : f.f ≠ some D) (hM : D ∉ f.M) (c : CSt K f D H2 ρ es σ H) (sm : Same (hide Hi fi) (hide H (f.with D)))
    (Jv : Nat → DEnv → List PyData → Prop) (j0 : Jv 0 ρ es)
    (js : ∀ (i : Nat) d ρ' es', ds[i]? = some d → Jv i ρ' es' → PGd K (f.with D) g d ρ' fun ρ2 => PTd K (f.with D) tt ρ2 fun b => if b = true then PBd K f D tb ρ2 es' (Jv (i + 1)) else Jv (i + 1) ρ2 es')
    (hW : ∀ ρ' es' σ' H', CSt K f D H2 ρ' es' σ' H' → Jv ds.length ρ' es' → W σ' H') : tLoop J g tt tb σ H W := by
  refine ⟨fun i m σ' H' => ∃ ρ' es', CSt K f D H2 ρ' es' σ' H' ∧ Same (hide Hi fi) (hide H' (f.with D)) ∧ Jv i ρ' es' ∧ m + i = ds.length, ⟨ds.length, ρ, es, c, sm, j0, rfl⟩, fun i m σ' H' ⟨ρ', es', c', sm', p, hm⟩ => ?_⟩
  by_cases hi : i < ds.length
  · obtain ⟨hgo, hy⟩ := it.go (f.with D) H' i _ c'.env.fd sm' (List.getElem?_eq_getElem hi)
    refine .inr ⟨hgo, fun x H3 hx => ?_⟩
    obtain ⟨g3, r3⟩ := hy x H3 hx
    have c3 := c'.go g3 (c'.env.mono g3)
    refine js i _ ρ' es' (List.getElem?_eq_getElem hi) p σ' H3 x _ c3.env r3 fun ρ2 σ2 H4 g4 e4 p4 => ?_
    have c4 := c3.go g4 e4
    refine p4 σ2 H4 _ e4 fun b H5 g5 p5 => ?_
    have c5 := c4.go g5 (e4.mono g5)
    have sm5 := ((sm'.trans g3.sm).trans g4.sm).trans g5.sm
    cases b with
    | false =>
      rw [if_neg Bool.false_ne_true] at p5 ⊢
      exact ⟨m - 1, by omega, ρ2, es', c5, sm5, p5, by omega⟩
    | true =>
      rw [if_pos rfl] at p5 ⊢
      exact p5 hD hM σ2 H5 H5 _ c5.self fun ρ6 es6 σ6 H6 c6 p6 => ⟨m - 1, by omega, ρ6, es6, c5.trans c6, sm5.trans c6.sm, p6, by omega⟩
  · have ei : i = ds.length := by omega
    subst ei
    exact .inl ⟨it.st (f.with D) H' c'.env.fd sm', hW ρ' es' σ' H' c' p⟩
theorem b_in {es : List PyData} {tb : TB} {R : DEnv → List PyData → Prop} (h : PId K (f.with D) wi ρ fun ds => ∃ Jv : Nat → DEnv → List PyData → Prop, Jv 0 ρ es ∧
      (∀ (i : Nat) d ρ' es', ds[i]? = some d → Jv i ρ' es' → PGd K (f.with D) g d ρ' fun ρ2 => PTd K (f.with D) tt ρ2 fun b => if b = true then PBd K f D tb ρ2 es' (Jv (i + 1)) else Jv (i + 1) ρ2 es') ∧
      ∀ ρ' es', Jv ds.length ρ' es' → R ρ' es') : PBd K f D (tIn wi g tt tb) ρ es R := fun hD hM σ H H2 W c q =>
  h σ H _ c.env fun ds J H1 g1 it ⟨Jv, j0, js, jd⟩ =>
    b_loop it hD hM (c.go g1 (c.env.mono g1)) (Same.refl _) Jv j0 js fun ρ' es' σ' H' c' p => q ρ' es' σ' H' c' (jd ρ' es' p)
/-- a new list, its items' things apart from it -/
def PEdO (K : PySem.W.Frag) (f : Fx) (te : TE) (ρ : DEnv) (P : List PyData → Prop) : Prop := ∀ (σ : St) (H : Hp) (Q : VK), EnvOk K f ρ σ H →
  (∀ es D vs H', Goes f H H' → H D = none → H' D = some (.lst vs) → Reps K (hide H' (f.with D)) es vs → P es → Q (.ref D) H') → te σ H Q
theorem PEdO.pedl {P : List PyData → Prop} (h : PEdO K f te ρ P) : PEdL K f te ρ P := fun σ H Q e q => h σ H Q e fun es D vs H' g n h1 r p => q es D vs H' g n h1 (Reps.mono same_with es vs r) p
theorem PEdO.ped {P : PyData → Prop} (h : PEdO K f te ρ fun es => P (.list es)) : PEd K f te ρ P := h.pedl.ped
theorem PEdO.imp {P P' : List PyData → Prop} (h : PEdO K f te ρ P) (i : ∀ es, P es → P' es) : PEdO K f te ρ P' := fun σ H Q e q => h σ H Q e fun es D vs H' g n h1 r p => q es D vs H' g n h1 r (i es p)
theorem o_nil {P : List PyData → Prop} (h : P []) : PEdO K f (tLst tNil) ρ P := fun σ H Q e q => ⟨Nat.zero_le _, fun p hn => q [] p [] _ (.of_same (same_new hn _) e.fd) hn upd_same .nil' h⟩
theorem c_comp {own : Nat} {fr : List Nat} {tb : Addr → TB} {P : List PyData → Prop} (h : PId K f wi ρ fun ds => ∃ Jv : Nat → DEnv → List PyData → Prop, Jv 0 (startD own fr ρ) [] ∧
      (∀ D (i : Nat) d ρ' es', ds[i]? = some d → Jv i ρ' es' → PGd K (f.with D) g d ρ' fun ρ2 => PTd K (f.with D) tt ρ2 fun b => if b = true then PBd K f D (tb D) ρ2 es' (Jv (i + 1)) else Jv (i + 1) ρ2 es') ∧
      ∀ ρ' es', Jv ds.length ρ' es' → P es') : PEdO K f (tComp wi own fr g tt tb) ρ P := fun σ H Q e q =>
  h σ H _ e fun ds J H1 g1 it ⟨Jv, j0, js, jd⟩ D hn => by
    have nD := fresh_ne g1.2 hn
    have hD : f.f ≠ some D := fun z => nD (.inl z)
    have hM : D ∉ f.M := fun z => nD (.inr z)
    refine b_loop it hD hM (comp_begin hn (e.mono g1)) (same_in hn) Jv j0 (js D) fun ρ' es' σ' H' c' p => ?_
    obtain ⟨ge, rep⟩ := comp_end (σ' := σ') hn g1.2 c'
    obtain ⟨vs, h1, h2⟩ := c'.lst
    exact q es' D vs H' (g1.trans ge) (g1.free e.fd hn) h1 h2 (jd ρ' es' p)
end
end L2
end
section
set_option Elab.async false
set_option linter.all false
set_option maxRecDepth 100000
set_option maxHeartbeats 4000000
namespace L2
open PySem PySem.Spec PyProof.Rows
/-! ### comprehensions by a function of the item: what it adds -/
section
variable {K : PySem.W.Frag} {f : Fx} {ρ : DEnv} {D : Addr} {wi : TI} {g : TG} {tt : TT} {te : TE}
theorem take_flat {F : PyData → List PyData} {ds : List PyData} {i : Nat} {d : PyData} (h : ds[i]? = some d) : (ds.take (i + 1)).flatMap F = (ds.take i).flatMap F ++ F d := by
  rw [List.take_add_one, h, List.flatMap_append]
  simp
theorem flat_le {F : PyData → List PyData} {ds : List PyData} {i : Nat} : ((ds.take i).flatMap F).length ≤ (ds.flatMap F).length := by
  conv => rhs; rw [← List.take_append_drop i ds, List.flatMap_append, List.length_append]
  omega
def OwnE (own : Nat) (ρ0 : DEnv) (ρ' : DEnv) : Prop := ∃ us : DEnv, us.length = own ∧ ρ' = us ++ ρ0
theorem OwnE.one {ρ0 ρ' : DEnv} (h : OwnE 1 ρ0 ρ') : ∃ u, ρ' = u :: ρ0 := by
  obtain ⟨us, h1, rfl⟩ := h
  match us, h1 with
  | [u], _ => exact ⟨u, rfl⟩
theorem OwnE.two {ρ0 ρ' : DEnv} (h : OwnE 2 ρ0 ρ') : ∃ u v, ρ' = u :: v :: ρ0 := by
  obtain ⟨us, h1, rfl⟩ := h
  match us, h1 with
  | [u, v], _ => exact ⟨u, v, rfl⟩
theorem OwnE.three {ρ0 ρ' : DEnv} (h : OwnE 3 ρ0 ρ') : ∃ u v w, ρ' = u :: v :: w :: ρ0 := by
  obtain ⟨us, h1, rfl⟩ := h
  match us, h1 with
  | [u, v, w], _ => exact ⟨u, v, w, rfl⟩
theorem OwnE.mk1 {ρ0 : DEnv} {u : Option DV} : OwnE 1 ρ0 (u :: ρ0) := ⟨[u], rfl, rfl⟩
theorem OwnE.mk2 {ρ0 : DEnv} {u v : Option DV} : OwnE 2 ρ0 (u :: v :: ρ0) := ⟨[u, v], rfl, rfl⟩
theorem OwnE.mk3 {ρ0 : DEnv} {u v w : Option DV} : OwnE 3 ρ0 (u :: v :: w :: ρ0) := ⟨[u, v, w], rfl, rfl⟩
theorem c_flat {own : Nat} {fr : List Nat} {tb : Addr → TB} {P : List PyData → Prop} (h : PId K f wi ρ fun ds => ∃ F : PyData → List PyData, (ds.flatMap F).length ≤ 1000 ∧
      (∀ D d ρ' es, d ∈ ds → OwnE own (frD fr ρ) ρ' → es.length + (F d).length ≤ 1000 → PGd K (f.with D) g d ρ' fun ρ2 => PTd K (f.with D) tt ρ2 fun b => if b = true then PBd K f D (tb D) ρ2 es fun ρ3 es3 => OwnE own (frD fr ρ) ρ3 ∧ es3 = es ++ F d else OwnE own (frD fr ρ) ρ2 ∧ F d = []) ∧
      P (ds.flatMap F)) : PEdO K f (tComp wi own fr g tt tb) ρ P :=
  c_comp (h.imp fun ds ⟨F, hl, hs, hp⟩ => by
    refine ⟨fun i ρ' es => OwnE own (frD fr ρ) ρ' ∧ es = (ds.take i).flatMap F, ⟨⟨List.replicate own none, by simp, rfl⟩, by simp⟩, fun D i d ρ' es hd ⟨ho, he⟩ => ?_, fun ρ' es ⟨_, he⟩ => ?_⟩
    · have hb : es.length + (F d).length ≤ 1000 := by
        rw [he, ← List.length_append, ← take_flat hd]
        exact Nat.le_trans flat_le hl
      have := hs D d ρ' es (List.mem_of_getElem? hd) ho hb
      intro σ H v Q e r q
      refine this σ H v Q e r fun ρ2 σ2 H2 g2 e2 p2 => q ρ2 σ2 H2 g2 e2 (p2.imp fun b hb2 => ?_)
      cases b with
      | false =>
        rw [if_neg Bool.false_ne_true] at hb2 ⊢
        exact ⟨hb2.1, by rw [take_flat hd, hb2.2, List.append_nil]; exact he⟩
      | true =>
        rw [if_pos rfl] at hb2 ⊢
        intro h1 h2 σ3 H3 H4 W c k
        exact hb2 h1 h2 σ3 H3 H4 W c fun ρ5 es5 σ5 H5 c5 ⟨o5, p5⟩ => k ρ5 es5 σ5 H5 c5 ⟨o5, by rw [p5, take_flat hd, he]⟩
    · rw [he, List.take_length]
      exact hp)
theorem b_flat {own : Nat} {ρ0 : DEnv} {es : List PyData} {tb : TB} {R : DEnv → List PyData → Prop} (ho : OwnE own ρ0 ρ) (h : PId K (f.with D) wi ρ fun ds => ∃ F : PyData → List PyData, es.length + (ds.flatMap F).length ≤ 1000 ∧
      (∀ d ρ' es', d ∈ ds → OwnE own ρ0 ρ' → es'.length + (F d).length ≤ 1000 → (∃ i, es' = es ++ (ds.take i).flatMap F ∧ (i = 0 → ρ' = ρ)) → PGd K (f.with D) g d ρ' fun ρ2 => PTd K (f.with D) tt ρ2 fun b => if b = true then PBd K f D tb ρ2 es' fun ρ3 es3 => OwnE own ρ0 ρ3 ∧ es3 = es' ++ F d else OwnE own ρ0 ρ2 ∧ F d = []) ∧
      ∀ ρ', OwnE own ρ0 ρ' → R ρ' (es ++ ds.flatMap F)) : PBd K f D (tIn wi g tt tb) ρ es R :=
  b_in (h.imp fun ds ⟨F, hl, hs, hp⟩ => by
    refine ⟨fun i ρ' es' => OwnE own ρ0 ρ' ∧ es' = es ++ (ds.take i).flatMap F ∧ (i = 0 → ρ' = ρ), ⟨ho, by simp, fun _ => rfl⟩, fun i d ρ' es' hd ⟨ho, he, h0⟩ => ?_, fun ρ' es' ⟨ho, he, _⟩ => ?_⟩
    · have hb : es'.length + (F d).length ≤ 1000 := by
        have : ((ds.take i).flatMap F).length + (F d).length ≤ (ds.flatMap F).length := by rw [← List.length_append, ← take_flat hd]; exact flat_le
        rw [he, List.length_append]
        omega
      have := hs d ρ' es' (List.mem_of_getElem? hd) ho hb ⟨i, he, h0⟩
      intro σ H v Q e r q
      refine this σ H v Q e r fun ρ2 σ2 H2 g2 e2 p2 => q ρ2 σ2 H2 g2 e2 (p2.imp fun b hb2 => ?_)
      cases b with
      | false =>
        rw [if_neg Bool.false_ne_true] at hb2 ⊢
        exact ⟨hb2.1, by rw [take_flat hd, hb2.2, List.append_nil]; exact he, fun z => by omega⟩
      | true =>
        rw [if_pos rfl] at hb2 ⊢
        intro h1 h2 σ3 H3 H4 W c k
        exact hb2 h1 h2 σ3 H3 H4 W c fun ρ5 es5 σ5 H5 c5 ⟨o5, p5⟩ => k ρ5 es5 σ5 H5 c5 ⟨o5, by rw [p5, take_flat hd, he, List.append_assoc], fun z => by omega⟩
    · rw [he, List.take_length]
      exact hp ρ' ho)
theorem t_yes {B : Bool → Prop} (h : B true) : PTd K f tYes ρ B := fun σ H Q e q => q true H (.refl e.fd) h
end
/-! ### statements that write a list of one's own (at D) -/
structure OEnds where
  nx : DEnv → List PyData → Prop
  rt : PyData → Prop
  bk : DEnv → List PyData → Prop := fun _ _ => False
  ct : DEnv → List PyData → Prop := fun _ _ => False
def PSo (K : PySem.W.Frag) (f : Fx) (D : Addr) (ts : TS) (ρ : DEnv) (es : List PyData) (O : OEnds) : Prop := f.f ≠ some D → D ∉ f.M → ∀ (σ : St) (H H2 : Hp) (E : Ends), CSt K f D H2 ρ es σ H →
  (∀ ρ' es' σ' H', CSt K f D H2 ρ' es' σ' H' → O.nx ρ' es' → E.nx σ' H') → (∀ d v ρ' es' σ' H', CSt K f D H2 ρ' es' σ' H' → Rep K (hide H' f) d v → O.rt d → E.rt v H') →
  (∀ ρ' es' σ' H', CSt K f D H2 ρ' es' σ' H' → O.bk ρ' es' → E.bk σ' H') → (∀ ρ' es' σ' H', CSt K f D H2 ρ' es' σ' H' → O.ct ρ' es' → E.ct σ' H') → ts E σ H
section
variable {K : PySem.W.Frag} {f : Fx} {ρ : DEnv} {D : Addr} {wi : TI} {g : TG} {tt : TT} {te : TE} {ts tu : TS} {es : List PyData} {O : OEnds} {i : Nat}
theorem o_lift (h : PSd K (f.with D) ts ρ { nx := fun ρ' => O.nx ρ' es, rt := O.rt, bk := fun ρ' => O.bk ρ' es, ct := fun ρ' => O.ct ρ' es }) : PSo K f D ts ρ es O := fun hD hM σ H H2 E c n r b k =>
  h σ H E c.env (fun ρ' σ' H' g' e' p => n ρ' es σ' H' (c.go g' e') p) (fun d v H' g' r' p => r d v ρ es σ H' (c.go g' (c.env.mono g')) (Rep.mono same_with d v r') p) (fun ρ' σ' H' g' e' p => b ρ' es σ' H' (c.go g' e') p) (fun ρ' σ' H' g' e' p => k ρ' es σ' H' (c.go g' e') p)
theorem o_seq (h : PSo K f D ts ρ es { O with nx := fun ρ' es' => PSo K f D tu ρ' es' O }) : PSo K f D (tSeq ts tu) ρ es O := fun hD hM σ H H2 E c n r b k =>
  h hD hM σ H H2 _ c (fun ρ' es' σ' H' c' p => p hD hM σ' H' H2 E c' n r b k) r b k
theorem o_next (h : O.nx ρ es) : PSo K f D tNext ρ es O := fun _ _ σ H H2 E c n r b k => n ρ es σ H c h
theorem o_if (h : PTd K (f.with D) tt ρ fun b => if b = true then PSo K f D ts ρ es O else PSo K f D tu ρ es O) : PSo K f D (tIfS tt ts tu) ρ es O := fun hD hM σ H H2 E c n r b k =>
  h σ H _ c.env fun q H1 g1 p => by
    have c1 := c.go g1 (c.env.mono g1)
    cases q with
    | false =>
      rw [if_neg Bool.false_ne_true] at p ⊢
      exact p hD hM σ H1 H2 E c1 n r b k
    | true =>
      rw [if_pos rfl] at p ⊢
      exact p hD hM σ H1 H2 E c1 n r b k
theorem own_at {σ : St} {H H2 : Hp} (hi : ρ[i]? = some (some (.own f.M.length))) (c : CSt K f D H2 ρ es σ H) : σ[i]? = some (some (.ref D)) := by
  obtain ⟨v, h1, p, h2, rfl⟩ := c.env.get i _ hi
  have e : (D :: f.M).reverse[f.M.length]? = some D := by
    rw [List.reverse_cons, List.getElem?_append_right (by simp)]
    simp
  have h2' : (D :: f.M).reverse[f.M.length]? = some p := h2
  rw [e] at h2'
  cases h2'
  exact h1
theorem o_app (hi : ρ[i]? = some (some (.own f.M.length))) (hl : es.length < 1000) (h : PEd K (f.with D) te ρ fun d => O.nx ρ (es ++ [d])) : PSo K f D (tDrop (tBM K "list" rAppend (tVar i) (tCons te tNil))) ρ es O := fun hD hM σ H H2 E c n r b k => by
  obtain ⟨vs0, h0, _⟩ := c.lst
  refine ⟨_, own_at hi c, Or.inl ⟨rfl, vs0, .of h0⟩, ?_⟩
  refine h σ H _ c.env fun d v H1 g1 r1 p1 => ?_
  have c1 := c.go g1 (c.env.mono g1)
  obtain ⟨vs, h1, h2⟩ := c1.lst
  exact ⟨D, vs, v, rfl, rfl, h1, small1000 (by rw [h2.length]; omega), n _ _ _ _ (c1.put hD hM h1 h2 r1) p1⟩
theorem o_ret (hi : ρ[i]? = some (some (.own f.M.length))) (h : O.rt (.list es)) : PSo K f D (tRet (tVar i)) ρ es O := fun hD hM σ H H2 E c n r b k => by
  obtain ⟨vs, h1, h2⟩ := c.lst
  refine ⟨_, own_at hi c, r (.list es) _ ρ es σ H c (rep_list.mpr ⟨D, vs, rfl, .of (hide_get (fun z => ?_) h1), Reps.mono same_with es vs h2⟩) h⟩
  rcases z with z | z
  · exact hD z
  · exact hM z
theorem o_for (h : PId K (f.with D) wi ρ fun ds => ∃ J : Nat → DEnv → List PyData → Prop, J 0 ρ es ∧
      (∀ (i : Nat) d ρ' es', ds[i]? = some d → J i ρ' es' → PGd K (f.with D) g d ρ' fun ρ2 => PSo K f D ts ρ2 es' { O with nx := J (i + 1), ct := J (i + 1), bk := O.nx }) ∧ ∀ ρ' es', J ds.length ρ' es' → O.nx ρ' es') :
    PSo K f D (tFor wi g ts) ρ es O := fun hD hM σ H H2 E c n r b k => h σ H _ c.env fun ds J H1 g1 it ⟨Jv, j0, js, jd⟩ => by
  have c1 := c.go g1 (c.env.mono g1)
  refine ⟨fun i m σ' H' => ∃ ρ' es', CSt K f D H2 ρ' es' σ' H' ∧ Same (hide H1 (f.with D)) (hide H' (f.with D)) ∧ Jv i ρ' es' ∧ m + i = ds.length, ⟨ds.length, ρ, es, c1, Same.refl _, j0, rfl⟩, fun i m σ' H' ⟨ρ', es', c', sm', p, hm⟩ => ?_⟩
  by_cases hi : i < ds.length
  · obtain ⟨hgo, hy⟩ := it.go (f.with D) H' i _ c'.env.fd sm' (List.getElem?_eq_getElem hi)
    refine .inr ⟨hgo, fun σ2 H3 => ∃ ρ2 es2, CSt K f D H2 ρ2 es2 σ2 H3 ∧ Same (hide H1 (f.with D)) (hide H3 (f.with D)) ∧ Jv (i + 1) ρ2 es2, fun σ2 H3 ⟨ρ2, es2, e2, g2, p2⟩ => ⟨m - 1, by omega, ρ2, es2, e2, g2, p2, by omega⟩, fun x H3 hx => ?_⟩
    obtain ⟨g3, r3⟩ := hy x H3 hx
    have c3 := c'.go g3 (c'.env.mono g3)
    refine js i _ ρ' es' (List.getElem?_eq_getElem hi) p σ' H3 x _ c3.env r3 fun ρ2 σ2 H4 g4 e4 p4 => ?_
    have c4 := c3.go g4 e4
    have sm4 := (sm'.trans g3.sm).trans g4.sm
    exact p4 hD hM σ2 H4 H4 _ c4.self (fun ρ5 es5 σ5 H5 c5 p5 => ⟨ρ5, es5, c4.trans c5, sm4.trans c5.sm, p5⟩) (fun d v ρ5 es5 σ5 H5 c5 r5 p5 => r d v ρ5 es5 σ5 H5 (c4.trans c5) r5 p5) (fun ρ5 es5 σ5 H5 c5 p5 => n ρ5 es5 σ5 H5 (c4.trans c5) p5) (fun ρ5 es5 σ5 H5 c5 p5 => ⟨ρ5, es5, c4.trans c5, sm4.trans c5.sm, p5⟩)
  · have ei : i = ds.length := by omega
    subst ei
    exact .inl ⟨it.st (f.with D) H' c'.env.fd sm', n ρ' es' σ' H' c' (jd ρ' es' p)⟩
/-- the own list's slot falls away -/
def dropOwn (n : Nat) : Option DV → Option DV
  | some (.own k) => if k < n then some (.own k) else none
  | x => x
theorem env_out {σ : St} {H H2 : Hp} (c : CSt K f D H2 ρ es σ H) : EnvOk K f (ρ.map (dropOwn f.M.length)) σ H := by
  refine ⟨by rw [List.length_map]; exact c.env.len, fun i x h => ?_, ⟨c.env.fd.fd, fun b hb => c.env.fd.mm b (List.mem_cons_of_mem _ hb), fun p e hp => c.env.fd.nm p e (List.mem_cons_of_mem _ hp)⟩⟩
  rw [List.getElem?_map] at h
  cases e : ρ[i]? with
  | none => rw [e] at h; cases h
  | some y =>
    rw [e] at h
    cases y with
    | none => cases h
    | some y =>
      obtain ⟨v, h1, h2⟩ := c.env.get i y e
      cases y with
      | dat d =>
        cases h
        exact ⟨v, h1, Rep.mono same_with d v h2⟩
      | feed =>
        cases h
        exact ⟨v, h1, h2⟩
      | exc C =>
        cases h
        obtain ⟨a, h3, h4⟩ := h2
        exact ⟨v, h1, a, h3, same_with _ _ h4⟩
      | own k =>
        have h' : (if k < f.M.length then some (DV.own k) else none) = some x := Option.some.inj h
        by_cases hk : k < f.M.length
        · rw [if_pos hk] at h'
          cases h'
          obtain ⟨p, h3, h4⟩ := h2
          refine ⟨v, h1, p, ?_, h4⟩
          have h3' : (D :: f.M).reverse[k]? = some p := h3
          rw [List.reverse_cons, List.getElem?_append_left (by simpa using hk)] at h3'
          exact h3'
        · rw [if_neg hk] at h'
          cases h'
theorem env_fix {σ : St} {H : Hp} {d : PyData} {v : V} (e : EnvOk K f ρ σ H) (hs : σ[i]? = some (some v)) (r : Rep K (hide H f) d v) : EnvOk K f (ρ.set i (some (.dat d))) σ H := by
  refine ⟨by rw [List.length_set]; exact e.len, fun j y h => ?_, e.fd⟩
  by_cases hj : i = j
  · subst hj
    have hi : i < ρ.length := by rw [e.len]; exact (List.getElem?_eq_some_iff.mp hs).1
    rw [List.getElem?_set_self hi] at h
    cases h
    exact ⟨v, hs, r⟩
  · rw [List.getElem?_set_ne hj] at h
    exact e.get j y h
/-- name = [] (or another new list), statements that write it, then the rest with the list as it is -/
theorem s_own {Dn : DEnds} (h : PEdO K f te ρ fun es0 => i < ρ.length ∧ ∀ D, PSo K f D ts (ρ.set i (some (.own f.M.length))) es0 { nx := fun ρ' es => ρ'[i]? = some (some (.own f.M.length)) ∧ PSd K f tu ((ρ'.map (dropOwn f.M.length)).set i (some (.dat (.list es)))) Dn, rt := Dn.rt, bk := fun ρ' es => Dn.bk (ρ'.map (dropOwn f.M.length)), ct := fun ρ' es => Dn.ct (ρ'.map (dropOwn f.M.length)) }) :
    PSd K f (tSeq (tAsg te (gName i)) (tSeq ts tu)) ρ Dn := fun σ H E e n r b k => h σ H _ e fun es0 D vs H1 g1 hn h1 rs ⟨hil, p⟩ => by
  have nD : ¬ (f.f = some D ∨ D ∈ f.M) := fresh_ne e.fd hn
  have hD : f.f ≠ some D := fun z => nD (.inl z)
  have hM : D ∉ f.M := fun z => nD (.inr z)
  have sm0 : Same (hide H f) (hide H1 (f.with D)) := fun b o hb => by
    have hb1 := g1.sm b o hb
    refine hide_get (fun z => ?_) (hide_of hb1).2
    rcases z with z | z
    · exact (hide_of hb1).1 (.inl z)
    · rcases List.mem_cons.mp z with rfl | z
      · have := (hide_of hb).2
        rw [hn] at this
        cases this
      · exact (hide_of hb1).1 (.inr z)
  have fo1 : FOk (f.with D) H1 := ⟨g1.ok.fd, fun b hb => by
    rcases List.mem_cons.mp hb with rfl | hb
    · exact ⟨_, h1⟩
    · exact g1.ok.mm b hb, fun q eq hq => by
    rcases List.mem_cons.mp hq with rfl | hq
    · exact hD eq
    · exact g1.ok.nm q eq hq⟩
  have e1 : EnvOk K (f.with D) ρ σ H1 := ⟨e.len, fun j x hx => by
    obtain ⟨v, a1, a2⟩ := e.get j x hx
    refine ⟨v, a1, ?_⟩
    cases x with
    | dat d => exact Rep.mono sm0 d v a2
    | feed => exact a2
    | exc C =>
      obtain ⟨q, h3, h4⟩ := a2
      exact ⟨q, h3, sm0 _ _ h4⟩
    | own k =>
      obtain ⟨q, h3, h4⟩ := a2
      refine ⟨q, ?_, h4⟩
      show (D :: f.M).reverse[k]? = some q
      rw [List.reverse_cons, List.getElem?_append_left (List.getElem?_eq_some_iff.mp h3).1]
      exact h3, fo1⟩
  have rv : RepV K (f.with D) H1 (.own f.M.length) (.ref D) := ⟨D, by
    show (D :: f.M).reverse[f.M.length]? = some D
    rw [List.reverse_cons, List.getElem?_append_right (by simp)]
    simp, rfl⟩
  have c1 : CSt K f D H1 (ρ.set i (some (.own f.M.length))) es0 (σ.set i (some (.ref D))) H1 := ⟨e1.set i rv, Same.refl _, fun _ _ => rfl, vs, h1, rs⟩
  have gg : ∀ {ρ' : DEnv} {es' : List PyData} {σ' : St} {H' : Hp}, CSt K f D H1 ρ' es' σ' H' → Goes f H H' := fun c => by
    refine ⟨fun b o hb => ?_, (env_out c).fd, fun b hb => (c.kp b hb).trans (g1.kp b hb)⟩
    exact same_with (D := D) b o (c.sm b o (sm0 b o hb))
  refine p D hD hM _ H1 H1 _ c1 (fun ρ' es' σ' H' c' ⟨hi, p'⟩ => ?_) (fun d v ρ' es' σ' H' c' r' p' => r d v H' (gg c') r' p') (fun ρ' es' σ' H' c' p' => b _ σ' H' (gg c') (env_out c') p') (fun ρ' es' σ' H' c' p' => k _ σ' H' (gg c') (env_out c') p')
  obtain ⟨vs', h1', h2'⟩ := c'.lst
  have rl : Rep K (hide H' f) (.list es') (.ref D) := rep_list.mpr ⟨D, vs', rfl, .of (hide_get nD h1'), Reps.mono same_with es' vs' h2'⟩
  exact p' σ' H' E (env_fix (env_out c') (own_at hi c') rl) (fun ρ2 σ2 H2 g2 => n ρ2 σ2 H2 ((gg c').trans g2)) (fun d v H2 g2 => r d v H2 ((gg c').trans g2)) (fun ρ2 σ2 H2 g2 => b ρ2 σ2 H2 ((gg c').trans g2)) (fun ρ2 σ2 H2 g2 => k ρ2 σ2 H2 ((gg c').trans g2))
end
end L2
end
section
set_option Elab.async false
set_option linter.all false
set_option maxRecDepth 100000
set_option maxHeartbeats 4000000
namespace L2
open PySem PySem.Spec PyProof.Rows
section
variable {K : PySem.W.Frag} {f : Fx} {ρ : DEnv} {P : PyData → Prop} {te ta tb : TE} {t : TA}
theorem Reps.drop {H : Hp} : ∀ {ds : List PyData} {xs : List V} (n : Nat), Reps K H ds xs → Reps K H (ds.drop n) (xs.drop n)
  | _, _, 0, r => r
  | [], xs, n + 1, r => by
    rw [reps_nil.mp r]
    exact .nil'
  | d :: ds, xs, n + 1, r => by
    obtain ⟨x, r', rfl, _, h⟩ := reps_cons.mp r
    exact Reps.drop n h
theorem Reps.take {H : Hp} : ∀ {ds : List PyData} {xs : List V} (n : Nat), Reps K H ds xs → Reps K H (ds.take n) (xs.take n)
  | _, _, 0, r => .nil'
  | [], xs, n + 1, r => by
    rw [reps_nil.mp r]
    exact .nil'
  | d :: ds, xs, n + 1, r => by
    obtain ⟨x, r', rfl, h0, h⟩ := reps_cons.mp r
    exact .cons' h0 (Reps.take n h)
def cutD (ds : List PyData) (lo hi : Option Int) : List PyData := (ds.drop (HT.sIx ds.length 0 lo)).take (HT.sIx ds.length ds.length hi - HT.sIx ds.length 0 lo)
theorem Reps.cut {H : Hp} {ds : List PyData} {xs : List V} {lo hi : Option Int} (r : Reps K H ds xs) : Reps K H (cutD ds lo hi) (cutV xs lo hi) := by
  unfold cutD cutV
  rw [r.length]
  exact (r.drop _).take _
theorem cut_from {ds : List PyData} {n : Nat} : cutD ds (some (n : Int)) none = ds.drop n := by
  unfold cutD
  rw [HT.sIx_nat, HT.sIx_none]
  by_cases h : n ≤ ds.length
  · rw [Nat.min_eq_left h]
    exact List.take_of_length_le (by rw [List.length_drop]; exact Nat.le_refl _)
  · rw [Nat.min_eq_right (by omega), Nat.sub_self, List.take_zero, List.drop_eq_nil_of_le (by omega)]
theorem cut_upto {ds : List PyData} {n : Nat} : cutD ds none (some (n : Int)) = ds.take n := by
  unfold cutD
  rw [HT.sIx_nat, HT.sIx_none, List.drop_zero, Nat.sub_zero]
  by_cases h : n ≤ ds.length
  · rw [Nat.min_eq_left h]
  · rw [Nat.min_eq_right (by omega), List.take_of_length_le (Nat.le_refl _), List.take_of_length_le (by omega)]
def POd (K : PySem.W.Frag) (f : Fx) (t : TO) (ρ : DEnv) (R : Option Int → Prop) : Prop := ∀ (σ : St) (H : Hp) (Q : Option Int → Hp → Prop), EnvOk K f ρ σ H → (∀ o H', Goes f H H' → R o → Q o H') → t σ H Q
theorem po_no {R : Option Int → Prop} (h : R none) : POd K f tNoPart ρ R := fun σ H Q e q => q none H (.refl e.fd) h
theorem po_at {R : Option Int → Prop} (h : PEd K f te ρ fun d => ∃ i : Int, d = .int i ∧ R (some i)) : POd K f (tPart te) ρ R := fun σ H Q e q => h σ H _ e fun d v H1 g1 r1 ⟨i, ed, p⟩ => by
  subst ed
  exact ⟨i, rep_int.mp r1, q (some i) H1 g1 p⟩
theorem l_cut {tl th : TO} {P : List PyData → Prop} (h : PEd K f te ρ fun x => ∃ ds, x = .list ds ∧ POd K f tl ρ fun lo => POd K f th ρ fun hi => P (cutD ds lo hi)) : PEdL K f (tSl (rSlL K) te tl th) ρ P := fun σ H Q e q =>
  h σ H _ e fun x v H1 g1 r1 ⟨ds, ex, p1⟩ => p1 σ H1 _ (e.mono g1) fun lo H2 g2 p2 => p2 σ H2 _ ((e.mono g1).mono g2) fun hi H3 g3 p3 => by
    subst ex
    have gg := g1.trans (g2.trans g3)
    obtain ⟨a, xs, rfl, h1, h2⟩ := rep_list.mp (Rep.mono (g2.trans g3).sm _ _ r1)
    refine ⟨a, xs, rfl, (hide_same _ _).seq h1, fun p hn => ?_⟩
    have g4 : Goes f H3 (upd H3 p (.lst (cutV xs lo hi))) := .of_same (same_new hn _) g3.ok
    exact q _ p _ _ (gg.trans g4) (gg.free e.fd hn) upd_same (Reps.mono g4.sm _ _ h2.cut) p3
theorem d_cut {tl th : TO} (h : PEd K f te ρ fun x => ∃ ds, x = .list ds ∧ POd K f tl ρ fun lo => POd K f th ρ fun hi => P (.list (cutD ds lo hi))) : PEd K f (tSl (rSlL K) te tl th) ρ P := (l_cut h).ped
theorem d_catT (h : PEd K f ta ρ fun x => ∃ ds, x = .tuple ds ∧ ds ≠ [] ∧ PEd K f tb ρ fun y => ∃ es, y = .tuple es ∧ es ≠ [] ∧ ds.length + es.length ≤ 1000 ∧ P (.tuple (ds ++ es))) : PEd K f (tOp (rCatT K) ta tb) ρ P := fun σ H Q e q =>
  h σ H _ e fun x v H1 g1 r1 ⟨ds, ex, hd, p1⟩ => p1 σ H1 _ (e.mono g1) fun y w H2 g2 r2 ⟨es, ey, he, hl, p2⟩ => by
    subst ex ey
    obtain ⟨a, xs, rfl, h1, h2⟩ := rep_tuple.mp (Rep.mono g2.sm _ _ r1)
    obtain ⟨b, ys, rfl, h3, h4⟩ := rep_tuple.mp r2
    have l1 := h2.length
    have l2 := h4.length
    refine ⟨a, b, xs, ys, rfl, rfl, (hide_same _ _).seqT h1, (hide_same _ _).seqT h3, fun z => hd (List.eq_nil_of_length_eq_zero (by rw [← l1, z]; rfl)), by rw [l1, l2]; exact Nat.le_of_lt (small1000 hl), fun z => absurd (List.eq_nil_of_length_eq_zero (by rw [← l2, z]; rfl)) he, fun _ p hn => ?_⟩
    have g3 : Goes f H2 (upd H2 p (.tup (xs ++ ys))) := .of_same (same_new hn _) g2.ok
    exact q (.tuple (ds ++ es)) _ _ (g1.trans (g2.trans g3)) (rep_tuple.mpr ⟨p, _, rfl, .of (hide_get (fresh_ne g2.ok hn) upd_same), Reps.mono g3.sm _ _ (h2.append h4)⟩) p2
theorem d_int1 (h : PAd K f t ρ fun xs => (∃ i, xs = [.dat (.int i)] ∧ P (.int i)) ∨ (∃ k : Bool, xs = [.dat (.bool k)] ∧ P (.int (if k then 1 else 0)))) :
    PEd K f (tCB (fun xs H Q => (∃ i, xs = [.int i] ∧ Q (.int i) H) ∨ ∃ k : Bool, xs = [.bl k] ∧ Q (.int (if k then 1 else 0)) H) t) ρ P :=
  d_cb fun σ H Q e q => h σ H Q e fun xs vs H' g r p => by
    rcases p with ⟨i, rfl, p⟩ | ⟨i, rfl, p⟩
    · refine q _ vs H' g r ⟨_, rfl, fun vs H Q fo rs k => ?_⟩
      obtain ⟨x, r, rfl, h2, h3⟩ := reps_cons.mp rs
      rw [reps_nil.mp h3, rep_int.mp h2]
      exact .inl ⟨i, rfl, k _ _ H (.refl fo) (rep_int.mpr rfl) p⟩
    · refine q _ vs H' g r ⟨_, rfl, fun vs H Q fo rs k => ?_⟩
      obtain ⟨x, r, rfl, h2, h3⟩ := reps_cons.mp rs
      rw [reps_nil.mp h3, rep_bool.mp h2]
      exact .inr ⟨i, rfl, k _ _ H (.refl fo) (rep_int.mpr rfl) p⟩
theorem d_tupof (h : PAd K f t ρ fun xs => (∃ ds, xs = [.dat (.list ds)] ∧ P (.tuple ds)) ∨ (∃ ds, xs = [.dat (.tuple ds)] ∧ P (.tuple ds))) :
    PEd K f (tCB (fun xs H Q => ∃ p ys, xs = [.ref p] ∧ ((SqL K H p ys ∧ ∀ l, H l = none → Q (.ref l) (upd H l (.tup ys))) ∨ (SqT K H p ys ∧ Q (.ref p) H))) t) ρ P :=
  d_cb fun σ H Q e q => h σ H Q e fun xs vs H' g r p => by
    rcases p with ⟨ds, rfl, p⟩ | ⟨ds, rfl, p⟩
    · refine q _ vs H' g r ⟨_, rfl, fun vs H Q fo rs k => ?_⟩
      obtain ⟨x, r, rfl, h2, h3⟩ := reps_cons.mp rs
      rw [reps_nil.mp h3]
      obtain ⟨a, ys, rfl, s1, s2⟩ := rep_list.mp h2
      refine ⟨a, ys, rfl, .inl ⟨(hide_same _ _).seq s1, fun l hn => ?_⟩⟩
      have g2 : Goes f H (upd H l (.tup ys)) := .of_same (same_new hn _) fo
      exact k (.tuple ds) _ _ g2 (rep_tuple.mpr ⟨l, ys, rfl, .of (hide_get (fresh_ne fo hn) upd_same), Reps.mono g2.1 ds ys s2⟩) p
    · refine q _ vs H' g r ⟨_, rfl, fun vs H Q fo rs k => ?_⟩
      obtain ⟨x, r, rfl, h2, h3⟩ := reps_cons.mp rs
      rw [reps_nil.mp h3]
      obtain ⟨a, ys, rfl, s1, s2⟩ := rep_tuple.mp h2
      exact ⟨a, ys, rfl, .inr ⟨(hide_same _ _).seqT s1, k (.tuple ds) _ H (.refl fo) (rep_tuple.mpr ⟨a, ys, rfl, s1, s2⟩) p⟩⟩
end
/-! ### a feed that a loop's turn makes anew: no feed ahead and behind -/
abbrev f0 : Fx := ⟨none, []⟩
theorem fok0 (H : Hp) : FOk f0 H := ⟨(fun p e => by cases e), (fun b hb => by cases hb), (fun p e => by cases e)⟩
theorem goes0 {H H' : Hp} (s : Same H H') : Goes f0 H H' := .of_same s (fok0 H)
theorem same0 {H H' : Hp} (g : Goes f0 H H') : Same H H' := fun b o h => (hide_of (g.sm b o (by rw [hide_none]; exact h))).2
def unfeed : Option DV → Option DV
  | some (.dat d) => some (.dat d)
  | _ => none
section
variable {K : PySem.W.Frag} {ρ : DEnv} {te : TE} {tu : TS} {i : Nat}
theorem feed_out {p : Addr} {σ : St} {H : Hp} (e : EnvOk K ⟨some p, []⟩ ρ σ H) : EnvOk K f0 (ρ.map unfeed) σ H := by
  refine ⟨by rw [List.length_map]; exact e.len, fun i x h => ?_, fok0 H⟩
  rw [List.getElem?_map] at h
  cases eq : ρ[i]? with
  | none => rw [eq] at h; cases h
  | some y =>
    rw [eq] at h
    cases y with
    | none => cases h
    | some y =>
      obtain ⟨v, h1, h2⟩ := e.get i y eq
      cases y with
      | dat d =>
        cases h
        refine ⟨v, h1, ?_⟩
        show Rep K (hide H f0) d v
        rw [hide_none]
        exact Rep.mono (hide_same _ _) d v h2
      | feed => cases h
      | own k => cases h
      | exc C => cases h
/-- name = a new feed: what follows runs with it -/
theorem s_feed {Dn : DEnds} (h : ∀ (σ : St) (H : Hp) (Q : VK), EnvOk K f0 ρ σ H → (∀ (p : Addr) (x y : Int) (H' : Hp), Same H H' → H p = none → H' p = some (.lst [.int x, .int y]) → 0 ≤ x → 0 ≤ y → y < 2147483647 → Q (.ref p) H') → te σ H Q)
    (hr : ∀ p, PSd K ⟨some p, []⟩ tu (ρ.set i (some .feed)) { nx := fun ρ' => Dn.nx (ρ'.map unfeed), rt := Dn.rt, bk := fun ρ' => Dn.bk (ρ'.map unfeed), ct := fun ρ' => Dn.ct (ρ'.map unfeed) }) :
    PSd K f0 (tSeq (tAsg te (gName i)) tu) ρ Dn := fun σ H E e n r b k => h σ H _ e fun p x y H1 sm hn hp x0 y0 y1 => by
  have fo : FOk ⟨some p, []⟩ H1 := ⟨fun p' e => by cases e; exact ⟨x, y, hp, x0, y0, y1⟩, (fun b hb => by cases hb), fun _ _ hb => by cases hb⟩
  have sm0 : Same H (hide H1 ⟨some p, []⟩) := fun b o hb => by
    have nb : b ≠ p := fun e => by rw [e, hn] at hb; cases hb
    refine hide_get (fun z => ?_) (sm b o hb)
    rcases z with z | z
    · cases z; exact nb rfl
    · cases z
  have e1 : EnvOk K ⟨some p, []⟩ ρ σ H1 := by
    refine ⟨e.len, fun j z hz => ?_, fo⟩
    obtain ⟨v, a1, a2⟩ := e.get j z hz
    refine ⟨v, a1, ?_⟩
    cases z with
    | dat d =>
      have a2' : Rep K (hide H f0) d v := a2
      rw [hide_none] at a2'
      exact Rep.mono sm0 d v a2'
    | feed => obtain ⟨q, hq, _⟩ := a2; cases hq
    | own k => obtain ⟨q, hq, _⟩ := a2; cases hq
    | exc C =>
      obtain ⟨q, h3, h4⟩ := a2
      refine ⟨q, h3, sm0 _ _ ?_⟩
      rw [hide_none] at h4
      exact h4
  have gg : ∀ {H' : Hp}, Goes ⟨some p, []⟩ H1 H' → Goes f0 H H' := fun g => goes0 fun b o hb => hide_same _ _ b o (g.sm b o (sm0 b o hb))
  refine hr p _ H1 E (e1.set i (x := .feed) ⟨p, rfl, rfl⟩) (fun ρ' σ' H' g' e' p' => n _ σ' H' (gg g') (feed_out e') p') (fun d v H' g' r' p' => r d v H' (gg g') ?_ p') (fun ρ' σ' H' g' e' p' => b _ σ' H' (gg g') (feed_out e') p') (fun ρ' σ' H' g' e' p' => k _ σ' H' (gg g') (feed_out e') p')
  rw [hide_none]
  exact Rep.mono (hide_same _ _) d v r'
end
end L2
end
section
set_option Elab.async false
set_option linter.all false
set_option maxRecDepth 100000
set_option maxHeartbeats 4000000
namespace L2
open PySem PySem.Spec PyProof.Rows
section
variable {X : Cx} {K : PySem.W.Frag}
/-- // by a divisor below 2 ^ 60 -/
def CDivW (i j : Int) : Prop := 0 < j ∧ j < 1152921504606846976
theorem op_fdivW : OpR X (binaryOp .FloorDiv) (rI CDivW fun i j => .int (i / j)) := opI fun i j _ _ _ _ _ hc q => by
  obtain ⟨h1, h2⟩ := hc
  rw [← Int.fdiv_eq_ediv_of_nonneg i (Int.le_of_lt h1)] at q
  refine floordiv_int (by omega) q (.inl (PyProof.noPylong_of_log2 ?_))
  have h0 : j.natAbs ≠ 0 := by omega
  have : j.natAbs.log2 < 60 := (Nat.log2_lt h0).mpr (by omega)
  omega
theorem sl_listK (hK : X.K = K) : SlR X (rSlL K) := hK ▸ sl_list
theorem sl_tupK (hK : X.K = K) : SlR X (rSlT K) := hK ▸ sl_tup
theorem op_catTK (hK : X.K = K) : OpR X (binaryOp .Add) (rCatT K) := hK ▸ op_catT
end
end L2
end
section
set_option Elab.async false
set_option linter.all false
set_option maxRecDepth 100000
set_option maxHeartbeats 4000000
namespace L2
open PySem PySem.Spec PyProof.Rows
section
variable {K : PySem.W.Frag} {f : Fx} {ρ : DEnv} {wi : TI} {g : TG} {tt : TT} {own : Nat} {fr : List Nat} {tb : Addr → TB} {P : List PyData → Prop}
/-- one new item for each item -/
theorem c_map {α : Type} {A B : α → PyData} (xs : List α) (h : PId K f wi ρ fun ds => ds = xs.map A ∧ xs.length ≤ 1000 ∧
      (∀ D x ρ' es, x ∈ xs → OwnE own (frD fr ρ) ρ' → es.length < 1000 → PGd K (f.with D) g (A x) ρ' fun ρ2 => PTd K (f.with D) tt ρ2 fun b => if b = true then PBd K f D (tb D) ρ2 es fun ρ3 es3 => OwnE own (frD fr ρ) ρ3 ∧ es3 = es ++ [B x] else False) ∧ P (xs.map B)) :
    PEdO K f (tComp wi own fr g tt tb) ρ P :=
  c_comp (h.imp fun ds ⟨ed, hl, hs, hp⟩ => by
    subst ed
    refine ⟨fun i ρ' es => OwnE own (frD fr ρ) ρ' ∧ es = (xs.take i).map B, ⟨⟨List.replicate own none, by simp, rfl⟩, by simp⟩, fun D i d ρ' es hd ⟨ho, he⟩ => ?_, fun ρ' es ⟨_, he⟩ => ?_⟩
    · rw [List.getElem?_map] at hd
      cases eq : xs[i]? with
      | none => rw [eq] at hd; cases hd
      | some x =>
        rw [eq] at hd
        cases hd
        have hi : i < xs.length := (List.getElem?_eq_some_iff.mp eq).1
        have hb : es.length < 1000 := by
          rw [he, List.length_map, List.length_take]
          omega
        intro σ H v Q e r q
        refine hs D x ρ' es (List.mem_of_getElem? eq) ho hb σ H v Q e r fun ρ2 σ2 H2 g2 e2 p2 => q ρ2 σ2 H2 g2 e2 (p2.imp fun b hb2 => ?_)
        cases b with
        | false =>
          rw [if_neg Bool.false_ne_true] at hb2
          exact hb2.elim
        | true =>
          rw [if_pos rfl] at hb2 ⊢
          intro h1 h2 σ3 H3 H4 W c k
          exact hb2 h1 h2 σ3 H3 H4 W c fun ρ5 es5 σ5 H5 c5 ⟨o5, p5⟩ => k ρ5 es5 σ5 H5 c5 ⟨o5, by rw [p5, he, List.take_add_one, eq, List.map_append]; rfl⟩
    · rw [he, List.length_map, List.take_length]
      exact hp)
/-- so many new items, each of a kind -/
theorem c_kind {α : Type} {B : α → PyData} {ok : α → Prop} (n : Nat) (h : PId K f wi ρ fun ds => ds.length = n ∧ n ≤ 1000 ∧
      (∀ D (i : Nat) d ρ' es, ds[i]? = some d → OwnE own (frD fr ρ) ρ' → es.length < 1000 → PGd K (f.with D) g d ρ' fun ρ2 => PTd K (f.with D) tt ρ2 fun b => if b = true then PBd K f D (tb D) ρ2 es fun ρ3 es3 => OwnE own (frD fr ρ) ρ3 ∧ ∃ x, ok x ∧ es3 = es ++ [B x] else False) ∧
      ∀ xs : List α, xs.length = n → (∀ x ∈ xs, ok x) → P (xs.map B)) :
    PEdO K f (tComp wi own fr g tt tb) ρ P :=
  c_comp (h.imp fun ds ⟨ed, hl, hs, hp⟩ => by
    refine ⟨fun i ρ' es => OwnE own (frD fr ρ) ρ' ∧ ∃ xs : List α, xs.length = i ∧ (∀ x ∈ xs, ok x) ∧ es = xs.map B, ⟨⟨List.replicate own none, by simp, rfl⟩, [], rfl, (fun x hx => by cases hx), rfl⟩, fun D i d ρ' es hd ⟨ho, xs, hxl, hxo, he⟩ => ?_, fun ρ' es ⟨_, xs, hxl, hxo, he⟩ => ?_⟩
    · have hi : i < ds.length := (List.getElem?_eq_some_iff.mp hd).1
      have hb : es.length < 1000 := by
        rw [he, List.length_map]
        omega
      intro σ H v Q e r q
      refine hs D i d ρ' es hd ho hb σ H v Q e r fun ρ2 σ2 H2 g2 e2 p2 => q ρ2 σ2 H2 g2 e2 (p2.imp fun b hb2 => ?_)
      cases b with
      | false =>
        rw [if_neg Bool.false_ne_true] at hb2
        exact hb2.elim
      | true =>
        rw [if_pos rfl] at hb2 ⊢
        intro h1 h2 σ3 H3 H4 W c k
        refine hb2 h1 h2 σ3 H3 H4 W c fun ρ5 es5 σ5 H5 c5 ⟨o5, x, hx, p5⟩ => k ρ5 es5 σ5 H5 c5 ⟨o5, xs ++ [x], by rw [List.length_append, hxl]; rfl, fun y hy => ?_, by rw [p5, he, List.map_append]; rfl⟩
        rcases List.mem_append.mp hy with hy | hy
        · exact hxo y hy
        · rw [List.mem_singleton.mp hy]
          exact hx
    · rw [he]
      exact hp xs (by omega) hxo)
end
end L2
end
section
set_option Elab.async false
set_option linter.all false
set_option maxRecDepth 100000
set_option maxHeartbeats 4000000
namespace L2
open PySem PySem.Spec PyProof.Rows
/-! ### exceptions of own classes that leave a def: how one lies behind a call -/
structure XLie (P : Program) (w : World) (outer : List Env) (H : Hp) (s : Shared) (e : Addr) (C : Value) (H' : Hp) (s' : Shared) : Prop where
  os : s'.os = s.os
  bare : AllBare s'.gens
  un : Un (frs outer) [] H H' s.heap s'.heap
  hok : HOk P w H' s'.heap
  fly : ∃ B a0, Heap.FlyingW B outer e C a0 s'.heap ∧ (∀ b o, s.heap.get? b = some o → b ∉ frs outer → ∃ o', B.get? b = some o') ∧ ∀ b o, H' b = some o → ∃ o', B.get? b = some o'
  new : s.heap.get? e = none
  free : H' e = none
def CXe (P : Program) (w : World) : CXT := fun outer H s E e s' => ∃ a C H', e = .ref a ∧ XLie P w outer H s a C H' s' ∧ E C none H'
section
variable {P : Program} {w : World} {H H' : Hp} {h h' : Heap}
theorem ObjOk.is {a : Addr} {o : HO} (x : ObjOk P w H h a o) : ∃ u, h.get? a = some u := by
  induction o with
  | lst xs => obtain ⟨_, _, _, _, e⟩ := x; exact ⟨_, e⟩
  | tup xs => obtain ⟨_, _, _, ob, e, _⟩ := x; exact ⟨_, e⟩
  | dK kvs => obtain ⟨_, _, _, _, o, _, _, e, _⟩ := x; exact ⟨_, e⟩
  | dT kvs => obtain ⟨_, _, _, _, o, _, _, e, _⟩ := x; exact ⟨_, e⟩
  | set S n => obtain ⟨o, _, _, _, e, _⟩ := x; exact ⟨_, e⟩
  | ins C dx fs => obtain ⟨_, _, _, e, _⟩ := x; exact ⟨_, e⟩
  | own y => exact x
  | xd fs => obtain ⟨_, ⟨o, _, _, e, _⟩, _⟩ := x; exact ⟨_, e⟩
  | rng lo hi => obtain ⟨_, _, _, e⟩ := x; exact ⟨_, e⟩
  | frz ob u ih => exact ⟨_, x.1⟩
  | tbl ps => exact ⟨_, x⟩
  | met f y => exact ⟨_, x⟩
  | ext φ => exact x.2.1
theorem HOk.stays (x : HOk P w H h) (k : ∀ b o u, H b = some o → h.get? b = some u → h'.get? b = some u) : HOk P w H h' := fun a o e =>
  (x a o e).stay (fun b u hb q => by
    rcases hb with rfl | hb
    · exact k b o u e q
    · exact k b _ u hb q) (fun _ q => q) fun _ _ q => q
end
section
variable {X : Cx} {pins : List (Addr × Obj)} {σ : St} {H H' : Hp} {s s' : Shared} {a : Addr} {C : Value} {outer : List Env}
theorem Inv.old_ne (I : Inv X pins σ H s) (hst : X.stack = X.env :: X.outer) (hf : X.env.frame = some X.env.locals) {b : Addr} {o : Obj} (q : X.s₀.heap.get? b = some o) (hb : b ∉ frs X.outer) : b ∉ frs X.stack := fun z => by
  rw [hst] at z
  unfold frs at z
  rw [List.filterMap_cons, hf] at z
  rcases List.mem_cons.mp z with z | z
  · have h1 : b < X.s₀.heap.objs.size := Heap.lt_size q
    rw [z] at h1
    exact absurd h1 (Nat.not_lt.mpr I.ok.above)
  · exact hb z
/-- it goes on out of this frame -/
theorem leave_on {E : Value → Shared → Prop} (I : Inv X pins σ H s) (hst : X.stack = X.env :: X.outer) (hf : X.env.frame = some X.env.locals) (hex : X.ex = []) (x : XLie X.prog X.w X.stack H s a C H' s') :
    wpAny (model X.prog X.w) X.A (leaving X.env (.ref a)) (fun _ s'' => XLie X.prog X.w X.outer X.H₀ X.s₀ a C H' s'') E s' := by
  obtain ⟨B, a0, fl, dom, trk⟩ := x.fly
  have J : Inv X pins σ H' s' := I.call' x.os x.un x.hok x.bare (fun b z => absurd z (by simp))
  have hfl := fl
  rw [hst] at hfl
  refine wpAny_leaves_onW (by rw [I.ok.frames, hst]) hf hfl fun h' fl' up => ?_
  have inB : ∀ b o, X.s₀.heap.get? b = some o → b ∉ frs X.outer → ∃ o', B.get? b = some o' := fun b o q hb => by
    obtain ⟨o1, q1⟩ := I.base.there b o q (by rw [hex]; simp)
    exact dom b o1 q1 (I.old_ne hst hf q hb)
  have eqB : ∀ b o o', B.get? b = some o' → s'.heap.get? b = some o → h'.get? b = some o := fun b o o' hb q => by
    have := fl.1 b o' hb
    rw [q] at this
    cases this
    exact fl'.1 b o hb
  have noF : ∀ b o, b ∈ frs X.outer → s'.heap.get? b = some o → ∀ vs, o.data ≠ .fields vs := fun b o hb q => by
    obtain ⟨_, o1, q1, hd⟩ := J.stack.mem (b := b) (by
      show b ∈ frs X.stack
      rw [hst]
      unfold frs
      rw [List.filterMap_cons, hf]
      exact List.mem_cons_of_mem _ hb)
    rw [q] at q1
    cases q1
    exact hd
  have ex0 : ∀ b : Addr, b ∉ X.ex := fun b => by rw [hex]; simp
  refine ⟨x.os.trans I.os, x.bare, ⟨fun b o q n hb _ => ?_, fun b o q n hb _ => ?_, fun b o q n _ => J.base.free b o q n (ex0 b), fun b o q _ => ?_, J.base.tups, J.base.frzs, J.base.tbls⟩, ?_, ⟨B, a0, fl', inB, trk⟩, ?_, x.free⟩
  · obtain ⟨o', hB⟩ := inB b o q hb
    exact eqB b o o' hB (J.base.keep b o q n hb (ex0 b))
  · obtain ⟨sl, q1⟩ := J.base.slot b o q n hb (ex0 b)
    obtain ⟨sl', q2⟩ := up b _ q1 (noF b _ hb q1)
    exact ⟨sl', q2⟩
  · obtain ⟨o1, q1⟩ := J.base.there b o q (ex0 b)
    by_cases hb : b ∈ frs X.outer
    · obtain ⟨sl', q2⟩ := up b _ q1 (noF b _ hb q1)
      exact ⟨_, q2⟩
    · obtain ⟨o', hB⟩ := inB b o q hb
      exact ⟨_, fl'.1 b o' hB⟩
  · refine HOk.stays x.hok fun b o u e q => ?_
    obtain ⟨o', hB⟩ := trk b o e
    exact eqB b u o' hB q
  · cases q : X.s₀.heap.get? a with
    | none => rfl
    | some o =>
      obtain ⟨o1, q1⟩ := I.base.there a o q (ex0 a)
      rw [x.new] at q1
      cases q1
/-- a new one leaves the frame that made it -/
theorem leave_new {E : Value → Shared → Prop} {h1 : Heap} {args : List Value} (I : Inv X pins σ H s) (hst : X.stack = X.env :: X.outer) (hf : X.env.frame = some X.env.locals) (hex : X.ex = []) (hx : Heap.MadeExcOf s.heap h1 a C args) :
    wpAny (model X.prog X.w) X.A (leaving X.env (.ref a)) (fun _ s'' => XLie X.prog X.w X.outer X.H₀ X.s₀ a C H s'') E { s with heap := h1 } := by
  have ex0 : ∀ b : Addr, b ∉ X.ex := fun b => by rw [hex]; simp
  have hsub : ∀ env ∈ X.env :: X.outer, ∀ b, env.frame = some b → b ∈ frs X.stack := fun env he b hb => by
    rw [hst]
    exact List.mem_filterMap.mpr ⟨env, he, hb⟩
  have ff := I.stack
  rw [hst] at ff
  have st : (PySem.W.hideAll s.heap (frs X.stack)).StaysIn s.heap := fun b o hb => PySem.W.of_hideAll _ hb
  refine wpAny_leaves_madeW (base := PySem.W.hideAll s.heap (frs X.stack)) (h := s.heap) (by rw [I.ok.frames, hst]) hf st (PySem.W.funFrames_hide ff hsub) hx fun h' t fl tup tn up => ?_
  have kp : ∀ b o, s.heap.get? b = some o → b ∉ frs X.stack → h'.get? b = some o := fun b o q hb => fl.1 b o (PySem.W.hideAll_get _ q hb)
  have noF : ∀ b o, b ∈ frs X.outer → s.heap.get? b = some o → ∀ vs, o.data ≠ .fields vs := fun b o hb q => by
    obtain ⟨_, o1, q1, hd⟩ := I.stack.mem (b := b) (by
      show b ∈ frs X.stack
      rw [hst]
      unfold frs
      rw [List.filterMap_cons, hf]
      exact List.mem_cons_of_mem _ hb)
    rw [q] at q1
    cases q1
    exact hd
  have slots : ∀ b o, b ∈ frs X.outer → s.heap.get? b = some o → ∃ sl, h'.get? b = some { o with slots := sl } := fun b o hb q => up b o (hx.keeps b o q) (noF b o hb q)
  have inB : ∀ b o, X.s₀.heap.get? b = some o → b ∉ frs X.outer → ∃ o', (PySem.W.hideAll s.heap (frs X.stack)).get? b = some o' := fun b o q hb => by
    obtain ⟨o1, q1⟩ := I.base.there b o q (ex0 b)
    exact ⟨o1, PySem.W.hideAll_get _ q1 (I.old_ne hst hf q hb)⟩
  have trk : ∀ b o, H b = some o → ∃ u, s.heap.get? b = some u ∧ b ∉ frs X.stack := fun b o e => by
    have hn : b ∉ frs X.stack := fun z => by rw [I.stkFree b z] at e; cases e
    obtain ⟨u, q⟩ := (I.hok b o e).is
    exact ⟨u, q, hn⟩
  refine ⟨I.os, I.bare, ⟨fun b o q n hb _ => kp b o (I.base.keep b o q n hb (ex0 b)) (I.old_ne hst hf q hb), fun b o q n hb _ => ?_, fun b o q n _ => I.base.free b o q n (ex0 b), fun b o q _ => ?_, I.base.tups, I.base.frzs, I.base.tbls⟩, ?_, ⟨_, _, fl, inB, fun b o e => ?_⟩, ?_, ?_⟩
  · obtain ⟨sl, q1⟩ := I.base.slot b o q n hb (ex0 b)
    obtain ⟨sl', q2⟩ := slots b _ hb q1
    exact ⟨sl', q2⟩
  · obtain ⟨o1, q1⟩ := I.base.there b o q (ex0 b)
    by_cases hb : b ∈ frs X.outer
    · obtain ⟨sl', q2⟩ := slots b _ hb q1
      exact ⟨_, q2⟩
    · exact ⟨_, kp b o1 q1 (I.old_ne hst hf q hb)⟩
  · refine HOk.stays I.hok fun b o u e q => kp b u q ?_
    obtain ⟨_, _, hn⟩ := trk b o e
    exact hn
  · obtain ⟨u, q, hn⟩ := trk b o e
    exact ⟨u, PySem.W.hideAll_get _ q hn⟩
  · cases q : X.s₀.heap.get? a with
    | none => rfl
    | some o =>
      obtain ⟨o1, q1⟩ := I.base.there a o q (ex0 a)
      rw [hx.new] at q1
      cases q1
  · cases q : H a with
    | none => rfl
    | some o =>
      obtain ⟨u, q1, _⟩ := trk a o q
      rw [hx.new] at q1
      cases q1
end
end L2
end
section
set_option Elab.async false
set_option linter.all false
set_option maxRecDepth 100000
set_option maxHeartbeats 4000000
namespace L2
open PySem PySem.Spec PyProof.Rows
/-- an own class of exceptions, without a making of its own -/
theorem own_cls {K : PySem.W.Frag} {h : Heap} {mg : Str → Option Value} {x : Str} {C : Addr} {bmB : List Value} {newId : String} (Y : K.In h) (hm : mg x = some (.ref C)) (he : PySem.W.excIn K C bmB newId = true) : OwnCls x C bmB newId mg h := by
  refine ⟨hm, ?_⟩
  unfold PySem.W.excIn at he
  split at he
  case h_2 => cases he
  case h_1 dd cd sl lk =>
    split at he
    case h_2 => cases he
    case h_1 D bm a0 a1 a2 a3 nn a5 hmro hsl =>
      simp only [Bool.and_eq_true, beq_iff_eq, Bool.not_eq_true'] at he
      obtain ⟨⟨⟨⟨⟨e1, e2⟩, e3⟩, e4⟩, e5⟩, e6⟩ := he
      have eo : (Obj.mk (.type "type") dd (.cls cd) sl) = excClassObj cd.name cd.qualname C cd.ns cd.bases bm cd.hasDict cd.slotNames cd.subclasses cd.abstract cd.collection dd a0 a1 a2 a3 a5 newId := by
        have s1 : sl = #[a0, a1, a2, a3, some (.builtin nn), a5] := by
          cases sl with
          | mk l => exact congrArg Array.mk hsl
        rw [s1, e2]
        cases cd
        simp only at hmro e3
        rw [hmro, e1, e3]
      exact ⟨bm, cd.ns, _, _, _, _, _, _, _, _, _, _, _, _, _, _, _, (Y _ _ lk).trans (congrArg some eo), .of_isNs (PySem.W.isNs_of_in Y e5), PySem.W.nsMap_none_of_in Y e5 e6, PySem.W.tail_of_in Y e4⟩
/-- raise C(..): the wish about exceptions is asked of the class -/
def tRaise (C : Value) (E : XK) (t : TA) : TS := fun _ σ H => t σ H fun vs H1 => vs.length ≤ 1000 ∧ E C none H1
theorem ps_raiseX {X : Cx} {x : Str} {C : Addr} {B newId initId : String} {bmB : List Value} {e0 : Expr} {es : List Expr} {t : TA} {np cpos pos : Pos} {E : XK}
    (hxe : ∀ e s', wpAny (model X.prog X.w) X.A (leaving X.env e) (fun _ s'' => CXe X.prog X.w X.outer X.H₀ X.s₀ E e s'') (fun _ _ => False) s' → X.xe e s')
    (hst : X.stack = X.env :: X.outer) (hf : X.env.frame = some X.env.locals) (hex : X.ex = []) (hc : X.calm = true) (hg : Gl X x) (hm : X.mg x = some (.ref C)) (he : PySem.W.excIn X.K C bmB newId = true) (FB : ExcBaseFacts B newId initId bmB)
    (ha : PA X (e0 :: es) t) (hse : starEach (e0 :: es) X.env = (false, eval e0 X.env) :: starEach es X.env := by rfl) (hpl : (backTo cpos (starEach es X.env)).any (·.1) = false := by rfl) (hd : (x == ("__debug__" : Str)) = false := by decide) :
    PS X (.Raise (some (.Call (.Name x np) (e0 :: es) [] cpos)) none pos) (tRaise (.ref C) E t) := by
  intro pins s σ H D I h
  obtain ⟨tl, N, nm, q, bs, hdct, sn, sub, ab, col, dd, k0, k1, k2, k3, k5, mN, hC, hN, hni, T⟩ := (own_cls I.ok.mod.kin hm he).obj
  have hplain : (backTo cpos (starEach (e0 :: es) X.env)).any (·.1) = false := by
    rw [hse]
    show (false || (backTo cpos (starEach es X.env)).any (·.1)) = false
    rw [hpl]
    rfl
  refine wpAny_Raise_call_subT (C := C) (bm := tl) (N := N) (nm := nm) (q := q) (bs := bs) (hdct := hdct) (sn := sn) (sub := sub) (ab := ab) (col := col) (dd := dd) (k0 := k0) (k1 := k1) (k2 := k2) (k3 := k3) (k5 := k5) (mN := mN) FB (T.hasType FB.hasBase) (I.ok.hd hc) hplain hni (ld_glob I hg hm ⟨rfl, ?_⟩ hd)
  have h0 := ha cpos pins s σ H _ I h
  rw [hse] at h0 ⊢
  refine Calls.evalArgs_plain (wpAny_mono h0 (fun us s1 hq => ?_) fun _ _ z => z)
  obtain ⟨vs, H1, I1, r1, hl, hE⟩ := hq
  refine ⟨rfl, by rw [← r1.length]; exact Nat.le_of_lt (small1000 hl), I1.bk _ _ hC, hN.keeps I1.bk, T.keeps I1.bk, fun h' e hx => ?_⟩
  refine hxe _ _ ?_
  exact wpAny_mono (leave_new (E := fun _ _ => False) I1 hst hf hex hx) (fun _ s'' y => ⟨e, _, H1, rfl, y, hE⟩) fun _ _ z => z
theorem passX {P : Program} {w : World} {K : PySem.W.Frag} {mg : Str → Option Value} {base : Heap} {N : List Str} {qual : Str} {scope : Scope} {f : Addr} {cd : Value} {A : Around} {outer : List Env} {s : Shared} {H : Hp} {E : XK} :
    Passes (CXe P w) (cxOf (CXe P w) P w K mg base N qual scope f cd A outer s H E) E := fun pins σ H1 s1 e s' I h => by
  obtain ⟨a, C, H', rfl, x, hE⟩ := h
  exact wpAny_mono (leave_on (X := cxOf (CXe P w) P w K mg base N qual scope f cd A outer s H E) (E := fun _ _ => False) I rfl rfl rfl x) (fun _ s'' y => ⟨a, C, H', rfl, y, hE⟩) fun _ _ z => z.elim
theorem raise_xe {P : Program} {w : World} {K : PySem.W.Frag} {mg : Str → Option Value} {base : Heap} {N : List Str} {qual : Str} {scope : Scope} {f : Addr} {cd : Value} {A : Around} {outer : List Env} {s : Shared} {H : Hp} {E : XK} :
    ∀ e s', wpAny (model P w) (cxOf (CXe P w) P w K mg base N qual scope f cd A outer s H E).A (leaving (cxOf (CXe P w) P w K mg base N qual scope f cd A outer s H E).env e) (fun _ s'' => CXe P w outer H s E e s'') (fun _ _ => False) s' →
      (cxOf (CXe P w) P w K mg base N qual scope f cd A outer s H E).xe e s' := fun e s' h => wpAny_mono h (fun _ _ y => y) fun _ _ z => z.elim
theorem Fun.okX {P : Program} {w : World} {K : PySem.W.Frag} {mg : Str → Option Value} {base : Heap} {x qual : Str} {st : Stmt} {f : Addr} {fd : FuncData} {N ps : List Str} {k : Nat} {sp : Sp} (F : Fun K x qual st f fd) (S : FnScope N ps (defScope st)) (len : ∀ vs H Q E, sp vs H Q E → vs.length = ps.length)
    (hbody : ∀ (cdv : Value) (A : Around) (outer : List Env) (s : Shared) (H : Hp) (vs : List V) (Q : VK) (E : XK), Room k (A.deeper (envOfC qual (defScope st) s.heap.objs.size f cdv)) → sp vs H Q E →
      ∃ t, PSs (cxOf (CXe P w) P w K mg base N qual (defScope st) f cdv A outer s H E) (defBody st) t ∧ t { nx := fun _ H' => Q .non H', rt := Q } (start N vs) H) : FnOk P w K mg base (CXe P w) (k + 1) f fd ps sp := by
  obtain ⟨oc, od, kV, doc, pm, an, cdv, ct, osl, rfl, lk, hcd⟩ := F.ex
  exact fn_of lk hcd S len fun A outer s H vs Q E hr hsp => hbody cdv A outer s H vs Q E hr hsp
end L2
end
section
set_option Elab.async false
set_option linter.all false
set_option maxRecDepth 100000
set_option maxHeartbeats 4000000
namespace L2
open PySem PySem.Spec PyProof.Rows
section
variable {X : Cx} {pins : List (Addr × Obj)} {σ : St} {H H' H1 H2 : Hp} {s s' s1 s2 : Shared} {a : Addr} {C : Value} {i j : Nat}
/-- a local name's end -/
theorem del_ok {M : Model} {A : Around} {E : Value → Shared → Prop} {x : Str} {v : V} {Q : Unit → Shared → Prop} (I : Inv X pins σ H s) (hN : X.N.Nodup) (hi : X.N[i]? = some x) (hk : X.env.scope.names.lookup x = some .local) (hv : σ[i]? = some (some v))
    (h : ∀ s', Inv X pins (σ.set i none) H s' → Q () s') : wpAny M A (unbindName X.env x) Q E s := by
  obtain ⟨m, hn, hl⟩ := id I.loc
  obtain ⟨u, r, lk⟩ := hl i x v hi hv (.inl hk)
  have hm : m x = some u := by
    rcases lk with ⟨_, e⟩ | ⟨z, _⟩
    · exact e
    · rcases z with z | z
      · have z' : X.env.scope.names.lookup x = some .cell := z
        rw [hk] at z'; cases z'
      · have z' : X.env.scope.names.lookup x = some .free := z
        rw [hk] at z'; cases z'
  have plain : (X.env.scope.kind == .class
      || (X.env.scope.kind == .module
        && X.env.locals != X.env.globals)) = false := by
    rw [I.ok.kind]
    rfl
  have cne := I.cne
  refine wpAny_unbindName_local hk hn hm plain fun h' w hn' hs => ?_
  have old : ∀ {b : Addr} {o : Obj}, X.s₀.heap.get? b = some o → b ≠ X.env.locals := fun {b o} e => Nat.ne_of_lt (Nat.lt_of_lt_of_le (Heap.lt_size e) I.ok.above)
  refine h _ ⟨I.ok, I.os, I.bare, ⟨fun b o e n hb hx => (hs.2 b (old e)).trans (I.base.keep b o e n hb hx), fun b o e n hb hx => ?_, I.base.free, fun b o e hx => ?_, I.base.tups, I.base.frzs, I.base.tbls⟩, ⟨_, hn', fun q y v' e1 e2 e3 => ?_⟩, fun y c e => ?_, I.free, I.freeC, fun p hp => ?_, ?_, by rw [List.length_set]; exact I.len⟩
  · obtain ⟨sl, e1⟩ := I.base.slot b o e n hb hx
    exact ⟨sl, (hs.2 b (old e)).trans e1⟩
  · obtain ⟨o', e1⟩ := I.base.there b o e hx
    exact ⟨o', (hs.2 b (old e)).trans e1⟩
  · by_cases hj : q = i
    · subst hj
      rw [List.getElem?_set] at e2
      rw [if_pos rfl] at e2
      split at e2 <;> cases e2
    · rw [List.getElem?_set_ne (Ne.symm hj)] at e2
      obtain ⟨u', r', z⟩ := hl q y v' e1 e2 e3
      refine ⟨u', r', ?_⟩
      rcases z with ⟨k, e⟩ | ⟨k, c, e, z⟩
      · refine .inl ⟨k, ?_⟩
        have : y ≠ x := fun e => hj (nodup_ix hN e1 (e ▸ hi))
        show (if y = x then w else m y) = some u'
        rw [if_neg this]
        exact e
      · exact .inr ⟨k, c, e, z.sameBut hs (cne y c e)⟩
  · obtain ⟨w', z⟩ := I.cell y c e
    exact ⟨w', z.sameBut hs (cne y c e)⟩
  · obtain ⟨e, n, ne, nf, d⟩ := I.pin p hp
    exact ⟨(hs.2 p.1 ne).trans e, n, ne, nf, d⟩
  · refine HOk.stays I.hok fun b o u e q => (hs.2 b ?_).trans q
    rintro rfl
    rw [I.free] at e
    cases e
/-- within an except suite -/
def Cx.marked (X : Cx) (e : Value) : Cx := { X with A := X.A.mark (some e), calm := false, xe := fun _ _ => False }
theorem Cx.Ok.marked (ok : X.Ok) (e : Value) : (X.marked e).Ok :=
  ⟨ok.mod, ok.kind, ok.glob, ok.blt, ok.above, ok.inj, ok.has, ok.cab, (fun z => by cases z), ok.frames, ok.stk, ok.exf, ok.bs, ok.bsz, ok.noex, ok.exfs, ok.funs, ok.frf⟩
theorem Inv.marked (I : Inv X pins σ H s) (e : Value) : Inv (X.marked e) pins σ H s := ⟨I.ok.marked e, I.os, I.bare, I.base, I.loc, I.cell, I.free, I.freeC, I.pin, I.hok, I.len⟩
theorem Inv.unmarked {e : Value} (ok : X.Ok) (I : Inv (X.marked e) pins σ H s) : Inv X pins σ H s := ⟨ok, I.os, I.bare, I.base, I.loc, I.cell, I.free, I.freeC, I.pin, I.hok, I.len⟩
/-- it lies there still, when its records have turned -/
theorem XLie.move {P : Program} {w : World} {outer : List Env} {B : Heap} {a0 : Value} {h'' : Heap} (x : XLie P w outer H s a C H' s') (fl : Heap.FlyingW B outer a C a0 s'.heap) (dom : ∀ b o, s.heap.get? b = some o → b ∉ frs outer → ∃ o', B.get? b = some o')
    (trk : ∀ b o, H' b = some o → ∃ o', B.get? b = some o') (st : B.StaysIn h'') (up : s'.heap.UpToSlots h'') : Un (frs outer) [] H H' s.heap h'' ∧ HOk P w H' h'' := by
  have eqB : ∀ b o o', B.get? b = some o' → s'.heap.get? b = some o → h''.get? b = some o := fun b o o' hb q => by
    have := fl.1 b o' hb
    rw [q] at this
    cases this
    exact st b o hb
  have noF : ∀ b o, b ∈ frs outer → s'.heap.get? b = some o → ∀ vs, o.data ≠ .fields vs := fun b o hb q => by
    obtain ⟨_, o1, q1, hd⟩ := fl.2.2.1.mem hb
    rw [q] at q1
    cases q1
    exact hd
  refine ⟨⟨fun b o q n hb z => ?_, fun b o q n hb z => ?_, x.un.free, fun b o q z => ?_, x.un.tups, x.un.frzs, x.un.tbls⟩, HOk.stays x.hok fun b o u e q => ?_⟩
  · obtain ⟨o', hB⟩ := dom b o q hb
    exact eqB b o o' hB (x.un.keep b o q n hb z)
  · obtain ⟨sl, q1⟩ := x.un.slot b o q n hb z
    obtain ⟨sl', q2⟩ := up b _ q1 (noF b _ hb q1)
    exact ⟨sl', q2⟩
  · by_cases hb : b ∈ frs outer
    · obtain ⟨o1, q1⟩ := x.un.there b o q z
      obtain ⟨sl', q2⟩ := up b _ q1 (noF b _ hb q1)
      exact ⟨_, q2⟩
    · obtain ⟨o', hB⟩ := dom b o q hb
      exact ⟨_, st b o' hB⟩
  · obtain ⟨o', hB⟩ := trk b o e
    exact eqB b u o' hB q
def ExcOf (a : Addr) (C : Value) : Heap → Prop := fun h => ∃ o, h.get? a = some o ∧ o.cls = C
end
end L2
end
section
set_option Elab.async false
set_option linter.all false
set_option maxRecDepth 100000
set_option maxHeartbeats 4000000
namespace L2
open PySem PySem.Spec PyProof.Rows
def endsTry (D : Ends) (j : Nat) : Ends where
  nx := fun σ H => D.nx (σ.set j none) H
  rt := D.rt
  bk := fun σ H => D.bk (σ.set j none) H
  ct := fun σ H => D.ct (σ.set j none) H
section
variable {X : Cx} {pins : List (Addr × Obj)} {σ : St} {H H1 H2 : Hp} {s s1 s2 : Shared} {a C0 : Addr} {C : Value} {i j : Nat} {n hx : Str} {b0 : Stmt} {suite : List Stmt} {hp hpos : Pos} {ts : TS} {D : Ends}
/-- name = None, then the name's end -/
theorem end_as {M : Model} {A : Around} {E : Value → Shared → Prop} {Q : Unit → Shared → Prop} (I : Inv X pins σ H s) (hN : X.N.Nodup) (hj : X.N[j]? = some n) (hn : X.env.scope.names.lookup n = some .local) (h : ∀ s', Inv X pins (σ.set j none) H s' → Q () s') :
    wpAny M A (do bindName X.env n .none; unbindBehindTheSuite X.env n hpos) Q E s := by
  refine wpAny_bind (wpAny_bindName (store_ok (v := .non) I hN hj (.inl hn) rfl (fun s' I' => ?_) (.inr hn)))
  unfold unbindBehindTheSuite
  refine wpAny_onRaise (del_ok (v := .non) I' hN hj hn ?_ fun s'' I'' => ?_)
  · have : j < σ.length := by rw [I.len]; exact (List.getElem?_eq_some_iff.mp hj).1
    rw [List.getElem?_set_self this]
  · rw [List.set_set] at I''
    exact h s'' I''
theorem land (I : Inv X pins σ H1 s1) (x : XLie X.prog X.w X.stack H1 s1 a C H2 s2) (hst : X.stack = X.env :: X.outer) (hf : X.env.frame = some X.env.locals) (hN : X.N.Nodup) (hj : X.N[j]? = some n) (hn : X.env.scope.names.lookup n = some .local)
    (hg : Gl X hx) (hm : X.mg hx = some (.ref C0)) (hit : PySem.W.exmOne X.K C (.ref C0) = some true) (hs : PSs (X.marked (.ref a)) (b0 :: suite) ts) (h : ts (endsTry D j) (σ.set j (some (.ref a))) (upd H2 a (.ext (ExcOf a C))))
    (hd : (hx == ("__debug__" : Str)) = false := by decide) :
    wpAny (model X.prog X.w) X.A (noteFrame (.ref a) X.env) (fun _ t2 => wpAny (model X.prog X.w) X.A (setFlight (.ref a) none) (fun _ t3 =>
      wpAny (model X.prog X.w) X.A (handleBy (.ref a) X.env [.ExceptHandler (some (.Name hx hp)) (some n) (b0 :: suite) hpos]) (SP X pins D) X.xe t3) X.xe t2) X.xe s2 := by
  obtain ⟨B, a0, fl, dom, trk⟩ := x.fly
  have fl0 := fl
  rw [hst] at fl0
  refine wpAny_looks_onW (by rw [I.ok.frames, hst]) hf fl0 fun h4 held up4 => ?_
  refine wpAny_landsW held fun h5 fl5 up5 => ?_
  have inv : ∀ {hh : Heap}, B.StaysIn hh → s2.heap.UpToSlots hh → Inv X pins σ H2 { s2 with heap := hh } := fun {hh} st up => by
    obtain ⟨un, ok⟩ := x.move fl dom trk st up
    exact I.call' (s' := { s2 with heap := hh }) x.os un ok x.bare (fun b z => absurd z (by simp))
  have I5 := inv fl5.1 (up4.trans up5)
  have M5 := I5.marked (.ref a)
  refine wpAny_handleBy_cons (codeAny_handlers_test (ld_glob (X := X.marked (.ref a)) M5 hg hm ?_ hd)) (by intro q; cases q)
  obtain ⟨ob, hob, hoc⟩ := fl5.there
  have LT : PySem.W.Looks (model X.prog X.w) h5 (typeOf (.ref a)) C := by
    subst hoc
    exact (PySem.W.Looks.ld hob).andThen .now
  refine (PySem.W.exm_one I5.kIn LT hit).at ?_
  refine codeAny_handlers_suite_as ?_
  refine lands_againW fl5 fun h6 fl6 up6 => ?_
  have I6 := inv fl6.1 ((up4.trans up5).trans up6)
  obtain ⟨ob6, hob6, hoc6⟩ := fl6.there
  have fr6 : H2 a = none := x.free
  have I7 : Inv X pins σ (upd H2 a (.ext (ExcOf a C))) { s2 with heap := h6 } := by
    obtain ⟨un, ok⟩ := x.move fl dom trk fl6.1 ((up4.trans up5).trans up6)
    have ne : ∀ {b : Addr} {o : HO}, H2 b = some o → b ≠ a := fun {b o} e z => by
      rw [z, fr6] at e
      cases e
    refine I.call' (s' := { s2 with heap := h6 }) x.os ⟨un.keep, un.slot, fun b o q m z => ?_, un.there, fun b xs q => ?_, fun b o u q => ?_, fun b ps q => ?_⟩ (fun b o e => ?_) x.bare (fun b z => absurd z (by simp))
    · have hb : b ≠ a := fun e => by
        rw [e, x.new] at q
        cases q
      rw [upd_ne hb]
      exact un.free b o q m z
    · have q2 := un.tups b xs q
      rw [upd_ne (ne q2)]
      exact q2
    · have q2 := un.frzs b o u q
      rw [upd_ne (ne q2)]
      exact q2
    · obtain ⟨more, q2⟩ := un.tbls b ps q
      exact ⟨more, by rw [upd_ne (ne q2)]; exact q2⟩
    · by_cases hb : b = a
      · subst hb
        rw [upd_same] at e
        cases e
        refine ⟨⟨ob6, hob6, hoc6⟩, ⟨ob6, hob6⟩, fun g1 g2 hφ k => ?_⟩
        obtain ⟨o, q1, q2⟩ := hφ
        exact ⟨o, k o q1, q2⟩
      · rw [upd_ne hb] at e
        exact (ok b o e).stay (fun c v _ q => q) (fun c q => by rw [upd_ne (ne q)]; exact q) fun c xs q => by rw [upd_ne (ne q)]; exact q
  refine store_ok (X := X.marked (.ref a)) (v := .ref a) (I7.marked _) hN hj (.inl hn) rfl (fun s8 I8 => ?_) (.inr hn)
  refine wpAny_mono (hs pins s8 _ _ (endsTry D j) I8 h) (fun f s9 q => ?_) fun _ _ z => z.elim
  show wpAny (model X.prog X.w) X.A (do bindName X.env n .none; unbindBehindTheSuite X.env n hpos) (fun _ t => SP X pins D f t) X.xe s9
  cases f with
  | next =>
    obtain ⟨σ', H', I9, q9⟩ := q
    exact end_as (I9.unmarked I.ok) hN hj hn fun s' I' => ⟨_, H', I', q9⟩
  | brk =>
    obtain ⟨σ', H', I9, q9⟩ := q
    exact end_as (I9.unmarked I.ok) hN hj hn fun s' I' => ⟨_, H', I', q9⟩
  | cont =>
    obtain ⟨σ', H', I9, q9⟩ := q
    exact end_as (I9.unmarked I.ok) hN hj hn fun s' I' => ⟨_, H', I', q9⟩
  | ret u =>
    obtain ⟨v, σ', H', I9, r9, q9⟩ := q
    exact end_as (I9.unmarked I.ok) hN hj hn fun s' I' => ⟨v, _, H', I', r9, q9⟩
/-- try: y = f(..) except H as n: .. -/
def tTry (K : PySem.W.Frag) (C0 : Addr) (sp : Sp) (t : TA) (i j : Nat) (ts : Addr → TS) : TS := fun D σ H => t σ H fun vs H1 => sp vs H1 (fun v H2 => D.nx (σ.set i (some v)) H2)
  fun C _ H2 => PySem.W.exmOne K C (.ref C0) = some true ∧ ∀ a, H2 a = none → ts a (endsTry D j) (σ.set j (some (.ref a))) (upd H2 a (.ext (ExcOf a C)))
theorem ps_try {k : Nat} {f : Addr} {fd : FuncData} {ps : List Str} {sp : Sp} {t : TA} {fx y : Str} {e0 : Expr} {es : List Expr} {p py cpos spos pos : Pos} {tss : Addr → TS} (F : FnOk X.prog X.w X.K X.mg X.base (CXe X.prog X.w) k f fd ps sp) (hr : Room k X.A) (hgf : Gl X fx) (hmf : X.mg fx = some (.ref f)) (hk : PySem.W.keepIn X.K (.ref f) = true) (hb : Binds X.K fd ps [])
    (ha : PA X.nox (e0 :: es) t) (hN : X.N.Nodup) (hi : X.N[i]? = some y) (hy : Loc X.env.scope y) (hfy : X.fn y = true ∨ X.env.scope.names.lookup y = some .local) (hst : X.stack = X.env :: X.outer) (hf : X.env.frame = some X.env.locals) (hj : X.N[j]? = some n) (hn : X.env.scope.names.lookup n = some .local)
    (hg : Gl X hx) (hm : X.mg hx = some (.ref C0)) (hs : ∀ a, PSs (X.marked (.ref a)) (b0 :: suite) (tss a))
    (hd : (hx == ("__debug__" : Str)) = false := by decide) (hdf : (fx == ("__debug__" : Str)) = false := by decide) (he : starEach (e0 :: es) X.env = (false, eval e0 X.env) :: starEach es X.env := by rfl) (hpl : (backTo cpos (starEach es X.env)).any (·.1) = false := by rfl)
    (hsw : swapsWith (.Call (.Name fx p) (e0 :: es) [] cpos) (some (.Name y py)) spos.line X.env = pure false := by rfl) :
    PS X (.Try [.Assign [.Name y py] (.Call (.Name fx p) (e0 :: es) [] cpos) spos] [.ExceptHandler (some (.Name hx hp)) (some n) (b0 :: suite) hpos] [] [] pos) (tTry X.K C0 sp t i j tss) := by
  intro pins s σ H D I h
  refine wpAny_Try_except (wpAny_execs_cons (wpAny_Assign_Name ?_ hsw))
  refine wpAny_Call_Name_kw (ld_glob I hgf hmf ?_ hdf)
  refine PySem.W.callWith_K (h₀ := X.base) I.ok.mod.kin hk (wpAny_mono (ha cpos pins s σ H _ (I.wish _) h) (fun us s1 q => ?_) fun _ _ z => z.elim) he hpl
  obtain ⟨vs, H1, I1', r, q⟩ := q
  have I1 : Inv X pins σ H1 s1 := I1'.unwish
  refine ⟨I1.kIn, ?_⟩
  have hl : us.length = ps.length := by rw [← r.length]; exact F.len _ _ _ _ q
  have hb2 := hb s1 us I1.kIn (by rw [List.append_nil]; exact hl)
  rw [List.append_nil] at hb2
  refine wpAny_call (codeAny_mono (F.run X.A X.stack s1 H1 ⟨us, []⟩ us vs _ _ hr I1.env0 hb2 r q) fun res s' hq => ?_)
  cases res with
  | error e =>
    obtain ⟨a, C, H2, rfl, x, hit, hts⟩ := hq
    exact land (ts := tss a) I1 x hst hf hN hj hn hg hm hit (hs a) (hts a x.free) hd
  | ok fl =>
    cases fl with
    | ret u =>
      obtain ⟨v, H2, I2, r2, q2⟩ := I1.after hq
      exact store_ok I2 hN hi hy r2 (fun s3 I3 => wpAny_execs_nil (wpAny_execs_nil ⟨_, H2, I3, q2⟩)) hfy
    | next => exact False.elim hq
    | brk => exact False.elim hq
    | cont => exact False.elim hq
end
end L2
end
section
set_option Elab.async false
set_option linter.all false
set_option maxRecDepth 100000
set_option maxHeartbeats 4000000
namespace L2
open PySem PySem.Spec PySem.W PyProof.Rows PySem.Calls PySem.Builtin Builtin Builtin.ObjectAttr Builtin.Getset_descriptor
section
variable {prog : Program} {w : World} {A : Around} {E : Value → Shared → Prop} {s : Shared} {K : PySem.W.Frag} {a C : Addr}
/-- what an own class of exceptions keeps of BaseException's ways -/
structure ExcWays (K : PySem.W.Frag) (C : Addr) : Prop where
  ga : findIn K (.ref C) "__getattribute__" = some (some (.builtin "BaseException.__getattribute__"))
  gt : findIn K (.ref C) "__getattr__" = some none
  cl : findIn K (.ref C) "__class__" = some (some (.builtin "object.__class__"))
  gs : specialIn K (.builtin "object.__class__") "__get__" = some (some (.builtin "getset_descriptor.__get__"))
  tk : takesIn K (.builtin "object.__class__") = some true
  ob : mroIn K C (.type "object") = some true
  be : mroIn K C (.type "BaseException") = some true
  iz : (clsIn K C).isSome = true
def ExcIs (a C : Addr) (h : Heap) : Prop := ∃ o, h.get? a = some o ∧ o.cls = .ref C
theorem exc_type {M : Model} {h : Heap} (x : ExcIs a C h) : Looks M h (typeOf (.ref a)) (.ref C) := by
  obtain ⟨o, h1, h2⟩ := x
  exact h2 ▸ (Looks.ld h1).andThen .now
theorem look_data {M : Model} {h : Heap} {x : Value} {nm : Str} {d g : Value} (X : K.In h) (h1 : findIn K (.ref C) nm = some (some d)) (h2 : specialIn K d "__get__" = some (some g)) (h3 : takesIn K d = some true) : Looks M h (find x (.ref C) nm) (.bind g d) := by
  have L1 := looks_findIn (M := M) X h1
  have L2 : Looks M h (getOf (some d)) (some g) := looks_specialIn X h2
  have L3 : Looks M h (dataDescriptor? (some d) (some g)) (some (g, d)) := (looks_takesIn (M := M) X h3).andThen .now
  exact L1.andThen (L2.andThen (L3.andThen (Looks.tag .now)))
theorem class_getX {R : Result → Shared → Prop} {tp : Value} (X : K.In s.heap) (I : ExcIs a C s.heap) (hm : mroIn K C (.type "object") = some true) (h : R (.ok (.ret (.ref C))) s) :
    codeAny (model prog w) A (.call (.builtin "getset_descriptor.__get__") ⟨[.builtin "object.__class__", .ref a, tp], []⟩) R s := by
  obtain ⟨hh, g, dr, t, os⟩ := s
  have L0 := exc_type (M := model prog w) I
  have L1 := looks_mroIn (M := model prog w) X hm
  refine codeAny_call_builtin KF.slot_gs.plain KF.entry_gs (KF.slot_gs.check _ _ _ _ _ _ _ _ KF.type_class (KF.args_gs _ _ _) ?_)
  unfold Builtin.«getset_descriptor.__get__» descrGet
  rw [dga_obj]
  refine wpAny_bind (wpAny_pure ?_)
  unfold descrGetter descrCheckInstance descrNameAndClass isInstance
  simp only [KF.owner_class]
  repeat lk
  refine ⟨Code.quiet_builtin _ (by decide +kernel), codeAny_builtin KF.entry_class ?_⟩
  unfold Builtin.«object.__class__» shownTypeOf
  repeat lk
  exact h
theorem check_ga {M : Model} {nameV : Value} {Q : Unit → Shared → Prop} (X : K.In s.heap) (I : ExcIs a C s.heap) (Wy : ExcWays K C) (h : Q () s) : wpAny M A (checkBuiltinCall "BaseException.__getattribute__" ⟨[.ref a, nameV], []⟩) Q E s := by
  obtain ⟨hh, g, dr, t, os⟩ := s
  have hk : builtinKind "BaseException.__getattribute__" = some .slot := by decide +kernel
  have hsp : splitId "BaseException.__getattribute__" = some ("BaseException", "__getattribute__") := by decide +kernel
  have L0 := exc_type (M := M) I
  have L1 := looks_mroIn (M := M) X Wy.be
  have ha := F.args_bexc_ga (.ref a) nameV
  simp only [checkBuiltinCall, hk, hsp]
  unfold isInstance
  refine wpAny_bind (wpAny_bind (L0.at (L1.at ?_)))
  rw [Bool.not_true, if_neg Bool.false_ne_true]
  exact wpAny_of_eq ha h
theorem class_X {Q : Option Value → Shared → Prop} (X : K.In s.heap) (I : ExcIs a C s.heap) (Wy : ExcWays K C) (h : Q (some (.ref C)) { s with toks := s.toks + 1 }) : wpAny (model prog w) A (getAttr? (.ref a) "__class__") Q E s := by
  obtain ⟨hh, g, d, t, os⟩ := s
  have L0 := exc_type (M := model prog w) I
  have L1 := looks_findIn (M := model prog w) X Wy.ga
  have L2 := looks_findIn (M := model prog w) X Wy.gt
  unfold getAttr? getAttrBy? getAttrBy
  refine wpAny_bind (wpAny_mkText (wpAny_bind (wpAny_attempt (wpAny_holding (wpAny_bind (L0.at (wpAny_bind (L1.at ?_))))))))
  dsimp only
  rw [if_neg (by
    have z : (Value.builtin "BaseException.__getattribute__" == Value.builtin "object.__getattribute__") = false := by decide +kernel
    rw [z, Bool.and_false]
    exact Bool.false_ne_true)]
  unfold getAttrByItsOwn hookBefore
  rw [if_pos (show onTheHeap (Value.ref C) = true from rfl)]
  refine wpAny_bind (L2.at (wpAny_bind (wpAny_attempt (wpAny_holding ?_))))
  unfold callGetattribute
  rw [Bool.false_and, if_neg Bool.false_ne_true]
  unfold boundAndCalled
  have f3 := F.excAttr_ValueError.ga.bind (.ref a)
  rw [f3]
  refine wpAny_bind (wpAny_pure ?_)
  dsimp only
  refine wpAny_call (codeAny_call_builtin F.excAttr_ValueError.ga.plain F.entry_bexc_ga (check_ga (K := K) (C := C) X I Wy ?_))
  have LF := look_data (M := model prog w) (x := .ref a) X Wy.cl Wy.gs Wy.tk
  unfold Builtin.«object.__getattribute__»
  refine wpAny_bind (wpAny_of_eq (a := (Value.ref a, [Value.str (Str.ofString "__class__") t])) rfl ?_)
  dsimp only
  refine wpAny_bind (wpAny_of_eq (a := (Str.ofString "__class__")) rfl ?_)
  refine wpAny_bind (L0.at (wpAny_bind (LF.at ?_)))
  dsimp only
  unfold bindTo
  refine wpAny_bind (wpAny_call (class_getX (K := K) X I Wy.ob ?_))
  show wpAny _ _ (pure _) _ _ _
  refine wpAny_pure ?_
  dsimp only
  exact handed_on rfl (wpAny_pure h)
theorem kitx_exc (Wy : ExcWays K C) : KitX K (.ref a) (.ref C) (ExcIs a C) where
  ty := fun _ _ _ I => exc_type I
  it := fun _ _ X _ => by
    obtain ⟨cd, hc⟩ := Option.isSome_iff_exists.mp Wy.iz
    unfold clsIn at hc
    split at hc
    · rename_i lk
      intro A' Q' E' s' k q
      unfold isType loadHead
      exact wpAny_bind (wpAny_loadPart (k _ _ (X _ _ lk)) (wpAny_pure q))
    · cases hc
  ne := fun h tp dd its n sl X htp => by
    obtain ⟨cd, hc⟩ := Option.isSome_iff_exists.mp Wy.iz
    refine Bool.eq_false_iff.mpr fun q => ?_
    have e : C = tp := Value.ref.inj (beq_iff_eq.mp q)
    unfold clsIn at hc
    split at hc
    · rename_i lk
      have z := X _ _ lk
      rw [e] at z
      rw [htp] at z
      cases z
    · cases hc
  ca := fun X I k => class_X X I Wy k
end
/-- isinstance(x, C) of a caught exception; C an own class or a built-in one -/
def rIsX (K : PySem.W.Frag) : List V → Hp → VK → Prop := fun xs H Q => ∃ a C c b, xs = [.ref a, c] ∧ H a = some (.ext fun h => ∃ o, h.get? a = some o ∧ o.cls = .ref C) ∧ ExcWays K C ∧ ((∃ n, c = .ty n ∧ PySem.W.kitOne K (.ref C) (.type n) = some b) ∨ ∃ D, c = .ref D ∧ PySem.W.kitOne K (.ref C) (.ref D) = some b) ∧ Q (.bl b) H
theorem call_isX {X : Cx} : CallR X (.builtin "isinstance") (rIsX X.K) := by
  intro pins s σ H xs us Q I r h
  obtain ⟨a, C, c, b, rfl, hH, Wy, hc, q⟩ := h
  obtain ⟨u, w', rfl, rx, rn⟩ := vals2 r
  cases rx
  have hI : ExcIs a C s.heap := (I.hok a _ hH).1
  rcases hc with ⟨n, rfl, hk⟩ | ⟨D, rfl, hk⟩
  · cases rn
    exact PySem.W.kia_one (kitx_exc Wy) I.kIn hI hk (fun z => nomatch z) fun tk => ⟨.bl b, H, I.tok tk, rfl, q⟩
  · cases rn
    exact PySem.W.kia_one (kitx_exc Wy) I.kIn hI hk (fun z => nomatch z) fun tk => ⟨.bl b, H, I.tok tk, rfl, q⟩
theorem call_isXK {X : Cx} {K : PySem.W.Frag} (hK : X.K = K) : CallR X (.builtin "isinstance") (rIsX K) := hK ▸ call_isX
end L2
end
section
set_option Elab.async false
set_option linter.all false
set_option maxRecDepth 100000
set_option maxHeartbeats 4000000
namespace L2
open PySem PySem.Spec PyProof.Rows
/-! ### the data level with exceptions -/
def PEx (K : PySem.W.Frag) (f : Fx) (E : XK) (te : TE) (ρ : DEnv) (P : PyData → Prop) (Z : Value → Prop) : Prop := ∀ (σ : St) (H : Hp) (Q : VK), EnvOk K f ρ σ H → (∀ d v H', Goes f H H' → Rep K (hide H' f) d v → P d → Q v H') →
  (∀ C H', Goes f H H' → Z C → E C none H') → te σ H Q
def PSx (K : PySem.W.Frag) (f : Fx) (E : XK) (ts : TS) (ρ : DEnv) (D : DEnds) (Z : Value → Prop) : Prop := ∀ (σ : St) (H : Hp) (N : Ends), EnvOk K f ρ σ H → (∀ ρ' σ' H', Goes f H H' → EnvOk K f ρ' σ' H' → D.nx ρ' → N.nx σ' H') →
  (∀ d v H', Goes f H H' → Rep K (hide H' f) d v → D.rt d → N.rt v H') → (∀ ρ' σ' H', Goes f H H' → EnvOk K f ρ' σ' H' → D.bk ρ' → N.bk σ' H') → (∀ ρ' σ' H', Goes f H H' → EnvOk K f ρ' σ' H' → D.ct ρ' → N.ct σ' H') →
  (∀ C H', Goes f H H' → Z C → E C none H') → ts N σ H
/-- a def's promise with exceptions: what it tells, what it refuses with -/
def spX {γ : Type} (K : PySem.W.Frag) (n : Nat) (pre : γ → List DV → Prop) (post : γ → PyData → Prop) (exc : γ → Value → Prop) : Sp := fun vs H Q E => ∃ f xs c, RepVs K f H xs vs ∧ xs.length = n ∧ FOk f H ∧ pre c xs ∧
  (∀ r v H', Goes f H H' → Rep K (hide H' f) r v → post c r → Q v H') ∧ ∀ C H', Goes f H H' → exc c C → E C none H'
section
variable {K : PySem.W.Frag} {f : Fx} {ρ : DEnv} {E : XK} {te : TE} {ts tu : TS} {tt : TT} {t : TA} {P : PyData → Prop} {D : DEnds} {Z : Value → Prop} {g : TG}
theorem x_expr (h : PEd K f te ρ P) : PEx K f E te ρ P Z := fun σ H Q e q _ => h σ H Q e q
theorem x_stmt (h : PSd K f ts ρ D) : PSx K f E ts ρ D Z := fun σ H N e n r b c _ => h σ H N e n r b c
theorem x_call {γ : Type} {n : Nat} {pre : γ → List DV → Prop} {post : γ → PyData → Prop} {exc : γ → Value → Prop} (c : γ) (h : PAd K f t ρ fun xs => xs.length = n ∧ pre c xs ∧ (∀ r, post c r → P r) ∧ ∀ C, exc c C → Z C) : PEx K f E (tCall (spX K n pre post exc) [] E t) ρ P Z := fun σ H Q e q z =>
  h σ H _ e fun xs vs H1 g1 r1 ⟨hl, hp, k, kz⟩ => by
    refine ⟨f, xs, c, by rw [List.append_nil]; exact r1, hl, g1.2, hp, fun r v H' g' r' p' => q r v H' (g1.trans g') r' (k r p'), fun C H' g' p' => z C H' (g1.trans g') (kz C p')⟩
theorem x_raise {C : Value} (h : PAd K f t ρ fun xs => xs.length ≤ 1000 ∧ Z C) : PSx K f E (tRaise C E t) ρ D Z := fun σ H N e n r b c z =>
  h σ H _ e fun xs vs H1 g1 r1 ⟨hl, hz⟩ => ⟨by rw [r1.length]; exact hl, z C H1 g1 hz⟩
theorem x_seq (h : PSx K f E ts ρ { D with nx := fun ρ' => PSx K f E tu ρ' D Z } Z) : PSx K f E (tSeq ts tu) ρ D Z := fun σ H N e n r b c z =>
  h σ H _ e (fun ρ' σ' H' g' e' p => p σ' H' N e' (fun ρ2 σ2 H2 g2 => n ρ2 σ2 H2 (g'.trans g2)) (fun d v H2 g2 => r d v H2 (g'.trans g2)) (fun ρ2 σ2 H2 g2 => b ρ2 σ2 H2 (g'.trans g2)) (fun ρ2 σ2 H2 g2 => c ρ2 σ2 H2 (g'.trans g2)) fun C H2 g2 => z C H2 (g'.trans g2)) r b c z
theorem x_if (h : PTd K f tt ρ fun q => if q = true then PSx K f E ts ρ D Z else PSx K f E tu ρ D Z) : PSx K f E (tIfS tt ts tu) ρ D Z := fun σ H N e n r b c z =>
  h σ H _ e fun q H1 g1 p => by
    have e1 := e.mono g1
    cases q with
    | false =>
      rw [if_neg Bool.false_ne_true] at p ⊢
      exact p σ H1 N e1 (fun ρ2 σ2 H2 g2 => n ρ2 σ2 H2 (g1.trans g2)) (fun d v H2 g2 => r d v H2 (g1.trans g2)) (fun ρ2 σ2 H2 g2 => b ρ2 σ2 H2 (g1.trans g2)) (fun ρ2 σ2 H2 g2 => c ρ2 σ2 H2 (g1.trans g2)) fun C H2 g2 => z C H2 (g1.trans g2)
    | true =>
      rw [if_pos rfl] at p ⊢
      exact p σ H1 N e1 (fun ρ2 σ2 H2 g2 => n ρ2 σ2 H2 (g1.trans g2)) (fun d v H2 g2 => r d v H2 (g1.trans g2)) (fun ρ2 σ2 H2 g2 => b ρ2 σ2 H2 (g1.trans g2)) (fun ρ2 σ2 H2 g2 => c ρ2 σ2 H2 (g1.trans g2)) fun C H2 g2 => z C H2 (g1.trans g2)
theorem x_drop (h : PEx K f E te ρ (fun _ => D.nx ρ) Z) : PSx K f E (tDrop te) ρ D Z := fun σ H N e n r b c z => h σ H _ e (fun d v H' g' _ p => n ρ σ H' g' (e.mono g') p) z
theorem x_ret (h : PEx K f E te ρ D.rt Z) : PSx K f E (tRet te) ρ D Z := fun σ H N e n r b c z => h σ H _ e r z
theorem x_asg (h : PEx K f E te ρ (fun d => PGd K f g d ρ D.nx) Z) : PSx K f E (tAsg te g) ρ D Z := fun σ H N e n r b c z => h σ H _ e (fun d v H1 g1 r1 p1 => p1 σ H1 v _ (e.mono g1) r1 fun ρ' σ' H' g' e' p' => n ρ' σ' H' (g1.trans g') e' p') z
/-- try: y = f(..) except .. as n: .. -/
theorem s_try {γ : Type} {n : Nat} {pre : γ → List DV → Prop} {post : γ → PyData → Prop} {exc : γ → Value → Prop} {C0 : Addr} {i j : Nat} {tss : Addr → TS} (c : γ)
    (h : PAd K f t ρ fun xs => xs.length = n ∧ pre c xs ∧ (∀ r, post c r → D.nx (ρ.set i (some (.dat r)))) ∧ ∀ C, exc c C → PySem.W.exmOne K C (.ref C0) = some true ∧ ∀ a, PSd K f (tss a) (ρ.set j (some (.exc C))) { nx := fun ρ' => D.nx (ρ'.set j none), rt := D.rt, bk := fun ρ' => D.bk (ρ'.set j none), ct := fun ρ' => D.ct (ρ'.set j none) }) :
    PSd K f (tTry K C0 (spX K n pre post exc) t i j tss) ρ D := fun σ H N e nx rt bk ct =>
  h σ H _ e fun xs vs H1 g1 r1 ⟨hl, hp, k, kz⟩ => by
    refine ⟨f, xs, c, r1, hl, g1.2, hp, fun r v H' g' r' p' => nx _ _ H' (g1.trans g') ((e.mono (g1.trans g')).set i (x := .dat r) r') (k r p'), fun C H' g' p' => ?_⟩
    obtain ⟨hit, hs⟩ := kz C p'
    refine ⟨hit, fun a hn => ?_⟩
    have gn : Goes f H' (upd H' a (.ext (ExcOf a C))) := .of_same (same_new hn _) g'.ok
    have gg := g1.trans (g'.trans gn)
    have e2 := (e.mono gg).set j (x := .exc C) (v := .ref a) ⟨a, rfl, hide_get (fresh_ne g'.ok hn) upd_same⟩
    have none_ok : ∀ {ρ' : DEnv} {σ' : St} {H'' : Hp}, EnvOk K f ρ' σ' H'' → EnvOk K f (ρ'.set j none) (σ'.set j none) H'' := fun {ρ' σ' H''} e' => by
      refine ⟨by rw [List.length_set, List.length_set]; exact e'.len, fun q x hx => ?_, e'.fd⟩
      by_cases hq : j = q
      · subst hq
        rw [List.getElem?_set] at hx
        rw [if_pos rfl] at hx
        split at hx <;> cases hx
      · rw [List.getElem?_set_ne hq] at hx ⊢
        exact e'.get q x hx
    exact hs a _ _ _ e2 (fun ρ' σ' H'' g'' e'' p'' => nx _ _ H'' (gg.trans g'') (none_ok e'') p'') (fun d v H'' g'' r'' p'' => rt d v H'' (gg.trans g'') r'' p'') (fun ρ' σ' H'' g'' e'' p'' => bk _ _ H'' (gg.trans g'') (none_ok e'') p'') (fun ρ' σ' H'' g'' e'' p'' => ct _ _ H'' (gg.trans g'') (none_ok e'') p'')
/-- isinstance of what was caught -/
theorem d_isX {j : Nat} {C : Addr} {c : V} {b : Bool} (hj : ρ[j]? = some (some (.exc (.ref C)))) (Wy : ExcWays K C) (hk : (∃ n, c = .ty n ∧ PySem.W.kitOne K (.ref C) (.type n) = some b) ∨ ∃ D, c = .ref D ∧ PySem.W.kitOne K (.ref C) (.ref D) = some b) (p : P (.bool b)) :
    PEd K f (tCB (rIsX K) (tCons (tVar j) (tCons (tC c) tNil))) ρ P := fun σ H Q e q => by
  obtain ⟨v, hv, a, rfl, hH⟩ := e.get j _ hj
  exact ⟨_, hv, a, C, c, b, rfl, (hide_of hH).2, Wy, hk, q _ _ H (.refl e.fd) (rep_bool.mpr rfl) p⟩
end
structure FnInX (P : Program) (w : World) (K : PySem.W.Frag) (mg : Str → Option Value) (base : Heap) (k : Nat) (x : Str) (ps : List Str) (sp : Sp) : Prop where
  ex : ∃ (f : Addr) (fd : FuncData), FnOk P w K mg base (CXe P w) k f fd ps sp ∧ mg x = some (.ref f) ∧ PySem.W.keepIn K (.ref f) = true ∧ Binds K fd ps []
section
variable {P : Program} {w : World} {K : PySem.W.Frag} {mg : Str → Option Value} {base : Heap} {j k n : Nat} {x : Str} {st : Stmt} {ps N : List Str} {γ : Type} {pre : γ → List DV → Prop} {post : γ → PyData → Prop} {exc : γ → Value → Prop} {sp : Sp}
theorem FnInX.mono (h : FnInX P w K mg base j x ps sp) (hk : j ≤ k) : FnInX P w K mg base k x ps sp := let ⟨f, fd, a, b, c, d⟩ := h.ex; ⟨f, fd, a.mono hk, b, c, d⟩
theorem Def.okX (F : Def K mg x st ps) (S : FnScope N ps (defScope st)) (hn : ps.length = n)
    (h : ∀ (fa : Addr) (cdv : Value) (A : Around) (outer : List Env) (s : Shared) (H : Hp) (E : XK), Room k (A.deeper (envOfC x (defScope st) s.heap.objs.size fa cdv)) →
      ∃ t, PSs (cxOf (CXe P w) P w K mg base N x (defScope st) fa cdv A outer s H E) (defBody st) t ∧ ∀ f xs c, xs.length = n → pre c xs → PSx K f E t (startV N xs) { nx := fun _ => post c .none, rt := post c } (exc c)) :
    FnInX P w K mg base (k + 1) x ps (spX K n pre post exc) := by
  obtain ⟨fa, fd, F1, F2, F3⟩ := F.ex
  refine ⟨fa, fd, F1.okX S (fun vs H Q E h => ?_) (fun cdv A outer s H vs Q E hr hs => ?_), F3, F1.kp, F2⟩
  · obtain ⟨f, xs, c, r, hl, _⟩ := h
    rw [r.length, hl, hn]
  · obtain ⟨f, xs, c, r, hl, fo, hp, q, z⟩ := hs
    obtain ⟨t, h1, h2⟩ := h fa cdv A outer s H E hr
    refine ⟨t, h1, h2 f xs c hl hp _ H _ (startV_ok r fo) (fun ρ' σ' H' g' e' p => q .none .non H' g' (rep_none.mpr rfl) p) (fun d v H' g' r' p => q d v H' g' r' p) (fun _ _ _ _ _ z => z.elim) (fun _ _ _ _ _ z => z.elim) z⟩
theorem pe_callX {qual : Str} {scope : Scope} {f : Addr} {cd : Value} {A : Around} {outer : List Env} {s : Shared} {H : Hp} {E : XK} {y : Str} {qs : List Str} {sq : Sp} {e : Expr} {es : List Expr} {t : TA} {p pos : Pos} (G : FnInX P w K mg base k y qs sq) (hr : Room k (cxOf (CXe P w) P w K mg base N qual scope f cd A outer s H E).A) (hg : Gl (cxOf (CXe P w) P w K mg base N qual scope f cd A outer s H E) y) (ha : PA (cxOf (CXe P w) P w K mg base N qual scope f cd A outer s H E) (e :: es) t) (hdb : (y == ("__debug__" : Str)) = false := by decide)
    (he : starEach (e :: es) (cxOf (CXe P w) P w K mg base N qual scope f cd A outer s H E).env = (false, eval e (cxOf (CXe P w) P w K mg base N qual scope f cd A outer s H E).env) :: starEach es (cxOf (CXe P w) P w K mg base N qual scope f cd A outer s H E).env := by rfl)
    (hpl : (backTo pos (starEach es (cxOf (CXe P w) P w K mg base N qual scope f cd A outer s H E).env)).any (·.1) = false := by rfl) :
    PE (cxOf (CXe P w) P w K mg base N qual scope f cd A outer s H E) (.Call (.Name y p) (e :: es) [] pos) (tCall sq [] E t) := by
  obtain ⟨g, gd, G1, G2, G3, G4⟩ := G.ex
  exact pe_call (dvs := []) G1 hr hg G2 G3 G4 .nil passX ha hdb he hpl
end
end L2
end
section
set_option Elab.async false
set_option linter.all false
set_option maxRecDepth 100000
set_option maxHeartbeats 4000000
namespace L2
open PySem PySem.Spec PyProof.Rows
section
variable {K : PySem.W.Frag} {f : Fx} {ρ : DEnv} {P : PyData → Prop} {te ta tb tc : TE} {t u : TA} {D : DEnds} {i : Nat}
/-- some = [..]; return (some + [..])[k] -/
theorem s_lstcat (h : PAd K f t ρ fun xs => ∃ ds, allDat xs = some ds ∧ ds.length ≤ 500 ∧ PAd K f u (ρ.set i (some (.dat (.list ds)))) fun ys => ∃ es, allDat ys = some es ∧ es.length ≤ 500 ∧ PEd K f tc (ρ.set i (some (.dat (.list ds)))) fun k => ∃ q : Int, k = .int q ∧ ∃ d, atI (ds ++ es) q = some d ∧ D.rt d)
    (hi : i < ρ.length) : PSd K f (tSeq (tAsg (tLst t) (gName i)) (tRet (tOp (rIxL K) (tOp rCat (tVar i) (tLst u)) tc))) ρ D := fun σ H E e n r b c =>
  h σ H _ e fun xs vs H1 g1 r1 ⟨ds, ea, hl, p1⟩ => by
    have rs := reps_of r1 ea
    have lv := rs.length
    refine ⟨by rw [lv]; exact Nat.le_of_lt (small1000 (by omega)), fun l hn => ?_⟩
    have g2 : Goes f H1 (upd H1 l (.lst vs)) := .of_same (same_new hn _) g1.ok
    have nl := fresh_ne g1.ok hn
    have e2 : EnvOk K f (ρ.set i (some (.dat (.list ds)))) (σ.set i (some (.ref l))) (upd H1 l (.lst vs)) := (e.mono (g1.trans g2)).set i (x := .dat (.list ds)) (rep_list.mpr ⟨l, vs, rfl, .of (hide_get nl upd_same), Reps.mono g2.sm _ _ rs⟩)
    have hs : (σ.set i (some (.ref l)))[i]? = some (some (.ref l)) := List.getElem?_set_self (by rw [← e.len]; exact hi)
    refine ⟨_, hs, p1 _ _ _ e2 fun ys us H3 g3 r3 ⟨es, ea3, hl3, p3⟩ => ?_⟩
    have rs3 := reps_of r3 ea3
    have lu := rs3.length
    refine ⟨by rw [lu]; exact Nat.le_of_lt (small1000 (by omega)), fun l2 hn2 => ?_⟩
    have h3l : H3 l = some (.lst vs) := (hide_of (g3.sm l _ (hide_get nl upd_same))).2
    have g4 : Goes f H3 (upd H3 l2 (.lst us)) := .of_same (same_new hn2 _) g3.ok
    have hl2 : upd H3 l2 (.lst us) l = some (.lst vs) := (upd_ne (ne_of_none h3l hn2)).trans h3l
    refine ⟨l, l2, vs, us, rfl, rfl, hl2, upd_same, by rw [lv, lu]; exact Nat.le_of_lt (small1000 (by omega)), fun l3 hn3 => ?_⟩
    have g5 : Goes f (upd H3 l2 (.lst us)) (upd (upd H3 l2 (.lst us)) l3 (.lst (vs ++ us))) := .of_same (same_new hn3 _) g4.ok
    have gall := g3.trans (g4.trans g5)
    refine p3 _ _ _ (e2.mono gall) fun k kv H6 g6 r6 ⟨q, ek, d, hd, p6⟩ => ?_
    subst ek
    have nl3 := fresh_ne g4.ok hn3
    have h6 : H6 l3 = some (.lst (vs ++ us)) := (hide_of (g6.sm l3 _ (hide_get nl3 upd_same))).2
    have ra : Reps K (hide H6 f) (ds ++ es) (vs ++ us) := (Reps.mono (g2.trans (gall.trans g6)).sm _ _ rs).append (Reps.mono (g4.trans (g5.trans g6)).sm _ _ rs3)
    obtain ⟨jj, hj1, hj2⟩ : ∃ jj, ixN (ds ++ es).length q = some jj ∧ (ds ++ es)[jj]? = some d := by
      unfold atI at hd
      cases hq : ixN (ds ++ es).length q with
      | none => rw [hq] at hd; cases hd
      | some jj => rw [hq] at hd; exact ⟨jj, rfl, hd⟩
    obtain ⟨z, hz, rz⟩ := ra.get hj2
    refine ⟨l3, vs ++ us, q, z, rfl, rep_int.mp r6, .of h6, ?_, r d z H6 (g1.trans (g2.trans (gall.trans g6))) rz p6⟩
    unfold atI
    rw [ra.length, hj1]
    exact hz
theorem d_isB {n : String} {b : Bool} (hk : PySem.W.kitOne K (.type "bool") (.type n) = some b) (h : PEd K f te ρ fun d => ∃ k, d = .bool k ∧ P (.bool b)) : PEd K f (tCB (rIsi K) (tCons te (tCons (tC (.ty n)) tNil))) ρ P := fun σ H Q e q => h σ H _ e fun d v H1 g r ⟨k, ed, p⟩ => by
  subst ed
  rw [rep_bool.mp r]
  exact ⟨_, n, b, rfl, .inr (.inr ⟨_, .bl k, hk⟩), q _ _ H1 g (rep_bool.mpr rfl) p⟩
end
end L2
end
section
set_option Elab.async false
set_option linter.all false
set_option maxRecDepth 100000
set_option maxHeartbeats 4000000
namespace L2
open PySem PySem.Spec PyProof.Rows
/-! ### all([..]), any([..]) of truths -/
def rAll (K : PySem.W.Frag) : List V → Hp → VK → Prop := fun xs H Q => ∃ (a : Addr) (bs : List Bool), xs = [.ref a] ∧ SqL K H a (bs.map V.bl) ∧ Q (.bl (bs.all id)) H
def rAny (K : PySem.W.Frag) : List V → Hp → VK → Prop := fun xs H Q => ∃ (a : Addr) (bs : List Bool), xs = [.ref a] ∧ SqL K H a (bs.map V.bl) ∧ Q (.bl (bs.any id)) H
theorem bools_of : ∀ {bs : List Bool} {us : List Value}, Vals (bs.map V.bl) us → us = bs.map Value.bool
  | [], us, r => by
    cases r
    rfl
  | b :: bs, us, r => by
    cases r with
    | cons h t =>
      rw [bools_of t]
      cases (show _ = Value.bool b from h)
      rfl
theorem range_all (bs : List Bool) : (List.range bs.length).all (fun i => bs.getD i false) = bs.all id := by
  rw [Bool.eq_iff_iff, List.all_eq_true, List.all_eq_true]
  constructor
  · intro h b hb
    obtain ⟨i, hi, rfl⟩ := List.mem_iff_getElem.mp hb
    have := h i (List.mem_range.mpr hi)
    rwa [List.getD_eq_getElem?_getD, List.getElem?_eq_getElem hi] at this
  · intro h i hi
    have hi' := List.mem_range.mp hi
    rw [List.getD_eq_getElem?_getD, List.getElem?_eq_getElem hi']
    exact h _ (List.getElem_mem hi')
theorem range_any (bs : List Bool) : (List.range bs.length).any (fun i => bs.getD i false) = bs.any id := by
  rw [Bool.eq_iff_iff, List.any_eq_true, List.any_eq_true]
  constructor
  · rintro ⟨i, hi, h⟩
    have hi' := List.mem_range.mp hi
    rw [List.getD_eq_getElem?_getD, List.getElem?_eq_getElem hi'] at h
    exact ⟨_, List.getElem_mem hi', h⟩
  · rintro ⟨b, hb, h⟩
    obtain ⟨i, hi, rfl⟩ := List.mem_iff_getElem.mp hb
    refine ⟨i, List.mem_range.mpr hi, ?_⟩
    rw [List.getD_eq_getElem?_getD, List.getElem?_eq_getElem hi]
    exact h
theorem truth_bools (prog : Program) (w : World) (A : Around) (bs : List Bool) : TruthOf prog w A (fun i v => (bs.map Value.bool).toArray[i]? = some v) (fun i => bs.getD i false) := by
  intro i v s Q E hv hq
  rw [List.getElem?_toArray, List.getElem?_map] at hv
  cases eb : bs[i]? with
  | none => rw [eb] at hv; cases hv
  | some b =>
    rw [eb] at hv
    cases hv
    dsimp only at hq
    rw [List.getD_eq_getElem?_getD, eb] at hq
    exact wpAny_pure hq
theorem call_allL {X : Cx} (hc : X.calm = true) : CallR X (.builtin "all") (rAll X.K) := by
  intro pins s σ H xs us Q I r h
  obtain ⟨a, bs, rfl, hq, q⟩ := h
  obtain ⟨u, rfl, r1⟩ := vals1 r
  cases r1
  obtain ⟨its, rv, p, _⟩ := I.list hq
  have hl := p.isList
  rw [bools_of rv] at hl
  have ha : a < s.heap.objs.size := by
    obtain ⟨o, ho, _⟩ := hl
    exact Heap.lt_size ho
  refine call_all_walk (wpAny_pyIter_list hl ?_)
  have hne : a ≠ s.heap.objs.size := Nat.ne_of_lt ha
  refine ⟨s.heap.objs.size, _, _, _, _, _, _, rfl, Walks.list (show (X.A.in1).handled = none from I.ok.hd hc) _ a hne _, ⟨?_, ?_⟩, truth_bools _ _ _ bs, fun h' tk hk => ?_⟩
  · exact ⟨_, Heap.get?_push_size _ rfl, rfl, rfl⟩
  · exact hl.at fun o e => Heap.get?_push_of_some _ e
  · have kp : ∀ b o, s.heap.get? b = some o → h'.get? b = some o := fun b o e => hk b o (by
      intro z
      have := Heap.lt_size e
      rw [List.mem_singleton.mp z] at this
      exact Nat.lt_irrefl _ this) (Heap.get?_push_of_some _ e)
    refine ⟨.bl _, H, I.kept (t' := tk) kp, ?_, q⟩
    show Value.bool _ = Value.bool _
    rw [List.size_toArray, List.length_map, range_all]
theorem call_anyL {X : Cx} (hc : X.calm = true) : CallR X (.builtin "any") (rAny X.K) := by
  intro pins s σ H xs us Q I r h
  obtain ⟨a, bs, rfl, hq, q⟩ := h
  obtain ⟨u, rfl, r1⟩ := vals1 r
  cases r1
  obtain ⟨its, rv, p, _⟩ := I.list hq
  have hl := p.isList
  rw [bools_of rv] at hl
  have ha : a < s.heap.objs.size := by
    obtain ⟨o, ho, _⟩ := hl
    exact Heap.lt_size ho
  refine call_any_walk (wpAny_pyIter_list hl ?_)
  have hne : a ≠ s.heap.objs.size := Nat.ne_of_lt ha
  refine ⟨s.heap.objs.size, _, _, _, _, _, _, rfl, Walks.list (show (X.A.in1).handled = none from I.ok.hd hc) _ a hne _, ⟨?_, ?_⟩, truth_bools _ _ _ bs, fun h' tk hk => ?_⟩
  · exact ⟨_, Heap.get?_push_size _ rfl, rfl, rfl⟩
  · exact hl.at fun o e => Heap.get?_push_of_some _ e
  · have kp : ∀ b o, s.heap.get? b = some o → h'.get? b = some o := fun b o e => hk b o (by
      intro z
      have := Heap.lt_size e
      rw [List.mem_singleton.mp z] at this
      exact Nat.lt_irrefl _ this) (Heap.get?_push_of_some _ e)
    refine ⟨.bl _, H, I.kept (t' := tk) kp, ?_, q⟩
    show Value.bool _ = Value.bool _
    rw [List.size_toArray, List.length_map, range_any]
theorem call_allK {X : Cx} {K : PySem.W.Frag} (hK : X.K = K) (hc : X.calm = true) : CallR X (.builtin "all") (rAll K) := hK ▸ call_allL hc
theorem call_anyK {X : Cx} {K : PySem.W.Frag} (hK : X.K = K) (hc : X.calm = true) : CallR X (.builtin "any") (rAny K) := hK ▸ call_anyL hc
section
variable {K : PySem.W.Frag} {f : Fx} {ρ : DEnv} {P : PyData → Prop} {te : TE}
theorem reps_bools {H : Hp} : ∀ {bs : List Bool} {xs : List V}, Reps K H (bs.map .bool) xs → xs = bs.map V.bl
  | [], xs, r => reps_nil.mp r
  | b :: bs, xs, r => by
    obtain ⟨x, r', rfl, h1, h2⟩ := reps_cons.mp r
    rw [reps_bools h2, rep_bool.mp h1]
    rfl
theorem d_all (h : PEd K f te ρ fun x => ∃ bs : List Bool, x = .list (bs.map .bool) ∧ P (.bool (bs.all id))) : PEd K f (tCB (rAll K) (tCons te tNil)) ρ P := fun σ H Q e q => h σ H _ e fun x v H1 g1 r1 ⟨bs, ex, p⟩ => by
  subst ex
  obtain ⟨a, xs, rfl, h1, h2⟩ := rep_list.mp r1
  rw [reps_bools h2] at h1
  exact ⟨a, bs, rfl, (hide_same _ _).seq h1, q _ _ H1 g1 (rep_bool.mpr rfl) p⟩
theorem d_any (h : PEd K f te ρ fun x => ∃ bs : List Bool, x = .list (bs.map .bool) ∧ P (.bool (bs.any id))) : PEd K f (tCB (rAny K) (tCons te tNil)) ρ P := fun σ H Q e q => h σ H _ e fun x v H1 g1 r1 ⟨bs, ex, p⟩ => by
  subst ex
  obtain ⟨a, xs, rfl, h1, h2⟩ := rep_list.mp r1
  rw [reps_bools h2] at h1
  exact ⟨a, bs, rfl, (hide_same _ _).seq h1, q _ _ H1 g1 (rep_bool.mpr rfl) p⟩
end
/-! ### x, y = a list -/
section
variable {prog : Program} {w : World} {A : Around} {E : Value → Shared → Prop}
theorem draw_walk {I : Addr} {fp wr : List Addr} {n : Nat} {P : Nat → Value → Prop} {St : Nat → Heap → Prop} (W : Walks prog w A I fp wr n P St) : ∀ (k i : Nat) (s : Shared) (Q : List Value → Shared → Prop), i + k ≤ n → St i s.heap →
    (∀ vs h' tk, vs.length = k → (∀ (j : Nat) v, vs[j]? = some v → P (i + j) v) → St (i + k) h' → (∀ b o, b ∉ wr → s.heap.get? b = some o → h'.get? b = some o) → Q vs { s with heap := h', toks := tk }) → wpAny (model prog w) A (draw (.ref I) k) Q E s
  | 0, i, s, Q, _, st, hQ => wpAny_pure (hQ [] s.heap s.toks rfl (fun j v e => by simp at e) st fun _ _ _ e => e)
  | k + 1, i, s, Q, hle, st, hQ => by
    show wpAny _ _ (pyNext (.ref I) >>= _) Q E s
    refine wpAny_bind (W.item i s _ E (by omega) st fun v h1 tk1 hv st1 k1 => ?_)
    refine wpAny_bind (wpAny_holding (draw_walk W k (i + 1) _ _ (by omega) st1 fun vs h2 tk2 hl hp st2 k2 => wpAny_pure ?_))
    refine hQ (v :: vs) h2 tk2 (by rw [List.length_cons, hl]) (fun j u e => ?_) (by rw [show i + (k + 1) = i + 1 + k by omega]; exact st2) fun b o hb e => k2 b o hb (k1 b o hb e)
    cases j with
    | zero => cases e; exact hv
    | succ j =>
      have := hp j u e
      rwa [show i + (j + 1) = i + 1 + j by omega]
theorem unpack_lst {s : Shared} {a : Addr} {items : Array Value} {targets : List (Bool × (Value → Sem Unit))} {Q : Unit → Shared → Prop} (hh : A.handled = none) (hl : s.heap.IsList a items)
    (hn : targets.length = items.size) (hstar : targets.findIdx? (·.1) = none)
    (h : ∀ h' tk, (∀ b o, s.heap.get? b = some o → h'.get? b = some o) → wpAny (model prog w) A (assignInOrder (targets.map (·.2)) items.toList) Q E { s with heap := h', toks := tk }) : wpAny (model prog w) A (unpack (.ref a) targets) Q E s := by
  have ha : a < s.heap.objs.size := by
    obtain ⟨o, ho, _⟩ := hl
    exact Heap.lt_size ho
  unfold unpack
  rw [hn, hstar]
  refine wpAny_bind (wpAny_holding ?_)
  unfold unpackItems
  refine wpAny_bind ?_
  unfold notIterableAtAll
  refine wpAny_bind (wpAny_specialOf hl.typeIs slot_list_iter.lookup (wpAny_pure ?_))
  simp only [Bool.false_eq_true, if_false]
  refine wpAny_bind (wpAny_holding (wpAny_pyIter_list hl ?_))
  have W := Walks.list (prog := prog) (w := w) hh s.heap.objs.size a (Nat.ne_of_lt ha) items
  have fr : ∀ b o, s.heap.get? b = some o → b ∉ [s.heap.objs.size] := fun b o e z => by
    have := Heap.lt_size e
    rw [List.mem_singleton.mp z] at this
    exact Nat.lt_irrefl _ this
  refine wpAny_bind (wpAny_holding (draw_walk W items.size 0 _ _ (by omega) ⟨⟨_, Heap.get?_push_size _ rfl, rfl, rfl⟩, hl.at fun o e => Heap.get?_push_of_some _ e⟩ fun vs h1 tk1 hvl hp st1 k1 => ?_))
  have ev : vs = items.toList := by
    refine List.ext_getElem? fun j => ?_
    by_cases hj : j < vs.length
    · have := hp j _ (List.getElem?_eq_getElem hj)
      rw [Nat.zero_add] at this
      rw [List.getElem?_eq_getElem hj, ← this, Array.getElem?_toList]
    · rw [List.getElem?_eq_none (by omega), List.getElem?_eq_none (by rw [Array.length_toList]; omega)]
  subst ev
  rw [if_neg (by simp)]
  rw [Nat.zero_add] at st1
  refine wpAny_bind (wpAny_holding (W.done _ _ _ st1 fun h2 tk2 k2 => ?_))
  simp only [Option.isSome_none, Bool.false_eq_true, if_false]
  exact wpAny_pure (h h2 tk2 fun b o e => k2 b o (fr b o e) (k1 b o (fr b o e) (Heap.get?_push_of_some _ e)))
end
def gLst (K : PySem.W.Frag) (n : Nat) (gs : TGs) : TG := fun v σ H Q => ∃ a xs, v = .ref a ∧ SqL K H a xs ∧ xs.length = n ∧ gs xs σ H Q
theorem pg_lstK {X : Cx} {K : PySem.W.Frag} {es : List Expr} {k : Nat} {t : TGs} {n : Nat} {pos : Pos} (hK : X.K = K) (hc : X.calm = true) (h : PGs X es t)
    (hn : (assignEach es X.env).length = n := by rfl) (hst : (assignEach es X.env).findIdx? (·.1) = none := by rfl) : PG X (.Tuple es k pos) (gLst K n t) := by
  subst hK
  intro pins s σ H v u Q I r hw
  obtain ⟨a, xs, e1, hq, hl, hw⟩ := hw
  subst e1
  cases r
  obtain ⟨its, rv, p, hz⟩ := I.list hq
  rw [assign_Tuple]
  refine wpAny_bind (wpAny_standAt (unpack_lst (I.ok.hd hc) p.isList (by rw [hn, ← hl, rv.length, List.size_toArray]) hst fun h' tk kp => ?_))
  exact h pins _ σ H xs _ Q (I.kept (t' := tk) kp) rv hw
section
variable {K : PySem.W.Frag} {f : Fx} {ρ : DEnv}
theorem g_lst {n : Nat} {gs : TGs} {ds : List PyData} {R : DEnv → Prop} (hn : ds.length = n) (h : PGsd K f gs ds ρ R) : PGd K f (gLst K n gs) (.list ds) ρ R := fun σ H v Q e r q => by
  obtain ⟨a, xs, rfl, h1, h2⟩ := rep_list.mp r
  exact ⟨a, xs, rfl, (hide_same _ _).seq h1, by rw [h2.length]; exact hn, h σ H xs Q e h2 q⟩
end
end L2
end
section
set_option Elab.async false
set_option linter.all false
set_option maxRecDepth 100000
set_option maxHeartbeats 4000000
namespace L2
open PySem PySem.Spec PyProof.Rows
/-! ### x in a list of data -/
def rInD (K : PySem.W.Frag) (neg : Bool) : R2 := fun x y H Q => ∃ d ds, Rep K H d x ∧ Rep K H (.list ds) y ∧ d.canLay0 = true ∧ (∀ e ∈ ds, e.canLay0 = true) ∧ d.depth ≤ 50 ∧ Q (.bl (if neg then !ds.any (fun e => PyData.eqv e d) else ds.any (fun e => PyData.eqv e d))) H
open Classical in
noncomputable def eqR (h : Heap) (d : PyData) (u : Value) : Bool := if z : ∃ e as, Reads h u e as ∧ e.canLay0 = true then PyData.eqv z.choose d else false
theorem eqR_of {h : Heap} {d e : PyData} {u : Value} {as : List Addr} (r : Reads h u e as) (c : e.canLay0 = true) : eqR h d u = PyData.eqv e d := by
  have z : ∃ e as, Reads h u e as ∧ e.canLay0 = true := ⟨e, as, r, c⟩
  unfold eqR
  rw [dif_pos z]
  obtain ⟨as', r', c'⟩ := z.choose_spec
  rw [SeqAt.Reads.unique _ _ _ _ _ c' r' r]
section
variable {X : Cx} {pins : List (Addr × Obj)} {σ : St} {H : Hp} {s : Shared}
theorem any_eqR (I : Inv X pins σ H s) {d : PyData} : ∀ {ds : List PyData} {xs : List V} {us : List Value}, Reps X.K H ds xs → Vals xs us → (∀ e ∈ ds, e.canLay0 = true) → us.any (eqR s.heap d) = ds.any (fun e => PyData.eqv e d)
  | [], xs, us, r, v, _ => by
    rw [reps_nil.mp r] at v
    cases v
    rfl
  | e :: ds, xs, us, r, v, c => by
    obtain ⟨x, xs', rfl, h1, h2⟩ := reps_cons.mp r
    cases v with
    | cons r1 r2 =>
      obtain ⟨as, ra⟩ := reads_of I e x _ h1 r1
      rw [List.any_cons, List.any_cons, eqR_of ra (c e List.mem_cons_self), any_eqR I h2 r2 fun e he => c e (List.mem_cons_of_mem _ he)]
theorem each_eqR (I : Inv X pins σ H s) {A : Around} {d : PyData} {v : Value} {bs : List Addr} (rb : Reads s.heap v d bs) (cd : d.canLay0 = true) (dd : d.depth ≤ 50) (hu : A.units + 60 < cLine) : ∀ {ds : List PyData} {xs : List V} {us : List Value}, Reps X.K H ds xs → Vals xs us → (∀ e ∈ ds, e.canLay0 = true) → ∀ u ∈ us, SeqAt.EqAt A s u v (eqR s.heap d u)
  | [], xs, us, r, w, _ => by
    rw [reps_nil.mp r] at w
    cases w
    intro u hu
    cases hu
  | e :: ds, xs, us, r, w, c => by
    obtain ⟨x, xs', rfl, h1, h2⟩ := reps_cons.mp r
    cases w with
    | cons r1 r2 =>
      intro u hm
      rcases List.mem_cons.mp hm with rfl | hm
      · obtain ⟨as, ra⟩ := reads_of I e x _ h1 r1
        rw [eqR_of ra (c e List.mem_cons_self)]
        refine SeqAt.eqAt_reads e d A s _ v as bs ra rb (c e List.mem_cons_self) cd ?_
        have := Nat.min_le_right e.depth d.depth
        omega
      · exact each_eqR I rb cd dd hu h2 r2 (fun e he => c e (List.mem_cons_of_mem _ he)) u hm
theorem op_inD (hu : X.A.units + 64 < cLine) : OpR X (compareOp .In) (rInD X.K false) := by
  intro pins s σ H x y v u Q I rx ry h
  obtain ⟨d, ds, h1, h2, c1, c2, dd, q⟩ := h
  obtain ⟨a, xs, rfl, hq, hr⟩ := rep_list.mp h2
  cases ry
  obtain ⟨bs, rb⟩ := reads_of I d x v h1 rx
  obtain ⟨its, r, pl, hz⟩ := I.list hq
  refine SeqAt.in_listAt (eqR s.heap d) pl.isList (fun w hw => each_eqR I rb c1 dd (show X.A.in1.units + 60 < cLine from by show X.A.units + 1 + 60 < cLine; omega) hr r c2 w (by simpa using hw)) ⟨.bl _, H, I, rfl, ?_⟩
  rw [show its.toArray.any (eqR s.heap d) = its.any (eqR s.heap d) by simp, any_eqR I hr r c2]
  exact q
theorem op_inDK {K : PySem.W.Frag} (hK : X.K = K) (hu : X.A.units + 64 < cLine) : OpR X (compareOp .In) (rInD K false) := hK ▸ op_inD hu
theorem op_notInK {K : PySem.W.Frag} (hK : X.K = K) : OpR X (compareOp .NotIn) (rIn K true) := hK ▸ op_notIn_seq
end
section
variable {K : PySem.W.Frag} {f : Fx} {ρ : DEnv} {P : PyData → Prop} {te ta tb : TE} {t : TA} {D : DEnds} {i j : Nat}
theorem d_inD (h : PEd K f ta ρ fun d => PEd K f tb ρ fun y => ∃ ds, y = .list ds ∧ d.canLay0 = true ∧ (∀ e ∈ ds, e.canLay0 = true) ∧ d.depth ≤ 50 ∧ P (.bool (ds.any fun e => PyData.eqv e d))) : PEd K f (tOp (rInD K false) ta tb) ρ P := fun σ H Q e q =>
  h σ H _ e fun d v H1 g1 r1 p1 => p1 σ H1 _ (e.mono g1) fun y w H2 g2 r2 ⟨ds, ey, c1, c2, dd, p2⟩ => by
    subst ey
    exact ⟨d, ds, Rep.mono (hide_same _ _) _ _ (Rep.mono g2.sm _ _ r1), Rep.mono (hide_same _ _) _ _ r2, c1, c2, dd, q _ _ H2 (g1.trans g2) (rep_bool.mpr rfl) p2⟩
/-- x not in a tuple of ints -/
theorem d_notinT (h : PEd K f ta ρ fun d => ∃ n : Int, d = .int n ∧ PEd K f tb ρ fun y => ∃ ns : List Int, y = .tuple (ns.map .int) ∧ P (.bool (!ns.contains n))) : PEd K f (tOp (rIn K true) ta tb) ρ P := fun σ H Q e q =>
  h σ H _ e fun d v H1 g1 r1 ⟨n, ed, p1⟩ => p1 σ H1 _ (e.mono g1) fun y w H2 g2 r2 ⟨ns, ey, p2⟩ => by
    subst ed ey
    obtain ⟨a, xs, rfl, h1, h2⟩ := rep_tuple.mp r2
    have ex := h2.ints
    subst ex
    rw [rep_int.mp r1]
    have e1 : inV (.int n) (ns.map V.int) = ns.contains n := by
      unfold inV
      rw [List.any_map, List.contains_eq_any_beq]
      congr 1
      funext m
      show (m == n) = (n == m)
      exact BEq.comm
    refine ⟨a, _, rfl, .inr ((hide_same _ _).seqT h1), rfl, ?_, ?_⟩
    · rw [List.all_map]
      exact List.all_eq_true.mpr fun _ _ => rfl
    · rw [if_pos rfl, e1]
      exact q _ _ H2 (g1.trans g2) (rep_bool.mpr rfl) p2
/-- x, y = a, b -/
theorem s_par (h : PAd K f t ρ fun xs => ∃ d d', xs = [.dat d, .dat d'] ∧ D.nx ((ρ.set i (some (.dat d))).set j (some (.dat d')))) : PSd K f (tPar i j t) ρ D := fun σ H E e n r b c =>
  h σ H _ e fun xs vs H1 g1 r1 ⟨d, d', ex, p⟩ => by
    subst ex
    cases r1 with
    | cons ra rs =>
      cases rs with
      | cons rb rs =>
        cases rs
        exact ⟨_, _, rfl, n _ _ H1 g1 (((e.mono g1).set i (x := .dat d) ra).set j (x := .dat d') rb) p⟩
end
end L2
end
section
set_option Elab.async false
set_option linter.all false
set_option maxRecDepth 100000
set_option maxHeartbeats 4000000
namespace L2
open PySem PySem.Spec PyProof.Rows
section
variable {K : PySem.W.Frag} {f : Fx} {ρ : DEnv} {D : DEnds}
theorem s_while {tc : TT} {tb : TS} (J : DEnv → Prop) (μ : DEnv → Nat) (h0 : J ρ)
    (hs : ∀ ρ', J ρ' → PTd K f tc ρ' fun b => if b = true then PSd K f tb ρ' { D with nx := fun r => J r ∧ μ r < μ ρ', ct := fun r => J r ∧ μ r < μ ρ', bk := D.nx } else D.nx ρ') : PSd K f (tWhile tc tb) ρ D := fun σ H E e n r b c => by
  refine ⟨fun m σ' H' => ∃ ρ', EnvOk K f ρ' σ' H' ∧ Goes f H H' ∧ J ρ' ∧ m = μ ρ', ⟨_, ρ, e, .refl e.fd, h0, rfl⟩, ?_⟩
  rintro m σ1 H1 ⟨ρ1, e1, g1, j1, rfl⟩
  refine hs ρ1 j1 σ1 H1 _ e1 fun t H2 g2 p => ?_
  cases t with
  | true =>
    rw [if_pos rfl] at p ⊢
    refine ⟨fun σ' H' => ∃ ρ', EnvOk K f ρ' σ' H' ∧ Goes f H H' ∧ J ρ' ∧ μ ρ' < μ ρ1, fun σ' H' ⟨ρ', e', g', j', l'⟩ => ⟨_, l', ρ', e', g', j', rfl⟩, ?_⟩
    have gg := g1.trans g2
    exact p σ1 H2 _ (e1.mono g2) (fun ρ5 σ5 H5 g5 e5 p5 => ⟨ρ5, e5, gg.trans g5, p5⟩) (fun d v H5 g5 r5 p5 => r d v H5 (gg.trans g5) r5 p5) (fun ρ5 σ5 H5 g5 e5 p5 => n ρ5 σ5 H5 (gg.trans g5) e5 p5) (fun ρ5 σ5 H5 g5 e5 p5 => ⟨ρ5, e5, gg.trans g5, p5⟩)
  | false =>
    rw [if_neg Bool.false_ne_true] at p ⊢
    exact n ρ1 σ1 H2 (g1.trans g2) (e1.mono g2) p
end
end L2
end
section
set_option Elab.async false
set_option linter.all false
set_option maxRecDepth 100000
set_option maxHeartbeats 4000000
namespace L2
open PySem PySem.Spec PyProof.Rows
section
variable {X : Cx} {pins : List (Addr × Obj)} {σ : St} {H H1 H2 : Hp} {s s1 s2 : Shared} {a C0 : Addr} {C : Value} {i j : Nat} {n hx : Str} {b0 : Stmt} {suite : List Stmt} {hp hpos : Pos} {ts : TS} {D : Ends}
theorem land0 (I : Inv X pins σ H1 s1) (x : XLie X.prog X.w X.stack H1 s1 a C H2 s2) (hst : X.stack = X.env :: X.outer) (hf : X.env.frame = some X.env.locals)
    (hg : Gl X hx) (hm : X.mg hx = some (.ref C0)) (hit : PySem.W.exmOne X.K C (.ref C0) = some true) (hs : PSs (X.marked (.ref a)) (b0 :: suite) ts) (h : ts D σ H2)
    (hd : (hx == ("__debug__" : Str)) = false := by decide) :
    wpAny (model X.prog X.w) X.A (noteFrame (.ref a) X.env) (fun _ t2 => wpAny (model X.prog X.w) X.A (setFlight (.ref a) none) (fun _ t3 =>
      wpAny (model X.prog X.w) X.A (handleBy (.ref a) X.env [.ExceptHandler (some (.Name hx hp)) none (b0 :: suite) hpos]) (SP X pins D) X.xe t3) X.xe t2) X.xe s2 := by
  obtain ⟨B, a0, fl, dom, trk⟩ := x.fly
  have fl0 := fl
  rw [hst] at fl0
  refine wpAny_looks_onW (by rw [I.ok.frames, hst]) hf fl0 fun h4 held up4 => ?_
  refine wpAny_landsW held fun h5 fl5 up5 => ?_
  have inv : ∀ {hh : Heap}, B.StaysIn hh → s2.heap.UpToSlots hh → Inv X pins σ H2 { s2 with heap := hh } := fun {hh} st up => by
    obtain ⟨un, ok⟩ := x.move fl dom trk st up
    exact I.call' (s' := { s2 with heap := hh }) x.os un ok x.bare (fun b z => absurd z (by simp))
  have I5 := inv fl5.1 (up4.trans up5)
  have M5 := I5.marked (.ref a)
  refine wpAny_handleBy_cons (codeAny_handlers_test (ld_glob (X := X.marked (.ref a)) M5 hg hm ?_ hd)) (by intro q; cases q)
  obtain ⟨ob, hob, hoc⟩ := fl5.there
  have LT : PySem.W.Looks (model X.prog X.w) h5 (typeOf (.ref a)) C := by
    subst hoc
    exact (PySem.W.Looks.ld hob).andThen .now
  refine (PySem.W.exm_one I5.kIn LT hit).at ?_
  refine codeAny_handlers_suite ?_
  refine lands_againW fl5 fun h6 fl6 up6 => ?_
  have I6 := inv fl6.1 ((up4.trans up5).trans up6)
  refine wpAny_mono (hs pins _ _ _ D (I6.marked _) h) (fun f s9 q => ?_) fun _ _ z => z.elim
  cases f with
  | next =>
    obtain ⟨σ', H', I9, q9⟩ := q
    exact ⟨_, H', I9.unmarked I.ok, q9⟩
  | brk =>
    obtain ⟨σ', H', I9, q9⟩ := q
    exact ⟨_, H', I9.unmarked I.ok, q9⟩
  | cont =>
    obtain ⟨σ', H', I9, q9⟩ := q
    exact ⟨_, H', I9.unmarked I.ok, q9⟩
  | ret u =>
    obtain ⟨v, σ', H', I9, r9, q9⟩ := q
    exact ⟨v, _, H', I9.unmarked I.ok, r9, q9⟩
/-- try: f(..) except H: .. -/
def tTryE (K : PySem.W.Frag) (C0 : Addr) (sp : Sp) (t : TA) (ts : Addr → TS) : TS := fun D σ H => t σ H fun vs H1 => sp vs H1 (fun v H2 => D.nx σ H2)
  fun C _ H2 => PySem.W.exmOne K C (.ref C0) = some true ∧ ∀ a, ts a D σ H2
theorem ps_tryE {k : Nat} {f : Addr} {fd : FuncData} {ps : List Str} {sp : Sp} {t : TA} {fx : Str} {e0 : Expr} {es : List Expr} {p cpos spos pos : Pos} {tss : Addr → TS} (F : FnOk X.prog X.w X.K X.mg X.base (CXe X.prog X.w) k f fd ps sp) (hr : Room k X.A) (hgf : Gl X fx) (hmf : X.mg fx = some (.ref f)) (hk : PySem.W.keepIn X.K (.ref f) = true) (hb : Binds X.K fd ps [])
    (ha : PA X.nox (e0 :: es) t) (hst : X.stack = X.env :: X.outer) (hf : X.env.frame = some X.env.locals)
    (hg : Gl X hx) (hm : X.mg hx = some (.ref C0)) (hs : ∀ a, PSs (X.marked (.ref a)) (b0 :: suite) (tss a))
    (hd : (hx == ("__debug__" : Str)) = false := by decide) (hdf : (fx == ("__debug__" : Str)) = false := by decide) (he : starEach (e0 :: es) X.env = (false, eval e0 X.env) :: starEach es X.env := by rfl) (hpl : (backTo cpos (starEach es X.env)).any (·.1) = false := by rfl)
    (hsw : swapsWith (.Call (.Name fx p) (e0 :: es) [] cpos) none spos.line X.env = pure false := by rfl) :
    PS X (.Try [.Expr (.Call (.Name fx p) (e0 :: es) [] cpos) spos] [.ExceptHandler (some (.Name hx hp)) none (b0 :: suite) hpos] [] [] pos) (tTryE X.K C0 sp t tss) := by
  intro pins s σ H D I h
  refine wpAny_Try_except (wpAny_execs_cons (wpAny_Expr_any ?_ I.quiet hsw))
  refine wpAny_Call_Name_kw (ld_glob I hgf hmf ?_ hdf)
  refine PySem.W.callWith_K (h₀ := X.base) I.ok.mod.kin hk (wpAny_mono (ha cpos pins s σ H _ (I.wish _) h) (fun us s1 q => ?_) fun _ _ z => z.elim) he hpl
  obtain ⟨vs, H1, I1', r, q⟩ := q
  have I1 : Inv X pins σ H1 s1 := I1'.unwish
  refine ⟨I1.kIn, ?_⟩
  have hl : us.length = ps.length := by rw [← r.length]; exact F.len _ _ _ _ q
  have hb2 := hb s1 us I1.kIn (by rw [List.append_nil]; exact hl)
  rw [List.append_nil] at hb2
  refine wpAny_call (codeAny_mono (F.run X.A X.stack s1 H1 ⟨us, []⟩ us vs _ _ hr I1.env0 hb2 r q) fun res s' hq => ?_)
  cases res with
  | error e =>
    obtain ⟨a, C, H2, rfl, x, hit, hts⟩ := hq
    exact land0 (ts := tss a) I1 x hst hf hg hm hit (hs a) (hts a) hd
  | ok fl =>
    cases fl with
    | ret u =>
      obtain ⟨v, H2, I2, r2, q2⟩ := I1.after hq
      exact wpAny_execs_nil (wpAny_execs_nil ⟨_, H2, I2, q2⟩)
    | next => exact False.elim hq
    | brk => exact False.elim hq
    | cont => exact False.elim hq
end
section
variable {K : PySem.W.Frag} {f : Fx} {ρ : DEnv} {E : XK} {te : TE} {ts tu : TS} {tt : TT} {t : TA} {P : PyData → Prop} {D : DEnds}
theorem s_tryE {γ : Type} {n : Nat} {pre : γ → List DV → Prop} {post : γ → PyData → Prop} {exc : γ → Value → Prop} {C0 : Addr} {tss : Addr → TS} (c : γ)
    (h : PAd K f t ρ fun xs => xs.length = n ∧ pre c xs ∧ (∀ r, post c r → D.nx ρ) ∧ ∀ C, exc c C → PySem.W.exmOne K C (.ref C0) = some true ∧ ∀ a, PSd K f (tss a) ρ D) :
    PSd K f (tTryE K C0 (spX K n pre post exc) t tss) ρ D := fun σ H N e nx rt bk ct =>
  h σ H _ e fun xs vs H1 g1 r1 ⟨hl, hp, k, kz⟩ => by
    refine ⟨f, xs, c, r1, hl, g1.2, hp, fun r v H' g' r' p' => nx _ _ H' (g1.trans g') (e.mono (g1.trans g')) (k r p'), fun C H' g' p' => ?_⟩
    obtain ⟨hit, hs⟩ := kz C p'
    refine ⟨hit, fun a => ?_⟩
    have gg := g1.trans g'
    exact hs a _ _ _ (e.mono gg) (fun ρ' σ' H'' g'' e'' p'' => nx _ _ H'' (gg.trans g'') e'' p'') (fun d v H'' g'' r'' p'' => rt d v H'' (gg.trans g'') r'' p'') (fun ρ' σ' H'' g'' e'' p'' => bk _ _ H'' (gg.trans g'') e'' p'') (fun ρ' σ' H'' g'' e'' p'' => ct _ _ H'' (gg.trans g'') e'' p'')
theorem d_neg (h : PEd K f te ρ fun x => ∃ i, x = .int i ∧ P (.int (-i))) : PEd K f (tUn (rU fun i => .int (-i)) te) ρ P :=
  d_un (h.imp fun x ⟨i, ex, p⟩ v H Q fo r q => by
    subst ex
    exact ⟨i, rep_int.mp r, q _ _ H (.refl fo) (rep_int.mpr rfl) p⟩)
theorem d_isI {n : String} {b : Bool} (hk : PySem.W.kitOne K (.type "int") (.type n) = some b) (h : PEd K f te ρ fun d => ∃ i, d = .int i ∧ P (.bool b)) : PEd K f (tCB (rIsi K) (tCons te (tCons (tC (.ty n)) tNil))) ρ P := fun σ H Q e q => h σ H _ e fun d v H1 g r ⟨i, ed, p⟩ => by
  subst ed
  rw [rep_int.mp r]
  exact ⟨_, n, b, rfl, .inr (.inr ⟨_, .int i, hk⟩), q _ _ H1 g (rep_bool.mpr rfl) p⟩
/-- // by a divisor of either sign -/
def CDivZ (i j : Int) : Prop := j ≠ 0 ∧ -1152921504606846976 < j ∧ j < 1152921504606846976
theorem op_fdivZ {X : Cx} : OpR X (binaryOp .FloorDiv) (rI CDivZ fun i j => .int (i.fdiv j)) := opI fun i j _ _ _ _ _ hc q => by
  obtain ⟨h1, h2, h3⟩ := hc
  refine floordiv_int h1 q (.inl (PyProof.noPylong_of_log2 ?_))
  have h0 : j.natAbs ≠ 0 := by omega
  have : j.natAbs.log2 < 60 := (Nat.log2_lt h0).mpr (by omega)
  omega
end
end L2
end
section
set_option Elab.async false
set_option linter.all false
set_option maxRecDepth 100000
set_option maxHeartbeats 4000000
namespace L2
open PySem PySem.Spec PyProof.Rows
section
variable {X : Cx}
theorem op_notInD (hu : X.A.units + 64 < cLine) : OpR X (compareOp .NotIn) (rInD X.K true) := by
  intro pins s σ H x y v u Q I rx ry h
  obtain ⟨d, ds, h1, h2, c1, c2, dd, q⟩ := h
  obtain ⟨a, xs, rfl, hq, hr⟩ := rep_list.mp h2
  cases ry
  obtain ⟨bs, rb⟩ := reads_of I d x v h1 rx
  obtain ⟨its, r, pl, hz⟩ := I.list hq
  refine SeqAt.notIn_listAt (eqR s.heap d) pl.isList (fun w hw => each_eqR I rb c1 dd (show X.A.in1.units + 60 < cLine from by show X.A.units + 1 + 60 < cLine; omega) hr r c2 w (by simpa using hw)) ⟨.bl _, H, I, rfl, ?_⟩
  rw [show its.toArray.any (eqR s.heap d) = its.any (eqR s.heap d) by simp, any_eqR I hr r c2]
  exact q
theorem op_notInDK {K : PySem.W.Frag} (hK : X.K = K) (hu : X.A.units + 64 < cLine) : OpR X (compareOp .NotIn) (rInD K true) := hK ▸ op_notInD hu
end
section
variable {K : PySem.W.Frag} {f : Fx} {ρ : DEnv} {P : PyData → Prop} {te ta tb : TE}
theorem d_notinD (h : PEd K f ta ρ fun d => PEd K f tb ρ fun y => ∃ ds, y = .list ds ∧ d.canLay0 = true ∧ (∀ e ∈ ds, e.canLay0 = true) ∧ d.depth ≤ 50 ∧ P (.bool (!ds.any fun e => PyData.eqv e d))) : PEd K f (tOp (rInD K true) ta tb) ρ P := fun σ H Q e q =>
  h σ H _ e fun d v H1 g1 r1 p1 => p1 σ H1 _ (e.mono g1) fun y w H2 g2 r2 ⟨ds, ey, c1, c2, dd, p2⟩ => by
    subst ey
    exact ⟨d, ds, Rep.mono (hide_same _ _) _ _ (Rep.mono g2.sm _ _ r1), Rep.mono (hide_same _ _) _ _ r2, c1, c2, dd, q _ _ H2 (g1.trans g2) (rep_bool.mpr rfl) p2⟩
end
end L2
end
section
set_option Elab.async false
set_option linter.all false
set_option maxRecDepth 100000
set_option maxHeartbeats 4000000
namespace L2
open PySem PySem.Spec PyProof.Rows
/-- * of two numbers below 2 ^ 100 -/
def CMulB (i j : Int) : Prop := (-1267650600228229401496703205376 < i ∧ i < 1267650600228229401496703205376) ∧ (-1267650600228229401496703205376 < j ∧ j < 1267650600228229401496703205376)
theorem bits_le_100 {k : Int} (h1 : -1267650600228229401496703205376 < k) (h2 : k < 1267650600228229401496703205376) : Builtin.Int.intBits k ≤ 100 := by
  unfold Builtin.Int.intBits
  split
  · exact Nat.zero_le _
  · have hn : k.natAbs < 2 ^ 100 := by
      have : (2 : Nat) ^ 100 = 1267650600228229401496703205376 := by decide +kernel
      omega
    have : k.natAbs.log2 < 100 := by
      rcases Nat.eq_zero_or_pos k.natAbs with h0 | hp
      · rw [h0]; decide
      · exact (Nat.log2_lt (Nat.ne_of_gt hp)).mpr hn
    omega
theorem CMulB.ok {i j : Int} (h : CMulB i j) : IntMulOk i j := by
  obtain ⟨⟨a, b⟩, c, d⟩ := h
  have e1 := bits_le_100 a b
  have e2 := bits_le_100 c d
  have : Builtin.Int.intTooBig ((Builtin.Int.intBits i : Int) + (Builtin.Int.intBits j : Int)) = false := by
    unfold Builtin.Int.intTooBig
    refine decide_eq_false ?_
    have : (1000 : Int) ≤ (bitsLine : Int) := by decide +kernel
    omega
  unfold IntMulOk
  rw [this, Bool.and_false]
  exact Bool.false_ne_true
theorem op_mulB {X : Cx} : OpR X (binaryOp .Mult) (rI CMulB fun i j => .int (i * j)) := opI fun _ _ _ _ _ _ _ hc q => mul_int q hc.ok
end L2
end
section
set_option Elab.async false
set_option linter.all false
set_option maxRecDepth 100000
set_option maxHeartbeats 4000000
namespace L2
open PySem PySem.Spec PyProof.Rows
/-! list(reversed(x)), in one piece -/
section
variable {P : Program} {w : World} {A : Around} {X : Value → Shared → Prop} {s : Shared} {it l : Addr} {xs : Array Value}
/-- a reversed iterator over a list says nothing of its length -/
theorem rev_silent {A : Around} {Q : Bool → Shared → Prop} (ty : s.TypeIs (.ref it) "list_reverseiterator") (q : Q false s) : wpAny (model P w) A (Builtin.List.listLengthHint (.ref it)) Q X s := by
  have no : typeLookup (.type "list_reverseiterator") "__len__" = pure none := by rw [typeLookup_type, builtinLookup_eq_fast]; kernel_rfl
  have yes : typeLookup (.type "list_reverseiterator") "__length_hint__" = pure (some (.builtin "list_reverseiterator.__length_hint__")) := by rw [typeLookup_type, builtinLookup_eq_fast]; kernel_rfl
  unfold Builtin.List.listLengthHint
  apply wpAny_bind; apply wpAny_specialOf ty no
  show wpAny _ A (specialOf _ (Str.ofString "__length_hint__") >>= _) _ _ _
  apply wpAny_bind; apply wpAny_specialOf ty yes
  generalize e : ("list_reverseiterator.__length_hint__" : String) = id0
  wp_delta
  have sp : splitId id0 = some ("list_reverseiterator", "__length_hint__") := by rw [← e]; decide +kernel
  rw [sp]
  subst e
  apply wpAny_bind
  apply wpAny_isInstance (T := "list_reverseiterator") (b := true) ty (by rw [isSubtype_type]; kernel_rfl)
  repeat' (refine wpAny_ite_split (fun z => ?_) (fun z => ?_))
  all_goals first
    | exact wpAny_pure q
    | exact absurd z (by decide)
    | exact absurd z (by decide +kernel)
    | exact absurd (by decide +kernel) z
/-- the new list has the items from the last to the first; all but the iterator stays -/
theorem call_list_rev {Q : Value → Shared → Prop} (hh : A.handled = none) (ne : l ≠ it) (hit : s.heap.IsRevIter it l ((xs.size : Int) - 1)) (hl : s.heap.IsList l xs) (small : xs.size ≤ sizeLine)
    (q : ∀ h' tk ys c, (∀ b o, b ≠ it → s.heap.get? b = some o → h'.get? b = some o) → h'.get? s.heap.objs.size = some { cls := .type "list", dict := none, data := .seq ys c, slots := #[] } →
      ItemsOf (fun i v => xs[xs.size - 1 - i]? = some v) ys xs.size → Q (.ref s.heap.objs.size) { s with heap := h', toks := tk }) :
    wpAny (model P w) A (call (.type "list") [.ref it]) Q X s := by
  let D := s.heap.objs.size
  have below : ∀ b o, s.heap.get? b = some o → b ≠ D := fun b o e z => Nat.lt_irrefl D (by have := Heap.lt_size e; rwa [z] at this)
  have nit : it ≠ D := let ⟨o, e, _⟩ := hit; below it o e
  have nl : l ≠ D := let ⟨o, e, _⟩ := hl; below l o e
  let h1 : Heap := s.heap.push { cls := .type "list", data := .seq #[] }
  have at1 : h1.get? D = some { cls := .type "list", data := .seq #[] } := Heap.get?_push_size _ rfl
  let h2 : Heap := h1.update D (Obj.mapSeq fun _ => #[])
  have at2 := Heap.get?_update_self (Obj.mapSeq fun _ => (#[] : Array Value)) at1 rfl
  have stay : ∀ b o, s.heap.get? b = some o → h2.get? b = some o := fun b o e =>
    (Heap.get?_update_other _ _ (Ne.symm (below b o e))).trans (Heap.get?_push_of_some _ e)
  have ty : ({ s with heap := h2 } : Shared).TypeIs (.ref it) "list_reverseiterator" := (hit.at fun o e => stay it o e).typeIs
  have walk := (Walks.listRev (prog := P) (w := w) (A := A.in1.in1) hh it l ne xs).toS
  refine callType_codes (Q₁ := fun v t => v = .ref D ∧ t = { s with heap := h1 }) F.called_list (F.typeCall_list_1 _) F.entry_list_init (code_list_new _ ⟨rfl, rfl⟩) ?_
  rintro _ _ ⟨rfl, rfl⟩
  refine ⟨⟨_, at1, rfl⟩, F.args_list_init_2 _ _, ?_⟩
  show wpAny _ A.in1.in1 (Builtin.List.listItems (.ref D) >>= fun old => Builtin.List.listUpdate (.ref D) (fun _ => #[]) >>= fun _ => letGo old.toList.reverse >>= fun _ => Builtin.List.listExtendWith (.ref D) (.ref it) .none) _ _ _
  unfold Builtin.List.listItems
  apply wpAny_bind; apply wpAny_bind
  apply wpAny_seqItems at1 rfl; apply wpAny_pure
  show wpAny _ A.in1.in1 (updateSeq D (fun _ => #[]) >>= fun _ => letGo [] >>= fun _ => Builtin.List.listExtendWith (.ref D) (.ref it) .none) _ _ _
  apply wpAny_bind; apply wpAny_updateSeq at1 rfl
  apply wpAny_bind; apply wpAny_letGo
  unfold Builtin.List.listExtendWith
  apply wpAny_bind; apply wpAny_typeOf ty
  have other : Builtin.List.listSameRef (.ref D) (.ref it) = false := by simp [Builtin.List.listSameRef, Ne.symm nit]
  rw [other]
  have k2 : (Value.type "list_reverseiterator" == Value.type "list" || Value.type "list_reverseiterator" == Value.type "tuple") = false := by decide
  simp only [k2, Bool.false_or, Bool.false_eq_true, if_false]
  have start : (0 : Nat) ≤ xs.size ∧ h2.IsRevIter it l ((xs.size : Int) - 1 - ((0 : Nat) : Int)) ∧ h2.IsList l xs := by
    refine ⟨Nat.zero_le _, ?_, hl.at fun o e => stay l o e⟩
    rw [Int.natCast_zero, Int.sub_zero]
    exact hit.at fun o e => stay it o e
  apply wpAny_bind; apply walk.self 0 _ _ _ start
  apply wpAny_bind; apply wpAny_holding; apply rev_silent ty
  refine wpAny_ite_split (fun z => absurd z (by decide +kernel)) fun _ => wpAny_pure ⟨plainId_quiet F.plain_extend_loop _, ?_⟩
  refine codeAny_extend_loopS walk small D (by simp [Ne.symm nit, Ne.symm nl]) _ _ 0 _ _ _ rfl (Nat.zero_le _) start at2 (ItemsOf.nil _) fun s' ys c mv at' its => ?_
  have go : ∀ b o, b ≠ it → s.heap.get? b = some o → s'.heap.get? b = some o := fun b o nb e =>
    mv.heap b o (by simp [nb]; exact below b o e) (stay b o e)
  rw [Moved.eq_with mv]
  exact ⟨rfl, q s'.heap s'.toks ys c go at' its⟩
end
end L2
end
section
set_option Elab.async false
set_option linter.all false
set_option maxRecDepth 100000
set_option maxHeartbeats 4000000
namespace L2
open PySem PySem.Spec PyProof.Rows
theorem items_rev {its : List Value} {acc : Array Value} (h : ItemsOf (fun i v => its.toArray[its.toArray.size - 1 - i]? = some v) acc its.toArray.size) : acc.toList = its.reverse := by
  obtain ⟨h1, h2⟩ := h
  have h1' : acc.toList.length = its.length := by simpa using h1
  refine List.ext_getElem? fun j => ?_
  by_cases hj : j < its.length
  · have hj' : j < acc.size := by rw [h1]; simpa using hj
    have := h2 j acc[j] (Array.getElem?_eq_getElem hj')
    rw [List.getElem?_reverse hj, Array.getElem?_toList, Array.getElem?_eq_getElem hj', ← this]
    simp
  · rw [List.getElem?_eq_none (by omega), List.getElem?_eq_none (by rw [List.length_reverse]; omega)]
def tLRev (K : PySem.W.Frag) (te : TE) : TE := fun σ H Q => tCons te tNil σ H fun vs H1 => ∃ a ys, vs = [.ref a] ∧ SqL K H1 a ys ∧ ∀ l, H1 l = none → Q (.ref l) (upd H1 l (.lst ys.reverse))
section
variable {X : Cx} {x y : Str} {p p2 pos pos2 : Pos} {e : Expr} {te : TE}
/-- list(reversed(e)) -/
theorem pe_listRev {K : PySem.W.Frag} (hK : X.K = K) (hc : X.calm = true) (hg : Gl X x) (hm : X.mg x = none) (hv : bootBuiltins x = some (.type "list")) (hg2 : Gl X y) (hm2 : X.mg y = none) (hv2 : bootBuiltins y = some (.type "reversed")) (ha : PE X e te)
    (hs : starEach [e] X.env = (false, eval e X.env) :: starEach [] X.env := by rfl)
    (hn : x ≠ "__name__" := by decide) (hdb : (x == ("__debug__" : Str)) = false := by decide) (hn2 : y ≠ "__name__" := by decide) (hdb2 : (y == ("__debug__" : Str)) = false := by decide)
    (he : starEach [.Call (.Name y p2) [e] [] pos2] X.env = (false, eval (.Call (.Name y p2) [e] [] pos2) X.env) :: starEach [] X.env := by rfl) :
    PE X (.Call (.Name x p) [.Call (.Name y p2) [e] [] pos2] [] pos) (tLRev K te) := by
  subst hK
  intro pins s σ H Q I h
  refine wpAny_Call_Name_kw (ld_blt I hg hm hv ?_ hn hdb)
  refine PyProof.Rows.callWith_type1 ?_ he rfl
  rw [he]
  show wpAny _ _ (spliced ((false, eval (.Call (.Name y p2) [e] [] pos2) X.env) :: backTo pos (starEach [] X.env))) _ _ s
  refine Calls.spliced_cons ?_
  refine wpAny_Call_Name_kw (ld_blt I hg2 hm2 hv2 ?_ hn2 hdb2)
  refine PyProof.Rows.callWith_type1 (thn (pa_cons ha pa_nil hs pos2 pins s σ H _ I h) fun us s1 ⟨vs, H1, I1, r1, q1⟩ => ?_) hs rfl
  obtain ⟨a, ys, rfl, hq, q⟩ := q1
  obtain ⟨u, rfl, rx⟩ := vals1 r1
  cases rx
  obtain ⟨its, rv, pl, hz⟩ := I1.list hq
  have hl := pl.isList
  have lt : a < s1.heap.objs.size := by
    obtain ⟨o, ho, _⟩ := hl
    exact Heap.lt_size ho
  refine call_reversed_list hl ?_
  refine Calls.spliced_nil ?_
  refine call_list_rev (show (X.A).handled = none from I1.ok.hd hc) (xs := its.toArray) (Nat.ne_of_lt lt) ⟨_, Heap.get?_push_size _ rfl, rfl, rfl⟩ (hl.at fun o e => Heap.get?_push_of_some _ e) (by rw [List.size_toArray, ← rv.length]; exact hz) fun h' tk acc' c' hk hS' hacc => ?_
  have kp : ∀ b o, s1.heap.get? b = some o → h'.get? b = some o := fun b o e => hk b o (fun z => by
    have := Heap.lt_size e
    rw [z] at this
    exact Nat.lt_irrefl _ this) (Heap.get?_push_of_some _ e)
  have sz : (s1.heap.push (revObj a ((its.toArray.size : Int) - 1))).objs.size = s1.heap.objs.size + 1 := by simp [Heap.push]
  have ea := items_rev hacc
  refine ⟨.ref _, _, I1.laid (a := (s1.heap.push (revObj a ((its.toArray.size : Int) - 1))).objs.size) (t' := tk) kp (by rw [sz]; exact Nat.le_succ _) (o := .lst ys.reverse) ?_, rfl, q _ (I1.hok.fresh (by rw [sz]; exact Nat.le_succ _))⟩
  refine ⟨by rw [List.length_reverse]; exact hz, its.reverse, c', rv.reverse, ?_⟩
  rw [← ea]
  exact hS'
end
section
variable {K : PySem.W.Frag} {f : Fx} {ρ : DEnv} {P : PyData → Prop} {te : TE}
theorem reps_rev {H : Hp} {ds : List PyData} {xs : List V} (r : Reps K H ds xs) : Reps K H ds.reverse xs.reverse := by
  induction ds generalizing xs with
  | nil =>
    rw [reps_nil.mp r]
    exact reps_nil.mpr rfl
  | cons d ds ih =>
    obtain ⟨x, r', rfl, h1, h2⟩ := reps_cons.mp r
    rw [List.reverse_cons, List.reverse_cons]
    exact (ih h2).append (reps_cons.mpr ⟨x, [], rfl, h1, reps_nil.mpr rfl⟩)
theorem d_listRev (h : PEd K f te ρ fun x => ∃ ds, x = .list ds ∧ P (.list ds.reverse)) : PEd K f (tLRev K te) ρ P := fun σ H Q e q => h σ H _ e fun x v H1 g1 r1 ⟨ds, ex, p⟩ => by
  subst ex
  obtain ⟨a, xs, rfl, h1, h2⟩ := rep_list.mp r1
  refine ⟨a, xs, rfl, (hide_same _ _).seq h1, fun l hn => ?_⟩
  have sm := same_new hn (.lst xs.reverse)
  have g2 : Goes f H1 (upd H1 l (.lst xs.reverse)) := .of_same sm g1.2
  exact q (.list ds.reverse) _ _ (g1.trans g2) (rep_list.mpr ⟨l, xs.reverse, rfl, .of (hide_get (fresh_ne g1.2 hn) upd_same), Reps.mono g2.1 _ _ (reps_rev h2)⟩) p
end
/-! ### sum of a list of ints -/
def rSum (K : PySem.W.Frag) : List V → Hp → VK → Prop := fun xs H Q => ∃ (a : Addr) (ns : List Int), xs = [.ref a] ∧ SqL K H a (ns.map V.int) ∧ Q (.int ns.sum) H
theorem call_sumR {X : Cx} (hc : X.calm = true) : CallR X (.builtin "sum") (rSum X.K) := by
  intro pins s σ H xs us Q I r h
  obtain ⟨a, ns, rfl, hq, q⟩ := h
  obtain ⟨u, rfl, r1⟩ := vals1 r
  cases r1
  obtain ⟨its, rv, p, _⟩ := I.list hq
  have hl := p.isList
  have hi : IntsAre its ns := intsAre_of rv
  obtain ⟨zs, ez⟩ := hi.allInts.items
  rw [ez] at hl
  refine sum_intListG (show (X.A).handled = none from I.ok.hd hc) hl fun h' tk t' kp => ⟨.int _, H, I.kept (t' := tk) kp, ⟨_, rfl⟩, ?_⟩
  have e : preSum (numAt zs) zs.size = ns.sum := by
    rw [← hi.numsOf, show its = its.toArray.toList from rfl, ez, nums_intItems, preSum_eq, List.take_of_length_le (by simp)]
  rw [e]
  exact q
theorem call_sumRK {X : Cx} {K : PySem.W.Frag} (hK : X.K = K) (hc : X.calm = true) : CallR X (.builtin "sum") (rSum K) := hK ▸ call_sumR hc
section
variable {K : PySem.W.Frag} {f : Fx} {ρ : DEnv} {P : PyData → Prop} {te : TE}
theorem d_sum (h : PEd K f te ρ fun x => ∃ ns : List Int, x = .list (ns.map .int) ∧ P (.int ns.sum)) : PEd K f (tCB (rSum K) (tCons te tNil)) ρ P := fun σ H Q e q => h σ H _ e fun x v H1 g1 r1 ⟨ns, ex, p⟩ => by
  subst ex
  obtain ⟨a, xs, rfl, h1, h2⟩ := rep_list.mp r1
  rw [h2.ints] at h1
  exact ⟨a, ns, rfl, (hide_same _ _).seq h1, q _ _ H1 g1 (rep_int.mpr rfl) p⟩
end
end L2
end
section
set_option Elab.async false
set_option linter.all false
set_option maxRecDepth 100000
set_option maxHeartbeats 4000000
namespace L2
open PySem PySem.Spec PyProof.Rows
section
variable {prog : Program} {w : World} {A : Around} {E : Value → Shared → Prop} {s : Shared}
theorem cat_lst {t b : Addr} {vs ws : List Value} {Q : Value → Shared → Prop} (ht : PlainL s.heap t vs.toArray) (hb : PlainL s.heap b ws.toArray)
    (h2 : Q (.ref s.heap.objs.size) { s with heap := s.heap.push { cls := .type "list", data := .seq (vs ++ ws).toArray } })
    (hsz : vs.length + ws.length ≤ sizeLine) : wpAny (model prog w) A (binaryOp .Add (.ref t) (.ref b)) Q E s := by
  obtain ⟨⟨cls, dd, data, sl⟩, n, ho, hc, _, hd⟩ := ht
  obtain ⟨⟨cls2, dd2, data2, sl2⟩, n2, ho2, hc2, _, hd2⟩ := hb
  simp only at hc hd hc2 hd2
  subst hc hd hc2 hd2
  have e : vs.toArray ++ ws.toArray = (vs ++ ws).toArray := by simp
  refine concat_meets ⟨_, ho, rfl⟩ ⟨_, ho2, rfl⟩ noFill_list_add seq_list_add PySem.F.slot_list_add PySem.F.entry_list_add (PySem.F.args_list_add_2 _ _) (list_addW t b vs.toArray ws.toArray n n2 dd dd2 sl sl2 (by rw [List.size_toArray, List.size_toArray]; exact hsz)) ⟨ho, ho2, ?_⟩
  rw [e]
  exact h2
theorem cat_tupA {t b : Addr} {vs ws : List Value} {Q : Value → Shared → Prop} (ht : IsTup s.heap t vs.toArray) (hb : IsTup s.heap b ws.toArray) (h0 : vs = [] → Q (.ref b) s)
    (h1 : ws = [] → Q (.ref t) s) (h2 : vs ≠ [] → ws ≠ [] → Q (.ref s.heap.objs.size) { s with heap := s.heap.push { cls := .type "tuple", data := .seq (vs ++ ws).toArray } })
    (hsz : vs.length + ws.length ≤ sizeLine) : wpAny (model prog w) A (binaryOp .Add (.ref t) (.ref b)) Q E s := by
  by_cases hv : vs = []
  · obtain ⟨⟨cls, dd, data, sl⟩, ho, hc, n, hd⟩ := id ht
    obtain ⟨⟨cls2, dd2, data2, sl2⟩, ho2, hc2, n2, hd2⟩ := id hb
    simp only at hc hd hc2 hd2
    subst hc hd hc2 hd2
    exact concat_meets ⟨_, ho, rfl⟩ ⟨_, ho2, rfl⟩ noFill_tuple_add seq_tuple_add PySem.F.slot_tuple_add PySem.F.entry_tuple_add (PySem.F.args_tuple_add_2 _ _)
      (tuple_addW0 t b vs.toArray ws.toArray n n2 dd dd2 sl sl2 (by simp [hv])) ⟨ho, ho2, h0 hv⟩
  · exact HT.cat_tup ht hb hv h1 (h2 hv) hsz
end
def rCatL (K : PySem.W.Frag) : R2 := fun x y H Q => ∃ l b xs zs, x = .ref l ∧ y = .ref b ∧ SqL K H l xs ∧ SqL K H b zs ∧ xs.length + zs.length ≤ sizeLine ∧ ∀ p, H p = none → Q (.ref p) (upd H p (.lst (xs ++ zs)))
def rCatA (K : PySem.W.Frag) : R2 := fun x y H Q => ∃ a b xs ys, x = .ref a ∧ y = .ref b ∧ SqT K H a xs ∧ SqT K H b ys ∧ xs.length + ys.length ≤ sizeLine ∧ (xs = [] → Q (.ref b) H) ∧ (ys = [] → Q (.ref a) H) ∧ (xs ≠ [] → ys ≠ [] → ∀ p, H p = none → Q (.ref p) (upd H p (.tup (xs ++ ys))))
section
variable {X : Cx}
theorem op_catL : OpR X (binaryOp .Add) (rCatL X.K) := by
  intro pins s σ H x y v u Q I rx ry h
  obtain ⟨l, b, xs, zs, rfl, rfl, ha, hb, hz, q⟩ := h
  cases rx
  cases ry
  obtain ⟨its, r1, p1, _⟩ := I.list ha
  obtain ⟨its2, r2, p2, _⟩ := I.list hb
  refine cat_lst p1 p2 ?_ (by rw [← r1.length, ← r2.length]; exact hz)
  exact ⟨.ref _, _, I.lnew (t' := s.toks) (r1.append r2) (by rw [List.length_append]; omega), rfl, q _ I.fresh⟩
theorem op_catA : OpR X (binaryOp .Add) (rCatA X.K) := by
  intro pins s σ H x y v u Q I rx ry h
  obtain ⟨a, b, xs, ys, rfl, rfl, ha, hb, hz, q0, q1, q2⟩ := h
  cases rx
  cases ry
  obtain ⟨its, r1, p1, _⟩ := I.tuple ha
  obtain ⟨its2, r2, p2, _⟩ := I.tuple hb
  refine cat_tupA p1 p2 (fun z => ⟨.ref b, H, I, rfl, q0 (r1.nil_iff.mp z)⟩) (fun z => ⟨.ref a, H, I, rfl, q1 (r2.nil_iff.mp z)⟩) (fun z z2 => ?_) (by rw [← r1.length, ← r2.length]; exact hz)
  refine ⟨.ref s.heap.objs.size, _, I.laid (t' := s.toks) (o := .tup (xs ++ ys)) (fun b ob q => Heap.get?_push_of_some _ q) (Nat.le_refl _) ?_, rfl, q2 (fun w => z (r1.nil_iff.mpr w)) (fun w => z2 (r2.nil_iff.mpr w)) _ (I.hok.fresh (Nat.le_refl _))⟩
  exact ⟨by rw [List.length_append]; exact hz, _, r1.append r2, IsTup.new _ _⟩
theorem op_catLK {K : PySem.W.Frag} (hK : X.K = K) : OpR X (binaryOp .Add) (rCatL K) := hK ▸ op_catL
theorem op_catAK {K : PySem.W.Frag} (hK : X.K = K) : OpR X (binaryOp .Add) (rCatA K) := hK ▸ op_catA
end
section
variable {K : PySem.W.Frag} {f : Fx} {ρ : DEnv} {P : PyData → Prop} {te ta tb : TE} {t : TA}
theorem d_catL (h : PEd K f ta ρ fun x => ∃ ds, x = .list ds ∧ PEd K f tb ρ fun y => ∃ es, y = .list es ∧ ds.length + es.length ≤ 1000 ∧ P (.list (ds ++ es))) : PEd K f (tOp (rCatL K) ta tb) ρ P := fun σ H Q e q =>
  h σ H _ e fun x v H1 g1 r1 ⟨ds, ex, p1⟩ => p1 σ H1 _ (e.mono g1) fun y w H2 g2 r2 ⟨es, ey, hl, p2⟩ => by
    subst ex ey
    obtain ⟨a, xs, rfl, h1, h2⟩ := rep_list.mp (Rep.mono g2.sm _ _ r1)
    obtain ⟨b, ys, rfl, h3, h4⟩ := rep_list.mp r2
    have l1 := h2.length
    have l2 := h4.length
    refine ⟨a, b, xs, ys, rfl, rfl, (hide_same _ _).seq h1, (hide_same _ _).seq h3, by rw [l1, l2]; exact Nat.le_of_lt (small1000 hl), fun p hn => ?_⟩
    have g3 : Goes f H2 (upd H2 p (.lst (xs ++ ys))) := .of_same (same_new hn _) g2.ok
    exact q (.list (ds ++ es)) _ _ (g1.trans (g2.trans g3)) (rep_list.mpr ⟨p, _, rfl, .of (hide_get (fresh_ne g2.ok hn) upd_same), Reps.mono g3.sm _ _ (h2.append h4)⟩) p2
theorem d_catA (h : PEd K f ta ρ fun x => ∃ ds, x = .tuple ds ∧ PEd K f tb ρ fun y => ∃ es, y = .tuple es ∧ ds.length + es.length ≤ 1000 ∧ P (.tuple (ds ++ es))) : PEd K f (tOp (rCatA K) ta tb) ρ P := fun σ H Q e q =>
  h σ H _ e fun x v H1 g1 r1 ⟨ds, ex, p1⟩ => p1 σ H1 _ (e.mono g1) fun y w H2 g2 r2 ⟨es, ey, hl, p2⟩ => by
    subst ex ey
    have r1' := Rep.mono g2.sm _ _ r1
    obtain ⟨a, xs, rfl, h1, h2⟩ := rep_tuple.mp r1'
    obtain ⟨b, ys, rfl, h3, h4⟩ := rep_tuple.mp r2
    have l1 := h2.length
    have l2 := h4.length
    refine ⟨a, b, xs, ys, rfl, rfl, (hide_same _ _).seqT h1, (hide_same _ _).seqT h3, by rw [l1, l2]; exact Nat.le_of_lt (small1000 hl), fun z => ?_, fun z => ?_, fun z z2 p hn => ?_⟩
    · have : ds = [] := List.eq_nil_of_length_eq_zero (by rw [← l1, z]; rfl)
      subst this
      exact q _ _ _ (g1.trans g2) r2 p2
    · have : es = [] := List.eq_nil_of_length_eq_zero (by rw [← l2, z]; rfl)
      subst this
      rw [List.append_nil] at p2
      exact q _ _ _ (g1.trans g2) r1' p2
    · have g3 : Goes f H2 (upd H2 p (.tup (xs ++ ys))) := .of_same (same_new hn _) g2.ok
      exact q (.tuple (ds ++ es)) _ _ (g1.trans (g2.trans g3)) (rep_tuple.mpr ⟨p, _, rfl, .of (hide_get (fresh_ne g2.ok hn) upd_same), Reps.mono g3.sm _ _ (h2.append h4)⟩) p2
theorem o_lst {R : List PyData → Prop} (h : PAd K f t ρ fun xs => ∃ ds, allDat xs = some ds ∧ ds.length ≤ 1000 ∧ R ds) : PEdO K f (tLst t) ρ R := fun σ H Q e q =>
  h σ H _ e fun xs vs H1 g1 r1 ⟨ds, ea, hl, p⟩ => by
    have rs := reps_of r1 ea
    refine ⟨by rw [rs.length]; exact Nat.le_of_lt (small1000 hl), fun l hn => ?_⟩
    have g2 : Goes f H1 (upd H1 l (.lst vs)) := .of_same (same_new hn _) g1.2
    have nl := fresh_ne g1.2 hn
    refine q ds l vs _ (g1.trans g2) (g1.free e.fd hn) upd_same (Reps.mono (fun b o hb => ?_) _ _ rs) p
    have hb' := hide_of hb
    have hbl : b ≠ l := fun z => by
      have := hb'.2
      rw [z, hn] at this
      cases this
    refine hide_get (fun z => ?_) (by rw [upd_ne hbl]; exact hb'.2)
    rcases z with z | z
    · exact hb'.1 (.inl z)
    · rcases List.mem_cons.mp z with z | z
      · exact hbl z
      · exact hb'.1 (.inr z)
theorem d_cutT {tl th : TO} (h : PEd K f te ρ fun x => ∃ ds, x = .tuple ds ∧ POd K f tl ρ fun lo => POd K f th ρ fun hi => ¬ (HT.sIx ds.length 0 lo = 0 ∧ HT.sIx ds.length ds.length hi = ds.length) ∧ P (.tuple (L2.cutD ds lo hi))) : PEd K f (tSl (rSlT K) te tl th) ρ P := fun σ H Q e q =>
  h σ H _ e fun x v H1 g1 r1 ⟨ds, ex, p1⟩ => p1 σ H1 _ (e.mono g1) fun lo H2 g2 p2 => p2 σ H2 _ ((e.mono g1).mono g2) fun hi H3 g3 ⟨nw, p3⟩ => by
    subst ex
    have gg := g1.trans (g2.trans g3)
    obtain ⟨a, xs, rfl, h1, h2⟩ := rep_tuple.mp (Rep.mono (g2.trans g3).sm _ _ r1)
    refine ⟨a, xs, rfl, (hide_same _ _).seqT h1, by rw [h2.length]; exact nw, fun p hn => ?_⟩
    have g4 : Goes f H3 (upd H3 p (.tup (cutV xs lo hi))) := .of_same (same_new hn _) g3.ok
    exact q _ _ _ (gg.trans g4) (rep_tuple.mpr ⟨p, _, rfl, .of (hide_get (fresh_ne g3.ok hn) upd_same), Reps.mono g4.sm _ _ h2.cut⟩) p3
end
end L2
end
section
set_option Elab.async false
set_option linter.all false
set_option maxRecDepth 100000
set_option maxHeartbeats 4000000
namespace My
open PySem PySem.Spec PyProof.Rows L2
abbrev Pt := Int × Int
abbrev Ln := Bool × List Pt
abbrev Web := List Ln
structure Sg where
  k : Nat
  i : Nat
  p : Pt
  q : Pt
def ptD (p : Pt) : PyData := .tuple [.int p.1, .int p.2]
def wordD (b : Bool) : Str := if b then "ring" else "run"
def lnD (l : Ln) : PyData := .tuple [.str (wordD l.1), .tuple (l.2.map ptD)]
def webD (w : Web) : PyData := .list (w.map lnD)
def segD (s : Sg) : PyData := .tuple [.tuple [.int s.k, .int s.i], ptD s.p, ptD s.q]
def lsegD (s : Sg) : PyData := .tuple [.int s.k, .int s.i, .tuple [ptD s.p, ptD s.q]]
def mx (a b : Int) : Int := if b > a then b else a
def mn (a b : Int) : Int := if b < a then b else a
def turnF (a b c : Pt) : Int := (b.1 - a.1) * (c.2 - a.2) - (b.2 - a.2) * (c.1 - a.1)
def apartF (a b c d : Int) : Bool := decide (mx a b < mn c d) || decide (mx c d < mn a b)
def touchesF (a b c d : Pt) : Bool := !(apartF a.1 b.1 c.1 d.1 || apartF a.2 b.2 c.2 d.2) && (decide (turnF a b c * turnF a b d ≤ 0) && decide (turnF c d a * turnF c d b ≤ 0))
def backF (a m c : Pt) : Bool := decide (turnF a m c = 0) && decide ((a.1 - m.1) * (c.1 - m.1) + (a.2 - m.2) * (c.2 - m.2) > 0)
def manyF (l : Ln) : Nat := if l.1 then l.2.length else l.2.length - 1
def atP (ps : List Pt) (i : Nat) : Pt := ps.getD i (0, 0)
def lineSegs (k : Nat) (l : Ln) : List Sg := (List.range (manyF l)).map fun i => ⟨k, i, atP l.2 i, atP l.2 ((i + 1) % l.2.length)⟩
def segsF (w : Web) : List Sg := (w.mapIdx lineSegs).flatten
def lnAt (w : Web) (k : Nat) : Ln := w.getD k (false, [])
def closesF (w : Web) (k i l j : Nat) : Bool := (lnAt w l).1 && (decide (k = l ∧ i = 0) && decide ((j : Int) = (lnAt w l).2.length - 1))
def badF (w : Web) (s t : Sg) : Bool :=
  if s.k = t.k ∧ s.i + 1 = t.i then backF s.p s.q t.q else if closesF w s.k s.i t.k t.i = true then backF t.p t.q s.q else touchesF s.p s.q t.p t.q
def meetsF (w : Web) (s t : Sg) : Bool := if s.k = t.k ∧ s.i = t.i then decide (s.p = s.q) else badF w s t
def look (f : Sg → Sg → Bool) : List Sg → Option (Sg × Sg)
  | [] => none
  | s :: r => match (s :: r).find? (f s) with
    | some t => some (s, t)
    | none => look f r
def meetF (w : Web) : Option (Sg × Sg) := look (meetsF w) (segsF w)
def meetD : Option (Sg × Sg) → PyData
  | none => .none
  | some (s, t) => .tuple [.int s.k, .int s.i, .int t.k, .int t.i]
/-- near a place: all differences are small -/
structure Near (o p : Pt) : Prop where
  a : o.1 ≤ p.1
  b : p.1 ≤ o.1 + 4398046511104
  c : o.2 ≤ p.2
  d : p.2 ≤ o.2 + 4398046511104
theorem ite_b {b : Bool} {p q : Prop} (h1 : b = true → p) (h2 : b = false → q) : if b = true then p else q := by
  cases b with
  | true => rw [if_pos rfl]; exact h1 rfl
  | false => rw [if_neg Bool.false_ne_true]; exact h2 rfl
structure OkWeb (o : Pt) (w : Web) : Prop where
  len : w.length ≤ 20
  two : ∀ l ∈ w, 2 ≤ l.2.length
  few : ∀ l ∈ w, l.2.length ≤ 40
  near : ∀ l ∈ w, ∀ p ∈ l.2, Near o p
theorem bnd {B : Int} {x y : Int} (h1 : -B ≤ x) (h2 : x ≤ B) (h3 : -B ≤ y) (h4 : y ≤ B) : -(B * B) ≤ x * y ∧ x * y ≤ B * B := by
  have hB : 0 ≤ B := by omega
  have a : x.natAbs ≤ B.natAbs := by omega
  have b : y.natAbs ≤ B.natAbs := by omega
  have c : (x * y).natAbs ≤ (B * B).natAbs := by rw [Int.natAbs_mul, Int.natAbs_mul]; exact Nat.mul_le_mul a b
  have d : 0 ≤ B * B := Int.mul_nonneg hB hB
  omega
theorem turn_small {o a b c : Pt} (ha : Near o a) (hb : Near o b) (hc : Near o c) : -(1267650600228229401496703205376) < turnF a b c ∧ turnF a b c < 1267650600228229401496703205376 := by
  obtain ⟨a1, a2, a3, a4⟩ := ha
  obtain ⟨b1, b2, b3, b4⟩ := hb
  obtain ⟨c1, c2, c3, c4⟩ := hc
  have e1 := bnd (B := 4398046511104) (x := b.1 - a.1) (y := c.2 - a.2) (by omega) (by omega) (by omega) (by omega)
  have e2 := bnd (B := 4398046511104) (x := b.2 - a.2) (y := c.1 - a.1) (by omega) (by omega) (by omega) (by omega)
  unfold turnF
  omega
/-! signs -/
theorem prod_sign (x y : Int) : x * y ≤ 0 ↔ mn x y ≤ 0 ∧ 0 ≤ mx x y := by
  unfold mn mx
  rcases Int.lt_trichotomy x 0 with hx | hx | hx <;> rcases Int.lt_trichotomy y 0 with hy | hy | hy
  · have := Int.mul_pos_of_neg_of_neg hx hy
    constructor
    · intro h; omega
    · intro h; split at h <;> split at h <;> omega
  · subst hy; simp; constructor <;> intros <;> split <;> omega
  · have := Int.mul_neg_of_neg_of_pos hx hy
    constructor
    · intro _; constructor <;> split <;> omega
    · intro h; omega
  · subst hx; simp; constructor <;> intros <;> split <;> omega
  · subst hx hy; simp
  · subst hx; simp; constructor <;> intros <;> split <;> omega
  · have := Int.mul_neg_of_pos_of_neg hx hy
    constructor
    · intro _; constructor <;> split <;> omega
    · intro h; omega
  · subst hy; simp; constructor <;> intros <;> split <;> omega
  · have := Int.mul_pos hx hy
    constructor
    · intro h; omega
    · intro h; split at h <;> split at h <;> omega

theorem atI_mapP {α β : Type} {F : α → β} {xs : List α} {k : Int} {j : Nat} (hk : (j : Int) = k) (h : j < xs.length) : atI (xs.map F) k = some (F xs[j]) := by
  subst hk
  refine atI_nat ?_
  rw [List.getElem?_map, List.getElem?_eq_getElem h]
  rfl
theorem at_pts {ps : List Pt} {k : Int} {j : Nat} (hk : (j : Int) = k) (h : j < ps.length) : atI (ps.map ptD) k = some (ptD (atP ps j)) := by
  rw [atI_mapP hk h]
  unfold atP
  rw [List.getD_eq_getElem?_getD, List.getElem?_eq_getElem h]
  rfl
theorem at_web {w : Web} {k : Int} {j : Nat} (hk : (j : Int) = k) (h : j < w.length) : atI (w.map lnD) k = some (lnD (lnAt w j)) := by
  rw [atI_mapP hk h]
  unfold lnAt
  rw [List.getD_eq_getElem?_getD, List.getElem?_eq_getElem h]
  rfl
theorem lay_word (b : Bool) : (PyData.str (wordD b)).canLay0 = true := by cases b <;> decide +kernel
theorem word_ring (b : Bool) : PyData.eqv (.str (wordD b)) (.str "ring") = b := by cases b <;> rfl
theorem word_run (b : Bool) : PyData.eqv (.str (wordD b)) (.str "run") = !b := by cases b <;> rfl
theorem eqv_int (a b : Int) : PyData.eqv (.int a) (.int b) = decide (a = b) := rfl
theorem eqv_key (k i l j : Int) : PyData.eqv (.tuple [.int k, .int i]) (.tuple [.int l, .int j]) = decide (k = l ∧ i = j) := by
  show ((k == l) && ((i == j) && true)) = _
  rw [Bool.and_true, Bool.decide_and]
  rfl
theorem eqv_pt (a b : Pt) : PyData.eqv (ptD a) (ptD b) = decide (a = b) := by
  unfold ptD
  rw [eqv_key]
  congr 1
  rw [Prod.ext_iff]
theorem lay_pt (a : Pt) : (ptD a).canLay0 = true := rfl
theorem dep_pt (a b : Pt) : min (ptD a).depth (ptD b).depth ≤ 60 := by unfold ptD; simp [PyData.depth, PyData.depthAll]
def segsTo (w : Web) (n : Nat) : List Sg := ((w.take n).mapIdx lineSegs).flatten
theorem segsTo_succ {w : Web} {n : Nat} {l : Ln} (h : w[n]? = some l) : segsTo w (n + 1) = segsTo w n ++ lineSegs n l := by
  unfold segsTo
  have hn : n < w.length := (List.getElem?_eq_some_iff.mp h).1
  rw [List.take_add_one, h, List.mapIdx_append, List.flatten_append]
  congr 1
  simp [List.length_take, Nat.min_eq_left (Nat.le_of_lt hn)]
theorem segsTo_all (w : Web) : segsTo w w.length = segsF w := by
  unfold segsTo segsF
  rw [List.take_length]
theorem lineSegs_len (k : Nat) (l : Ln) : (lineSegs k l).length = manyF l := by unfold lineSegs; simp
theorem many_le (l : Ln) : manyF l ≤ l.2.length := by unfold manyF; split <;> omega
theorem segsTo_le {w : Web} (h : ∀ l ∈ w, l.2.length ≤ 40) : ∀ n, n ≤ w.length → (segsTo w n).length ≤ 40 * n
  | 0, _ => by simp [segsTo]
  | n + 1, hn => by
    have hl : w[n]? = some w[n] := List.getElem?_eq_getElem (by omega)
    rw [segsTo_succ hl, List.length_append, lineSegs_len]
    have := segsTo_le h n (by omega)
    have := h w[n] (List.getElem_mem _)
    have := many_le w[n]
    omega
theorem lineSegs_take {k m : Nat} {l : Ln} (h : m < manyF l) : (lineSegs k l).take (m + 1) = (lineSegs k l).take m ++ [⟨k, m, atP l.2 m, atP l.2 ((m + 1) % l.2.length)⟩] := by
  rw [List.take_add_one]
  congr 1
  unfold lineSegs
  rw [List.getElem?_map, List.getElem?_range h]
  rfl
theorem atP_mem {ps : List Pt} {i : Nat} (h : i < ps.length) : atP ps i ∈ ps := by
  unfold atP
  rw [List.getD_eq_getElem?_getD, List.getElem?_eq_getElem h]
  exact List.getElem_mem h
/-- what a segment of a web is -/
structure SegOf (w : Web) (s : Sg) : Prop where
  k : s.k < w.length
  i : s.i < manyF (lnAt w s.k)
  p : s.p = atP (lnAt w s.k).2 s.i
  q : s.q = atP (lnAt w s.k).2 ((s.i + 1) % (lnAt w s.k).2.length)
theorem seg_of {w : Web} {s : Sg} (h : s ∈ segsF w) : SegOf w s := by
  unfold segsF at h
  rw [List.mem_flatten] at h
  obtain ⟨L, h1, h2⟩ := h
  rw [List.mem_mapIdx] at h1
  obtain ⟨i, hi, rfl⟩ := h1
  unfold lineSegs at h2
  rw [List.mem_map] at h2
  obtain ⟨j, hj, rfl⟩ := h2
  rw [List.mem_range] at hj
  have e : lnAt w i = w[i] := by
    unfold lnAt
    rw [List.getD_eq_getElem?_getD, List.getElem?_eq_getElem hi]
    rfl
  exact ⟨hi, by rw [e]; exact hj, by rw [e], by rw [e]⟩
theorem lnAt_mem {w : Web} {k : Nat} (h : k < w.length) : lnAt w k ∈ w := by
  unfold lnAt
  rw [List.getD_eq_getElem?_getD, List.getElem?_eq_getElem h]
  exact List.getElem_mem h
theorem SegOf.near {o : Pt} {w : Web} {s : Sg} (x : SegOf w s) (g : OkWeb o w) : Near o s.p ∧ Near o s.q := by
  have m := lnAt_mem x.k
  have l2 := g.two _ m
  have hi := x.i
  have := many_le (lnAt w s.k)
  refine ⟨by rw [x.p]; exact g.near _ m _ (atP_mem (by omega)), by rw [x.q]; exact g.near _ m _ (atP_mem (Nat.mod_lt _ (by omega)))⟩
/-! looking for the first pair -/
theorem look_hit {f : Sg → Sg → Bool} {s t : Sg} {r : List Sg} {m : Nat} (ht : (s :: r)[m]? = some t) (h0 : ∀ u ∈ (s :: r).take m, f s u = false) (h1 : f s t = true) : look f (s :: r) = some (s, t) := by
  have e : (s :: r).find? (f s) = some t := by
    rw [List.find?_eq_some_iff_append]
    refine ⟨h1, (s :: r).take m, (s :: r).drop (m + 1), ?_, fun u hu => by rw [h0 u hu]; rfl⟩
    have hm : m < (s :: r).length := (List.getElem?_eq_some_iff.mp ht).1
    have := (List.getElem?_eq_some_iff.mp ht).2
    rw [← this, List.getElem_cons_drop, List.take_append_drop]
  show (match (s :: r).find? (f s) with | some t => some (s, t) | none => look f r) = _
  rw [e]
theorem look_miss {f : Sg → Sg → Bool} {s : Sg} {r : List Sg} (h0 : ∀ u ∈ s :: r, f s u = false) : look f (s :: r) = look f r := by
  have e : (s :: r).find? (f s) = none := by
    rw [List.find?_eq_none]
    intro u hu
    rw [h0 u hu]
    exact Bool.false_ne_true
  show (match (s :: r).find? (f s) with | some t => some (s, t) | none => look f r) = _
  rw [e]
end My
end
section
--mulb touches
set_option Elab.async false
set_option linter.all false
set_option maxRecDepth 100000
set_option maxHeartbeats 4000000
namespace My
open PySem PySem.Spec PyProof.Rows L2
def top (i : Nat) : Stmt := PySem.Challenge.pw_heightrings_k50_meetings.main.body.getD i (.Pass ⟨0, 0, 0, 0⟩)
abbrev s_meeting : Stmt := top 1
abbrev N_meeting : List Str := ["web", "some", "at", "one", "other"]
theorem sc_meeting : FnScope N_meeting ["web"] (defScope s_meeting) := ⟨rfl, rfl, rfl, by decide +kernel, rfl, by decide +kernel, by decide +kernel⟩
abbrev s_segments : Stmt := top 2
abbrev N_segments : List Str := ["web", "found", "k", "word", "path", "i"]
theorem sc_segments : FnScope N_segments ["web"] (defScope s_segments) := ⟨rfl, rfl, rfl, by decide +kernel, rfl, by decide +kernel, by decide +kernel⟩
abbrev s_many_segments : Stmt := top 3
abbrev N_many_segments : List Str := ["word", "path"]
theorem sc_many_segments : FnScope N_many_segments ["word", "path"] (defScope s_many_segments) := ⟨rfl, rfl, rfl, by decide +kernel, rfl, by decide +kernel, by decide +kernel⟩
abbrev s_meets : Stmt := top 4
abbrev N_meets : List Str := ["web", "one", "other", "first", "a", "b", "second", "c", "d"]
theorem sc_meets : FnScope N_meets ["web", "one", "other"] (defScope s_meets) := ⟨rfl, rfl, rfl, by decide +kernel, rfl, by decide +kernel, by decide +kernel⟩
abbrev s_closes : Stmt := top 5
abbrev N_closes : List Str := ["web", "first", "second", "word", "path"]
theorem sc_closes : FnScope N_closes ["web", "first", "second"] (defScope s_closes) := ⟨rfl, rfl, rfl, by decide +kernel, rfl, by decide +kernel, by decide +kernel⟩
abbrev s_turns_back : Stmt := top 6
abbrev N_turns_back : List Str := ["ahead", "between", "behind", "a", "b", "x", "y", "c", "d"]
theorem sc_turns_back : FnScope N_turns_back ["ahead", "between", "behind"] (defScope s_turns_back) := ⟨rfl, rfl, rfl, by decide +kernel, rfl, by decide +kernel, by decide +kernel⟩
abbrev s_turn : Stmt := top 7
abbrev N_turn : List Str := ["a", "b", "c"]
theorem sc_turn : FnScope N_turn ["a", "b", "c"] (defScope s_turn) := ⟨rfl, rfl, rfl, by decide +kernel, rfl, by decide +kernel, by decide +kernel⟩
abbrev s_touches : Stmt := top 8
abbrev N_touches : List Str := ["a", "b", "c", "d"]
theorem sc_touches : FnScope N_touches ["a", "b", "c", "d"] (defScope s_touches) := ⟨rfl, rfl, rfl, by decide +kernel, rfl, by decide +kernel, by decide +kernel⟩
abbrev s_apart : Stmt := top 9
abbrev N_apart : List Str := ["a", "b", "c", "d"]
theorem sc_apart : FnScope N_apart ["a", "b", "c", "d"] (defScope s_apart) := ⟨rfl, rfl, rfl, by decide +kernel, rfl, by decide +kernel, by decide +kernel⟩
abbrev s_law_feed : Stmt := top 11
abbrev N_law_feed : List Str := ["_law_script", "_law_k", "_law_cell"]
theorem sc_law_feed : FnScope N_law_feed ["_law_script", "_law_k"] (defScope s_law_feed) := ⟨rfl, rfl, rfl, by decide +kernel, rfl, by decide +kernel, by decide +kernel⟩
abbrev s_law_draw : Stmt := top 12
abbrev N_law_draw : List Str := ["_law_feed_here", "_law_many", "_law_found"]
theorem sc_law_draw : FnScope N_law_draw ["_law_feed_here", "_law_many"] (defScope s_law_draw) := ⟨rfl, rfl, rfl, by decide +kernel, rfl, by decide +kernel, by decide +kernel⟩
abbrev s_law_either : Stmt := top 13
abbrev N_law_either : List Str := ["_law_feed_here", "_law_row"]
theorem sc_law_either : FnScope N_law_either ["_law_feed_here", "_law_row"] (defScope s_law_either) := ⟨rfl, rfl, rfl, by decide +kernel, rfl, by decide +kernel, by decide +kernel⟩
abbrev s_law_chain : Stmt := top 14
abbrev N_law_chain : List Str := ["_law_feed_here", "_law_many", "_law_top", "_law_x", "_law_found", "_law_k"]
theorem sc_law_chain : FnScope N_law_chain ["_law_feed_here", "_law_many", "_law_top"] (defScope s_law_chain) := ⟨rfl, rfl, rfl, by decide +kernel, rfl, by decide +kernel, by decide +kernel⟩
abbrev s_law_ring : Stmt := top 15
abbrev N_law_ring : List Str := ["_law_feed_here", "_law_chain_here", "_law_top"]
theorem sc_law_ring : FnScope N_law_ring ["_law_feed_here", "_law_chain_here", "_law_top"] (defScope s_law_ring) := ⟨rfl, rfl, rfl, by decide +kernel, rfl, by decide +kernel, by decide +kernel⟩
abbrev s_law_bundle : Stmt := top 16
abbrev N_law_bundle : List Str := ["_law_feed_here", "_law_many", "_law_top", "_law_room", "_law_chain_here", "_law_copies", "_law_some", "_law_ring_here", "_law_at", "_law_web", "_law_x"]
theorem sc_law_bundle : FnScope N_law_bundle ["_law_feed_here", "_law_many", "_law_top", "_law_room"] (defScope s_law_bundle) := ⟨rfl, rfl, rfl, by decide +kernel, rfl, by decide +kernel, by decide +kernel⟩
abbrev s_law_clean : Stmt := top 17
abbrev N_law_clean : List Str := ["_law_feed_here", "_law_most", "_law_web", "_law_left", "_law_turn_here", "_law_many", "_law_by", "_law_far"]
theorem sc_law_clean : FnScope N_law_clean ["_law_feed_here", "_law_most"] (defScope s_law_clean) := ⟨rfl, rfl, rfl, by decide +kernel, rfl, by decide +kernel, by decide +kernel⟩
abbrev s_law_turn : Stmt := top 18
abbrev N_law_turn : List Str := ["_law_one", "_law_other", "_law_point", "_law_wide", "_law_high"]
theorem sc_law_turn : FnScope N_law_turn ["_law_one", "_law_other", "_law_point"] (defScope s_law_turn) := ⟨rfl, rfl, rfl, by decide +kernel, rfl, by decide +kernel, by decide +kernel⟩
abbrev s_law_apart : Stmt := top 19
abbrev N_law_apart : List Str := ["_law_one", "_law_other", "_law_k"]
theorem sc_law_apart : FnScope N_law_apart ["_law_one", "_law_other", "_law_k"] (defScope s_law_apart) := ⟨rfl, rfl, rfl, by decide +kernel, rfl, by decide +kernel, by decide +kernel⟩
abbrev s_law_touch : Stmt := top 20
abbrev N_law_touch : List Str := ["_law_one", "_law_other", "_law_k", "_law_first", "_law_second", "_law_third", "_law_last"]
theorem sc_law_touch : FnScope N_law_touch ["_law_one", "_law_other"] (defScope s_law_touch) := ⟨rfl, rfl, rfl, by decide +kernel, rfl, by decide +kernel, by decide +kernel⟩
abbrev s_law_folds : Stmt := top 21
abbrev N_law_folds : List Str := ["_law_one", "_law_middle", "_law_other", "_law_wide"]
theorem sc_law_folds : FnScope N_law_folds ["_law_one", "_law_middle", "_law_other"] (defScope s_law_folds) := ⟨rfl, rfl, rfl, by decide +kernel, rfl, by decide +kernel, by decide +kernel⟩
abbrev s_law_segments : Stmt := top 22
abbrev N_law_segments : List Str := ["_law_web", "_law_found", "_law_k", "_law_word", "_law_points", "_law_i"]
theorem sc_law_segments : FnScope N_law_segments ["_law_web"] (defScope s_law_segments) := ⟨rfl, rfl, rfl, by decide +kernel, rfl, by decide +kernel, by decide +kernel⟩
abbrev s_law_bad : Stmt := top 23
abbrev N_law_bad : List Str := ["_law_web", "_law_here", "_law_there", "_law_k", "_law_i", "_law_one", "_law_many"]
theorem sc_law_bad : FnScope N_law_bad ["_law_web", "_law_here", "_law_there"] (defScope s_law_bad) := ⟨rfl, rfl, rfl, by decide +kernel, rfl, by decide +kernel, by decide +kernel⟩
abbrev s_law_meeting : Stmt := top 24
abbrev N_law_meeting : List Str := ["_law_web", "_law_some", "_law_at", "_law_k", "_law_i", "_law_one", "_law_there"]
theorem sc_law_meeting : FnScope N_law_meeting ["_law_web"] (defScope s_law_meeting) := ⟨rfl, rfl, rfl, by decide +kernel, rfl, by decide +kernel, by decide +kernel⟩
abbrev s_law_moved : Stmt := top 25
abbrev N_law_moved : List Str := ["_law_web", "_law_k", "_law_at", "_law_point", "_law_word", "_law_points"]
theorem sc_law_moved : FnScope N_law_moved ["_law_web", "_law_k", "_law_at", "_law_point"] (defScope s_law_moved) := ⟨rfl, rfl, rfl, by decide +kernel, rfl, by decide +kernel, by decide +kernel⟩
abbrev s_law_spoilt : Stmt := top 26
abbrev N_law_spoilt : List Str := ["_law_feed_here", "_law_web", "_law_way", "_law_k", "_law_at", "_law_row", "_law_one", "_law_other", "_law_point", "_law_before"]
theorem sc_law_spoilt : FnScope N_law_spoilt ["_law_feed_here", "_law_web"] (defScope s_law_spoilt) := ⟨rfl, rfl, rfl, by decide +kernel, rfl, by decide +kernel, by decide +kernel⟩
abbrev s_law : Stmt := top 27
abbrev N_law : List Str := ["_law_script", "_law_k", "_law_feed_here", "_law_most", "_law_web", "_law_kept", "_law_due", "_law_turn_here", "_law_found"]
theorem sc_law : FnScope N_law ["_law_script"] (defScope s_law) := ⟨rfl, rfl, rfl, by decide +kernel, rfl, by decide +kernel, by decide +kernel⟩
local macro_rules | `(tactic| walk_at "dl") => `(tactic| first
  | (with_reducible show PSd _ _ (tAsg _ (gSub (tVar _) (tC (V.int 0)) rSetL)) _ _; refine s_feed0 rfl ?_)
  | (with_reducible show PSd _ _ (tAsg _ (gSub (tVar _) (tC (V.int 1)) rSetL)) _ _; refine s_feed1 rfl ?_)
  | with_reducible refine s_seq ?_ | with_reducible refine s_if ?_ | with_reducible refine s_ret ?_ | with_reducible refine s_asg ?_ | with_reducible refine s_drop ?_ | with_reducible refine s_nil ?_
  | with_reducible refine g_name ?_ | with_reducible refine g_tup rfl ?_ | with_reducible refine gs_cons ?_ | with_reducible refine gs_nil ?_
  | with_reducible refine t_test ?_ | with_reducible refine t_b ?_ | with_reducible refine t_and ?_ | with_reducible refine t_or ?_ | with_reducible refine t_not ?_ | with_reducible refine t_tru ?_
  | with_reducible refine d_chain ?_ | with_reducible refine d_opB ?_ | with_reducible refine d_opI ?_ | with_reducible refine d_opIC ?_ | with_reducible refine d_eqD ?_
  | with_reducible refine d_if ?_ | with_reducible refine d_andV ?_ | with_reducible refine d_orV ?_ | with_reducible refine d_notV ?_
  | with_reducible refine d_int ?_ | with_reducible refine d_bl ?_ | with_reducible refine d_str ?_ | with_reducible refine d_non ?_
  | (with_reducible show PEd _ _ (tVar _) _ _; refine d_var rfl ?_)
  | (with_reducible show PEd _ _ (tOp (rIxL _) (tVar _) _) _ _; refine d_ixF rfl ?_)
  | with_reducible refine d_ixL ?_ | with_reducible refine d_ixT ?_
  | (with_reducible show PAd _ _ (tCons (tVar _) _) _ _; refine a_feed rfl ?_)
  | with_reducible refine a_cons ?_ | with_reducible refine a_nil ?_
  | with_reducible refine d_catT ?_ | with_reducible refine d_cut ?_ | with_reducible refine po_no ?_ | with_reducible refine po_at ?_ | with_reducible refine d_int1 ?_ | with_reducible refine d_tupof ?_ | with_reducible refine t_yes ?_
  | with_reducible refine d_tup ?_ | with_reducible refine d_lst ?_ | with_reducible refine d_len ?_ | with_reducible refine d_minL ?_ | with_reducible refine d_maxL ?_ | with_reducible refine d_cbI2 ?_ | with_reducible refine d_cbI1 ?_
  | (with_reducible show (∃ _, _) ∨ (∃ _, _); first | refine Or.inl ⟨_, rfl, ?_⟩ | refine Or.inr ⟨_, rfl, ?_⟩) | refine ⟨_, rfl, ?_⟩ | refine ⟨_, _, rfl, ?_⟩
  | (with_reducible show (_ = _ ∧ ∀ _, _) ∨ _; first | refine Or.inl ⟨rfl, fun a ha => ?_⟩ | refine Or.inr ⟨rfl, fun b hb hb' => ?_⟩)
  | (with_reducible show PyData.canLay0 _ = true ∧ _; refine And.intro (by first | rfl | assumption | decide +kernel) ?_)
  | (with_reducible show min _ _ ≤ 60 ∧ _; refine And.intro (by first | assumption | (simp [PyData.depth, PyData.depthAll]; done)) ?_)
  | refine ⟨rfl, ?_⟩
  | (refine And.intro ?side ?_; (case side => first | omega | exact Int.ediv_nonneg (by omega) (by omega) | exact Int.emod_nonneg _ (by omega) | exact Int.emod_lt_of_pos _ (by omega) | decide | exact ⟨by decide, by decide, by decide⟩ | exact ⟨by omega, by omega⟩ | exact Or.inl ⟨by omega, by omega⟩ | exact Or.inr ⟨by omega, by omega⟩ | (refine Nat.le_trans (Nat.le_of_eq (by rfl)) (show _ ≤ 1000 by decide)) | ((repeat' apply And.intro) <;> first | rfl | omega | decide | assumption) | (simp [PyData.depth]))))
section
variable {P : Program} {w : World} {K : PySem.W.Frag} {mg : Str → Option Value} {base : Heap} {k : Nat}
abbrev spTurnP (K : PySem.W.Frag) : Sp := spD K 3 (fun (c : Pt × Pt × Pt × Pt) xs => xs = [.dat (ptD c.2.1), .dat (ptD c.2.2.1), .dat (ptD c.2.2.2)] ∧ Near c.1 c.2.1 ∧ Near c.1 c.2.2.1 ∧ Near c.1 c.2.2.2) fun c r => r = .int (turnF c.2.1 c.2.2.1 c.2.2.2)
theorem ok_turnP (F : Def K mg "turn" s_turn ["a", "b", "c"]) : FnIn P w K mg base (k + 1) "turn" ["a", "b", "c"] (spTurnP K) := by
  refine F.ok sc_turn rfl fun fa cdv A outer s H E hr => ⟨_, (pss_one (ps_ret (pe_op op_sub (pe_op op_mul (pe_op op_sub (pe_ix (ix_tupK (K := K) rfl) (pv 1) pe_int (fun _ _ => rfl)) (pe_ix (ix_tupK (K := K) rfl) (pv 0) pe_int (fun _ _ => rfl))) (pe_op op_sub (pe_ix (ix_tupK (K := K) rfl) (pv 2) pe_int (fun _ _ => rfl)) (pe_ix (ix_tupK (K := K) rfl) (pv 0) pe_int (fun _ _ => rfl)))) (pe_op op_mul (pe_op op_sub (pe_ix (ix_tupK (K := K) rfl) (pv 1) pe_int (fun _ _ => rfl)) (pe_ix (ix_tupK (K := K) rfl) (pv 0) pe_int (fun _ _ => rfl))) (pe_op op_sub (pe_ix (ix_tupK (K := K) rfl) (pv 2) pe_int (fun _ _ => rfl)) (pe_ix (ix_tupK (K := K) rfl) (pv 0) pe_int (fun _ _ => rfl))))))), ?_⟩
  rintro f xs ⟨o, a, b, c⟩ hl ⟨rfl, ⟨a1, a2, a3, a4⟩, ⟨b1, b2, b3, b4⟩, ⟨c1, c2, c3, c4⟩⟩
  try dsimp only [cxOf, cxComp]
  unfold ptD
  dsimp only at *
  repeat walk_at "dl"
  rfl
abbrev spApart (K : PySem.W.Frag) : Sp := spD K 4 (fun (c : Int × Int × Int × Int) xs => xs = [.dat (.int c.1), .dat (.int c.2.1), .dat (.int c.2.2.1), .dat (.int c.2.2.2)]) fun c r => r = .bool (apartF c.1 c.2.1 c.2.2.1 c.2.2.2)
theorem ok_apart (F : Def K mg "apart" s_apart ["a", "b", "c", "d"]) (m_min : mg "min" = none) (m_max : mg "max" = none) : FnIn P w K mg base (k + 1) "apart" ["a", "b", "c", "d"] (spApart K) := by
  refine F.ok sc_apart rfl fun fa cdv A outer s H E hr => ⟨_, (pss_one (ps_ret (pe_or (pe_cmpR op_lt (pe_callB (call_max2 rfl) rfl m_max boot_max (pa_cons (pv 0) (pa_cons (pv 1) pa_nil))) (pe_callB (call_min2 rfl) rfl m_min boot_min (pa_cons (pv 2) (pa_cons (pv 3) pa_nil))) (nomark _)) (pe_one (pe_cmpR op_lt (pe_callB (call_max2 rfl) rfl m_max boot_max (pa_cons (pv 2) (pa_cons (pv 3) pa_nil))) (pe_callB (call_min2 rfl) rfl m_min boot_min (pa_cons (pv 0) (pa_cons (pv 1) pa_nil))) (nomark _)))))), ?_⟩
  rintro f xs ⟨a, b, c, d⟩ hl rfl
  try dsimp only [cxOf, cxComp]
  repeat walk_at "dl"
  refine ite_b (fun h => ?_) fun h => ?_
  · show PyData.bool true = PyData.bool (apartF a b c d)
    unfold apartF mx mn
    rw [h]
    rfl
  · repeat walk_at "dl"
    show PyData.bool _ = PyData.bool (apartF a b c d)
    unfold apartF mx mn
    rw [h]
    rfl
abbrev spTouches (K : PySem.W.Frag) : Sp := spD K 4 (fun (c : Pt × Pt × Pt × Pt × Pt) xs => xs = [.dat (ptD c.2.1), .dat (ptD c.2.2.1), .dat (ptD c.2.2.2.1), .dat (ptD c.2.2.2.2)] ∧ Near c.1 c.2.1 ∧ Near c.1 c.2.2.1 ∧ Near c.1 c.2.2.2.1 ∧ Near c.1 c.2.2.2.2) fun c r => r = .bool (touchesF c.2.1 c.2.2.1 c.2.2.2.1 c.2.2.2.2)
theorem ok_touches (F : Def K mg "touches" s_touches ["a", "b", "c", "d"]) (G_apart : FnIn P w K mg base k "apart" ["a", "b", "c", "d"] (spApart K)) (G_turn : FnIn P w K mg base k "turn" ["a", "b", "c"] (spTurnP K)) : FnIn P w K mg base (k + 1) "touches" ["a", "b", "c", "d"] (spTouches K) := by
  refine F.ok sc_touches rfl fun fa cdv A outer s H E hr => ⟨_, (pss_cons (ps_if (PW.pt (pw_or (pt_truK (K := K) rfl (pe_callI G_apart hr rfl (pa_cons (pe_ix (ix_tupK (K := K) rfl) (pv 0) pe_int (fun _ _ => rfl)) (pa_cons (pe_ix (ix_tupK (K := K) rfl) (pv 1) pe_int (fun _ _ => rfl)) (pa_cons (pe_ix (ix_tupK (K := K) rfl) (pv 2) pe_int (fun _ _ => rfl)) (pa_cons (pe_ix (ix_tupK (K := K) rfl) (pv 3) pe_int (fun _ _ => rfl)) pa_nil))))) (fun _ => rfl)) (pw_or1 (pt_truK (K := K) rfl (pe_callI G_apart hr rfl (pa_cons (pe_ix (ix_tupK (K := K) rfl) (pv 0) pe_int (fun _ _ => rfl)) (pa_cons (pe_ix (ix_tupK (K := K) rfl) (pv 1) pe_int (fun _ _ => rfl)) (pa_cons (pe_ix (ix_tupK (K := K) rfl) (pv 2) pe_int (fun _ _ => rfl)) (pa_cons (pe_ix (ix_tupK (K := K) rfl) (pv 3) pe_int (fun _ _ => rfl)) pa_nil))))) (fun _ => rfl))))) (pss_one (ps_ret pe_bl)) pss_nil) (pss_one (ps_ret (pe_and (pe_cmpR op_le (pe_op op_mulB (pe_callI G_turn hr rfl (pa_cons (pv 0) (pa_cons (pv 1) (pa_cons (pv 2) pa_nil)))) (pe_callI G_turn hr rfl (pa_cons (pv 0) (pa_cons (pv 1) (pa_cons (pv 3) pa_nil))))) pe_int (nomark _)) (pe_one (pe_cmpR op_le (pe_op op_mulB (pe_callI G_turn hr rfl (pa_cons (pv 2) (pa_cons (pv 3) (pa_cons (pv 0) pa_nil)))) (pe_callI G_turn hr rfl (pa_cons (pv 2) (pa_cons (pv 3) (pa_cons (pv 1) pa_nil))))) pe_int (nomark _))))))), ?_⟩
  rintro f xs ⟨o, a, b, c, d⟩ hl ⟨rfl, na, nb, nc, nd⟩
  try dsimp only [cxOf, cxComp]
  dsimp only at *
  have fin : PEd K f (tAndV
                        (tOp (rI0 fun i j => V.bl (decide (i ≤ j)))
                          (tOp (rI CMulB fun i j => V.int (i * j))
                            (tCall (spTurnP K) [] E0 (tCons (tVar 0) (tCons (tVar 1) (tCons (tVar 2) tNil))))
                            (tCall (spTurnP K) [] E0 (tCons (tVar 0) (tCons (tVar 1) (tCons (tVar 3) tNil)))))
                          (tC (V.int 0)))
                        (tOp (rI0 fun i j => V.bl (decide (i ≤ j)))
                          (tOp (rI CMulB fun i j => V.int (i * j))
                            (tCall (spTurnP K) [] E0 (tCons (tVar 2) (tCons (tVar 3) (tCons (tVar 0) tNil))))
                            (tCall (spTurnP K) [] E0 (tCons (tVar 2) (tCons (tVar 3) (tCons (tVar 1) tNil)))))
                          (tC (V.int 0)))) (startV N_touches [DV.dat (ptD a), DV.dat (ptD b), DV.dat (ptD c), DV.dat (ptD d)])
      fun r => r = .bool (decide (turnF a b c * turnF a b d ≤ 0) && decide (turnF c d a * turnF c d b ≤ 0)) := by
    refine d_andV (d_opB (d_opIC (d_call (o, a, b, c) ?_)))
    repeat walk_at "dl"
    rintro _ rfl
    refine ⟨_, rfl, d_call (o, a, b, d) ?_⟩
    repeat walk_at "dl"
    rintro _ rfl
    refine ⟨_, rfl, ⟨turn_small na nb nc, turn_small na nb nd⟩, ?_⟩
    repeat walk_at "dl"
    refine ite_b (fun h => ?_) fun h => ?_
    · refine d_opB (d_opIC (d_call (o, c, d, a) ?_))
      repeat walk_at "dl"
      rintro _ rfl
      refine ⟨_, rfl, d_call (o, c, d, b) ?_⟩
      repeat walk_at "dl"
      rintro _ rfl
      refine ⟨_, rfl, ⟨turn_small nc nd na, turn_small nc nd nb⟩, ?_⟩
      repeat walk_at "dl"
      dsimp only at h ⊢
      rw [h, Bool.true_and]
    · dsimp only at h ⊢
      rw [h, Bool.false_and]
  refine s_seq (s_if (t_or (t_tru (d_call (a.1, b.1, c.1, d.1) ?_))))
  repeat walk_at "dl"
  rintro _ rfl
  refine ⟨_, rfl, ?_⟩
  have tt : touchesF a b c d = (!(apartF a.1 b.1 c.1 d.1 || apartF a.2 b.2 c.2 d.2) && (decide (turnF a b c * turnF a b d ≤ 0) && decide (turnF c d a * turnF c d b ≤ 0))) := rfl
  dsimp only
  cases h1 : apartF a.1 b.1 c.1 d.1 with
  | true =>
    rw [if_pos rfl, if_pos rfl]
    repeat walk_at "dl"
    rw [tt, h1]
    rfl
  | false =>
    rw [if_neg Bool.false_ne_true]
    refine t_tru (d_call (a.2, b.2, c.2, d.2) ?_)
    repeat walk_at "dl"
    rintro _ rfl
    refine ⟨_, rfl, ?_⟩
    dsimp only
    cases h2 : apartF a.2 b.2 c.2 d.2 with
    | true =>
      rw [if_pos rfl]
      repeat walk_at "dl"
      rw [tt, h1, h2]
      rfl
    | false =>
      rw [if_neg Bool.false_ne_true]
      refine s_nil (s_ret (fin.imp fun r hr => ?_))
      rw [hr, tt, h1, h2]
      rfl
abbrev spBack (K : PySem.W.Frag) : Sp := spD K 3 (fun (c : Pt × Pt × Pt × Pt) xs => xs = [.dat (ptD c.2.1), .dat (ptD c.2.2.1), .dat (ptD c.2.2.2)] ∧ Near c.1 c.2.1 ∧ Near c.1 c.2.2.1 ∧ Near c.1 c.2.2.2) fun c r => r = .bool (backF c.2.1 c.2.2.1 c.2.2.2)
theorem ok_turns_back (F : Def K mg "turns_back" s_turns_back ["ahead", "between", "behind"]) (G_turn : FnIn P w K mg base k "turn" ["a", "b", "c"] (spTurnP K)) : FnIn P w K mg base (k + 1) "turns_back" ["ahead", "between", "behind"] (spBack K) := by
  refine F.ok sc_turns_back rfl fun fa cdv A outer s H E hr => ⟨_, (pss_cons (ps_if (pt_cmpR (op_neK (K := K) rfl hr.units) (pe_callI G_turn hr rfl (pa_cons (pv 0) (pa_cons (pv 1) (pa_cons (pv 2) pa_nil)))) pe_int (nomark _)) (pss_one (ps_ret pe_bl)) pss_nil) (pss_cons (ps_asg (pe_tup (pa_cons (pv 0) (pa_cons (pv 1) (pa_cons (pv 2) pa_nil)))) (pg_tupK (K := K) (n := 3) rfl rfl (pgs_cons (pg_tupK (K := K) (n := 2) rfl rfl (pgs_cons (pg_name (i := 3) sc_turns_back.nd rfl (Or.inl rfl) (Or.inr rfl)) (pgs_cons (pg_name (i := 4) sc_turns_back.nd rfl (Or.inl rfl) (Or.inr rfl)) pgs_nil))) (pgs_cons (pg_tupK (K := K) (n := 2) rfl rfl (pgs_cons (pg_name (i := 5) sc_turns_back.nd rfl (Or.inl rfl) (Or.inr rfl)) (pgs_cons (pg_name (i := 6) sc_turns_back.nd rfl (Or.inl rfl) (Or.inr rfl)) pgs_nil))) (pgs_cons (pg_tupK (K := K) (n := 2) rfl rfl (pgs_cons (pg_name (i := 7) sc_turns_back.nd rfl (Or.inl rfl) (Or.inr rfl)) (pgs_cons (pg_name (i := 8) sc_turns_back.nd rfl (Or.inl rfl) (Or.inr rfl)) pgs_nil))) pgs_nil))))) (pss_one (ps_ret (pe_cmpR op_gt (pe_op op_add (pe_op op_mul (pe_op op_sub (pv 3) (pv 5)) (pe_op op_sub (pv 7) (pv 5))) (pe_op op_mul (pe_op op_sub (pv 4) (pv 6)) (pe_op op_sub (pv 8) (pv 6)))) pe_int (nomark _)))))), ?_⟩
  rintro f xs ⟨o, a, b, c⟩ hl ⟨rfl, na, nb, nc⟩
  try dsimp only [cxOf, cxComp]
  dsimp only at *
  refine s_seq (s_if (t_test (d_eqD (d_call (o, a, b, c) ?_))))
  repeat walk_at "dl"
  rintro _ rfl
  refine d_int ⟨rfl, rfl, by simp [PyData.depth], _, rfl, ?_⟩
  dsimp only
  rw [if_pos rfl, show PyData.eqv (.int (turnF a b c)) (.int 0) = decide (turnF a b c = 0) from rfl]
  by_cases h : turnF a b c = 0
  · rw [decide_eq_true h, Bool.not_true, if_neg Bool.false_ne_true]
    unfold ptD
    obtain ⟨a1, a2, a3, a4⟩ := na
    obtain ⟨b1, b2, b3, b4⟩ := nb
    obtain ⟨c1, c2, c3, c4⟩ := nc
    repeat walk_at "dl"
    show PyData.bool _ = PyData.bool _
    unfold backF
    rw [decide_eq_true h]
    rfl
  · rw [decide_eq_false h, Bool.not_false, if_pos rfl]
    repeat walk_at "dl"
    show PyData.bool _ = PyData.bool _
    unfold backF
    rw [decide_eq_false h]
    rfl
abbrev keyD (k i : Nat) : PyData := .tuple [.int k, .int i]
abbrev spCloses (K : PySem.W.Frag) : Sp := spD K 3 (fun (c : Web × Nat × Nat × Nat × Nat) xs => xs = [.dat (webD c.1), .dat (keyD c.2.1 c.2.2.1), .dat (keyD c.2.2.2.1 c.2.2.2.2)] ∧ c.2.2.2.1 < c.1.length) fun c r => r = .bool (closesF c.1 c.2.1 c.2.2.1 c.2.2.2.1 c.2.2.2.2)
theorem ok_closes (F : Def K mg "closes" s_closes ["web", "first", "second"]) (m_len : mg "len" = none) : FnIn P w K mg base (k + 1) "closes" ["web", "first", "second"] (spCloses K) := by
  refine F.ok sc_closes rfl fun fa cdv A outer s H E hr => ⟨_, (pss_cons (ps_asg (pe_ix (ix_listK (K := K) rfl) (pv 0) (pe_ix (ix_tupK (K := K) rfl) (pv 2) pe_int (fun _ _ => rfl)) (fun _ _ => rfl)) (pg_tupK (K := K) (n := 2) rfl rfl (pgs_cons (pg_name (i := 3) sc_closes.nd rfl (Or.inl rfl) (Or.inr rfl)) (pgs_cons (pg_name (i := 4) sc_closes.nd rfl (Or.inl rfl) (Or.inr rfl)) pgs_nil)))) (pss_one (ps_ret (pe_and (pe_cmpR (op_eqK (K := K) rfl hr.units) (pv 3) pe_str (nomark _)) (pe_and (pe_cmpR (op_eqK (K := K) rfl hr.units) (pv 1) (pe_tup (pa_cons (pe_ix (ix_tupK (K := K) rfl) (pv 2) pe_int (fun _ _ => rfl)) (pa_cons pe_int pa_nil))) (nomark _)) (pe_one (pe_cmpR (op_eqK (K := K) rfl hr.units) (pe_ix (ix_tupK (K := K) rfl) (pv 2) pe_int (fun _ _ => rfl)) (pe_op op_sub (pe_callB (call_lenK (K := K) rfl) rfl m_len PySem.boot_len (pa_cons (pv 4) pa_nil)) pe_int) (nomark _)))))))), ?_⟩
  rintro f xs ⟨w, k, i, l, j⟩ hl ⟨rfl, hlw⟩
  try dsimp only [cxOf, cxComp]
  dsimp only at *
  have lw := lay_word (lnAt w l).1
  unfold webD keyD
  repeat walk_at "dl"
  refine ⟨_, at_web rfl hlw, ?_⟩
  unfold lnD
  repeat walk_at "dl"
  rw [if_neg Bool.false_ne_true, word_ring]
  refine ite_b (fun h => ?_) fun h => ?_
  · repeat walk_at "dl"
    rw [if_neg Bool.false_ne_true, eqv_key]
    refine ite_b (fun h2 => ?_) fun h2 => ?_
    · repeat walk_at "dl"
      rw [if_neg Bool.false_ne_true, eqv_int]
      show PyData.bool _ = PyData.bool (closesF w k i l j)
      unfold closesF
      have h2' : k = l ∧ i = 0 := by have := of_decide_eq_true h2; omega
      rw [h, List.length_map, decide_eq_true h2', Bool.true_and, Bool.true_and]
    · show PyData.bool _ = PyData.bool (closesF w k i l j)
      unfold closesF
      have h2' : ¬ (k = l ∧ i = 0) := by have := of_decide_eq_false h2; omega
      rw [h, decide_eq_false h2']
      rfl
  · show PyData.bool _ = PyData.bool (closesF w k i l j)
    unfold closesF
    rw [h]
    rfl
abbrev spMeets (K : PySem.W.Frag) : Sp := spD K 3 (fun (c : Pt × Web × Sg × Sg) xs => xs = [.dat (webD c.2.1), .dat (segD c.2.2.1), .dat (segD c.2.2.2)] ∧ c.2.2.2.k < c.2.1.length ∧ Near c.1 c.2.2.1.p ∧ Near c.1 c.2.2.1.q ∧ Near c.1 c.2.2.2.p ∧ Near c.1 c.2.2.2.q) fun c r => r = .bool (meetsF c.2.1 c.2.2.1 c.2.2.2)
theorem ok_meets (F : Def K mg "meets" s_meets ["web", "one", "other"]) (G_closes : FnIn P w K mg base k "closes" ["web", "first", "second"] (spCloses K)) (G_turns_back : FnIn P w K mg base k "turns_back" ["ahead", "between", "behind"] (spBack K)) (G_touches : FnIn P w K mg base k "touches" ["a", "b", "c", "d"] (spTouches K)) :
    FnIn P w K mg base (k + 1) "meets" ["web", "one", "other"] (spMeets K) := by
  refine F.ok sc_meets rfl fun fa cdv A outer s H E hr => ⟨_, (pss_cons (ps_asg (pv 1) (pg_tupK (K := K) (n := 3) rfl rfl (pgs_cons (pg_name (i := 3) sc_meets.nd rfl (Or.inl rfl) (Or.inr rfl)) (pgs_cons (pg_name (i := 4) sc_meets.nd rfl (Or.inl rfl) (Or.inr rfl)) (pgs_cons (pg_name (i := 5) sc_meets.nd rfl (Or.inl rfl) (Or.inr rfl)) pgs_nil))))) (pss_cons (ps_asg (pv 2) (pg_tupK (K := K) (n := 3) rfl rfl (pgs_cons (pg_name (i := 6) sc_meets.nd rfl (Or.inl rfl) (Or.inr rfl)) (pgs_cons (pg_name (i := 7) sc_meets.nd rfl (Or.inl rfl) (Or.inr rfl)) (pgs_cons (pg_name (i := 8) sc_meets.nd rfl (Or.inl rfl) (Or.inr rfl)) pgs_nil))))) (pss_cons (ps_if (pt_cmpR (op_eqK (K := K) rfl hr.units) (pv 3) (pv 6) (nomark _)) (pss_one (ps_ret (pe_cmpR (op_eqK (K := K) rfl hr.units) (pv 4) (pv 5) (nomark _)))) pss_nil) (pss_cons (ps_if (PW.pt (pw_and (pt_cmpR (op_eqK (K := K) rfl hr.units) (pe_ix (ix_tupK (K := K) rfl) (pv 3) pe_int (fun _ _ => rfl)) (pe_ix (ix_tupK (K := K) rfl) (pv 6) pe_int (fun _ _ => rfl)) (nomark _)) (pw_and1 (pt_cmpR (op_eqK (K := K) rfl hr.units) (pe_op op_add (pe_ix (ix_tupK (K := K) rfl) (pv 3) pe_int (fun _ _ => rfl)) pe_int) (pe_ix (ix_tupK (K := K) rfl) (pv 6) pe_int (fun _ _ => rfl)) (nomark _))))) (pss_one (ps_ret (pe_callI G_turns_back hr rfl (pa_cons (pv 4) (pa_cons (pv 5) (pa_cons (pv 8) pa_nil)))))) pss_nil) (pss_cons (ps_if (pt_truK (K := K) rfl (pe_callI G_closes hr rfl (pa_cons (pv 0) (pa_cons (pv 3) (pa_cons (pv 6) pa_nil)))) (fun _ => rfl)) (pss_one (ps_ret (pe_callI G_turns_back hr rfl (pa_cons (pv 7) (pa_cons (pv 8) (pa_cons (pv 5) pa_nil)))))) pss_nil) (pss_one (ps_ret (pe_callI G_touches hr rfl (pa_cons (pv 4) (pa_cons (pv 5) (pa_cons (pv 7) (pa_cons (pv 8) pa_nil)))))))))))), ?_⟩
  rintro f xs ⟨o, w, s, t⟩ hl ⟨rfl, hk, n1, n2, n3, n4⟩
  try dsimp only [cxOf, cxComp]
  dsimp only at *
  unfold segD
  repeat walk_at "dl"
  rw [if_neg Bool.false_ne_true, eqv_key]
  refine ite_b (fun h => ?_) fun h => ?_
  · have h' := of_decide_eq_true h
    have dp := dep_pt s.p s.q
    repeat walk_at "dl"
    rw [if_neg Bool.false_ne_true, eqv_pt]
    show PyData.bool _ = PyData.bool (meetsF w s t)
    unfold meetsF
    rw [if_pos (by omega)]
  · have h' := of_decide_eq_false h
    have e0 : meetsF w s t = badF w s t := by
      unfold meetsF
      rw [if_neg (by omega)]
    rw [e0]
    repeat walk_at "dl"
    rw [if_neg Bool.false_ne_true, eqv_int]
    have rest : ¬ (s.k = t.k ∧ s.i + 1 = t.i) → PSd K f (tSeq (tIfS (tTru K (tCall (spCloses K) [] E0 (tCons (tVar 0) (tCons (tVar 3) (tCons (tVar 6) tNil))))) (tRet (tCall (spBack K) [] E0 (tCons (tVar 7) (tCons (tVar 8) (tCons (tVar 5) tNil))))) tNext)
        (tRet (tCall (spTouches K) [] E0 (tCons (tVar 4) (tCons (tVar 5) (tCons (tVar 7) (tCons (tVar 8) tNil)))))))
        [some (.dat (webD w)), some (.dat (segD s)), some (.dat (segD t)), some (.dat (keyD s.k s.i)), some (.dat (ptD s.p)), some (.dat (ptD s.q)), some (.dat (keyD t.k t.i)), some (.dat (ptD t.p)), some (.dat (ptD t.q))] { nx := fun _ => PyData.none = PyData.bool (badF w s t), rt := fun r => r = .bool (badF w s t) } := fun hne => by
      refine s_seq (s_if (t_tru (d_call (w, s.k, s.i, t.k, t.i) ?_)))
      repeat walk_at "dl"
      rintro _ rfl
      refine ⟨_, rfl, ?_⟩
      dsimp only
      refine ite_b (fun h3 => ?_) fun h3 => ?_
      · refine s_ret (d_call (o, t.p, t.q, s.q) ?_)
        repeat walk_at "dl"
        rintro _ rfl
        show PyData.bool _ = PyData.bool _
        unfold badF
        rw [if_neg hne, if_pos h3]
      · refine s_nil (s_ret (d_call (o, s.p, s.q, t.p, t.q) ?_))
        repeat walk_at "dl"
        rintro _ rfl
        show PyData.bool _ = PyData.bool _
        unfold badF
        rw [if_neg hne, if_neg (by rw [h3]; exact Bool.false_ne_true)]
    refine ite_b (fun h1 => ?_) fun h1 => ?_
    · have h1' := of_decide_eq_true h1
      repeat walk_at "dl"
      rw [if_neg Bool.false_ne_true, eqv_int]
      refine ite_b (fun h2 => ?_) fun h2 => ?_
      · have h2' := of_decide_eq_true h2
        refine s_ret (d_call (o, s.p, s.q, t.q) ?_)
        repeat walk_at "dl"
        rintro _ rfl
        show PyData.bool _ = PyData.bool _
        unfold badF
        rw [if_pos (by omega)]
      · have h2' := of_decide_eq_false h2
        exact s_nil (rest (by omega))
    · have h1' := of_decide_eq_false h1
      exact s_nil (rest (by omega))
abbrev spMany (K : PySem.W.Frag) : Sp := spD K 2 (fun (c : Ln) xs => xs = [.dat (.str (wordD c.1)), .dat (.tuple (c.2.map ptD))] ∧ 1 ≤ c.2.length) fun c r => r = .int (manyF c)
theorem ok_many (F : Def K mg "many_segments" s_many_segments ["word", "path"]) (m_len : mg "len" = none) : FnIn P w K mg base (k + 1) "many_segments" ["word", "path"] (spMany K) := by
  refine F.ok sc_many_segments rfl fun fa cdv A outer s H E hr => ⟨_, (pss_one (ps_ret (pe_ifExp (pt_cmpR (op_eqK (K := K) rfl hr.units) (pv 0) pe_str (nomark _)) (pe_callB (call_lenK (K := K) rfl) rfl m_len PySem.boot_len (pa_cons (pv 1) pa_nil)) (pe_op op_sub (pe_callB (call_lenK (K := K) rfl) rfl m_len PySem.boot_len (pa_cons (pv 1) pa_nil)) pe_int)))), ?_⟩
  rintro f xs ⟨b, ps⟩ hl ⟨rfl, hp⟩
  have lw := lay_word b
  try dsimp only [cxOf, cxComp]
  dsimp only at *
  repeat walk_at "dl"
  rw [if_neg Bool.false_ne_true, word_ring]
  unfold manyF
  refine ite_b (fun h => ?_) fun h => ?_
  · repeat walk_at "dl"
    show PyData.int _ = PyData.int _
    rw [List.length_map, h, if_pos rfl]
  · repeat walk_at "dl"
    repeat walk_at "dl"
    show PyData.int _ = PyData.int _
    rw [List.length_map, h, if_neg Bool.false_ne_true]
    dsimp only
    congr 1
    omega
end
end My
end
section
set_option Elab.async false
set_option linter.all false
set_option maxRecDepth 100000
set_option maxHeartbeats 4000000
namespace My
open PySem PySem.Spec PyProof.Rows L2
local macro_rules | `(tactic| walk_at "dl") => `(tactic| first
  | (with_reducible show PSd _ _ (tAsg _ (gSub (tVar _) (tC (V.int 0)) rSetL)) _ _; refine s_feed0 rfl ?_)
  | (with_reducible show PSd _ _ (tAsg _ (gSub (tVar _) (tC (V.int 1)) rSetL)) _ _; refine s_feed1 rfl ?_)
  | with_reducible refine s_seq ?_ | with_reducible refine s_if ?_ | with_reducible refine s_ret ?_ | with_reducible refine s_asg ?_ | with_reducible refine s_drop ?_ | with_reducible refine s_nil ?_
  | with_reducible refine g_name ?_ | with_reducible refine g_tup rfl ?_ | with_reducible refine gs_cons ?_ | with_reducible refine gs_nil ?_
  | with_reducible refine t_test ?_ | with_reducible refine t_b ?_ | with_reducible refine t_and ?_ | with_reducible refine t_or ?_ | with_reducible refine t_not ?_ | with_reducible refine t_tru ?_
  | with_reducible refine d_chain ?_ | with_reducible refine d_opB ?_ | with_reducible refine d_opI ?_ | with_reducible refine d_opIC ?_ | with_reducible refine d_eqD ?_
  | with_reducible refine d_if ?_ | with_reducible refine d_andV ?_ | with_reducible refine d_orV ?_ | with_reducible refine d_notV ?_
  | with_reducible refine d_int ?_ | with_reducible refine d_bl ?_ | with_reducible refine d_str ?_ | with_reducible refine d_non ?_
  | (with_reducible show PEd _ _ (tVar _) _ _; refine d_var rfl ?_)
  | (with_reducible show PEd _ _ (tOp (rIxL _) (tVar _) _) _ _; refine d_ixF rfl ?_)
  | with_reducible refine d_ixL ?_ | with_reducible refine d_ixT ?_
  | (with_reducible show PAd _ _ (tCons (tVar _) _) _ _; refine a_feed rfl ?_)
  | with_reducible refine a_cons ?_ | with_reducible refine a_nil ?_
  | with_reducible refine d_catT ?_ | with_reducible refine d_cut ?_ | with_reducible refine po_no ?_ | with_reducible refine po_at ?_ | with_reducible refine d_int1 ?_ | with_reducible refine d_tupof ?_ | with_reducible refine t_yes ?_
  | with_reducible refine d_tup ?_ | with_reducible refine d_lst ?_ | with_reducible refine d_len ?_ | with_reducible refine d_minL ?_ | with_reducible refine d_maxL ?_ | with_reducible refine d_cbI2 ?_ | with_reducible refine d_cbI1 ?_
  | (with_reducible show (∃ _, _) ∨ (∃ _, _); first | refine Or.inl ⟨_, rfl, ?_⟩ | refine Or.inr ⟨_, rfl, ?_⟩) | refine ⟨_, rfl, ?_⟩ | refine ⟨_, _, rfl, ?_⟩
  | (with_reducible show (_ = _ ∧ ∀ _, _) ∨ _; first | refine Or.inl ⟨rfl, fun a ha => ?_⟩ | refine Or.inr ⟨rfl, fun b hb hb' => ?_⟩)
  | (with_reducible show PyData.canLay0 _ = true ∧ _; refine And.intro (by first | rfl | assumption | decide +kernel) ?_)
  | (with_reducible show min _ _ ≤ 60 ∧ _; refine And.intro (by first | assumption | (simp [PyData.depth, PyData.depthAll]; done)) ?_)
  | refine ⟨rfl, ?_⟩
  | (refine And.intro ?side ?_; (case side => first | omega | exact Int.ediv_nonneg (by omega) (by omega) | exact Int.emod_nonneg _ (by omega) | exact Int.emod_lt_of_pos _ (by omega) | decide | exact ⟨by decide, by decide, by decide⟩ | exact ⟨by omega, by omega⟩ | exact Or.inl ⟨by omega, by omega⟩ | exact Or.inr ⟨by omega, by omega⟩ | (refine Nat.le_trans (Nat.le_of_eq (by rfl)) (show _ ≤ 1000 by decide)) | ((repeat' apply And.intro) <;> first | rfl | omega | decide | assumption) | (simp [PyData.depth]))))
section
variable {P : Program} {w : World} {K : PySem.W.Frag} {mg : Str → Option Value} {base : Heap} {k : Nat}
theorem enum_at {ds : List PyData} {i : Nat} {d : PyData} (h : (enumD ds)[i]? = some d) : ∃ e, ds[i]? = some e ∧ d = .tuple [.int (i : Int), e] := by
  unfold enumD at h
  rw [List.getElem?_mapIdx] at h
  cases eq : ds[i]? with
  | none => rw [eq] at h; cases h
  | some e => rw [eq] at h; cases h; exact ⟨e, rfl, rfl⟩
theorem enum_len (ds : List PyData) : (enumD ds).length = ds.length := by unfold enumD; rw [List.length_mapIdx]
theorem range_at {n i : Nat} {d : PyData} (h : (rangeD n)[i]? = some d) : i < n ∧ d = .int (i : Int) := by
  unfold rangeD at h
  rw [List.getElem?_map] at h
  by_cases hi : i < n
  · rw [List.getElem?_range hi] at h
    cases h
    exact ⟨hi, rfl⟩
  · rw [List.getElem?_eq_none (by rw [List.length_range]; omega)] at h
    cases h
theorem range_len (n : Nat) : (rangeD n).length = n := by unfold rangeD; simp
theorem map_at {α : Type} {F : α → PyData} {xs : List α} {i : Nat} {d : PyData} (h : (xs.map F)[i]? = some d) : ∃ x, xs[i]? = some x ∧ d = F x := by
  rw [List.getElem?_map] at h
  cases eq : xs[i]? with
  | none => rw [eq] at h; cases h
  | some x => rw [eq] at h; cases h; exact ⟨x, rfl, rfl⟩
abbrev spSegs (K : PySem.W.Frag) : Sp := spD K 1 (fun (c : Pt × Web) xs => xs = [.dat (webD c.2)] ∧ OkWeb c.1 c.2) fun c r => r = .list ((segsF c.2).map segD)
theorem ok_segments (F : Def K mg "segments" s_segments ["web"]) (m_len : mg "len" = none) (m_range : mg "range" = none) (m_enumerate : mg "enumerate" = none) (G_many_segments : FnIn P w K mg base k "many_segments" ["word", "path"] (spMany K)) : FnIn P w K mg base (k + 1) "segments" ["web"] (spSegs K) := by
  refine F.ok sc_segments rfl fun fa cdv A outer s H E hr => ⟨_, (pss_cons (ps_set (i := 1) sc_segments.nd rfl (Or.inl rfl) (pe_lst pa_nil)) (pss_cons (ps_for PassesOwn.never rfl (pi_enumK (K := K) rfl rfl m_enumerate (pa_cons (pv 0) pa_nil)) (pg_tupK (K := K) (n := 2) rfl rfl (pgs_cons (pg_name (i := 2) sc_segments.nd rfl (Or.inl rfl) (Or.inr rfl)) (pgs_cons (pg_tupK (K := K) (n := 2) rfl rfl (pgs_cons (pg_name (i := 3) sc_segments.nd rfl (Or.inl rfl) (Or.inr rfl)) (pgs_cons (pg_name (i := 4) sc_segments.nd rfl (Or.inl rfl) (Or.inr rfl)) pgs_nil))) pgs_nil))) (pss_one (ps_for PassesOwn.never rfl (pi_range1 rfl m_range (pa_cons (pe_callI G_many_segments hr rfl (pa_cons (pv 3) (pa_cons (pv 4) pa_nil))) pa_nil)) (pg_name (i := 5) sc_segments.nd rfl (Or.inl rfl) (Or.inr rfl)) (pss_one (ps_expr (pe_bm PySem.F.plainAttrs_list PySem.F.slot_list_append PySem.F.type_list_append mt_append (pv 1) (pa_cons (pe_tup (pa_cons (pe_tup (pa_cons (pv 2) (pa_cons (pv 5) pa_nil))) (pa_cons (pe_ix (ix_tupK (K := K) rfl) (pv 4) (pv 5) (fun _ _ => rfl)) (pa_cons (pe_ix (ix_tupK (K := K) rfl) (pv 4) (pe_op op_mod (pe_op op_add (pv 5) pe_int) (pe_callB (call_lenK (K := K) rfl) rfl m_len PySem.boot_len (pa_cons (pv 4) pa_nil))) (fun _ _ => rfl)) pa_nil)))) pa_nil))))))) (pss_one (ps_ret (pv 1))))), ?_⟩
  rintro f xs ⟨o, w⟩ hl ⟨rfl, g⟩
  try dsimp only [cxOf, cxComp]
  dsimp only at *
  refine s_own (o_nil ⟨show 1 < 6 by decide, fun D => ?_⟩)
  refine o_for (i_enum ?_)
  unfold webD
  repeat walk_at "dl"
  refine ⟨fun n ρ es => (∃ x2 x3 x4 x5, ρ = [some (.dat (webD w)), some (.own f.M.length), x2, x3, x4, x5]) ∧ es = (segsTo w n).map segD, ⟨⟨_, _, _, _, rfl⟩, rfl⟩, ?_, ?_⟩
  · rintro n d _ _ hd ⟨⟨x2, x3, x4, x5, rfl⟩, rfl⟩
    obtain ⟨e, h1, rfl⟩ := enum_at hd
    obtain ⟨l, h2, rfl⟩ := map_at h1
    have hm := List.mem_of_getElem? h2
    have hn : n < w.length := (List.getElem?_eq_some_iff.mp h2).1
    have two := g.two l hm
    have few := g.few l hm
    have wl := g.len
    have le := segsTo_le g.few n (by omega)
    have ml := many_le l
    unfold lnD
    repeat walk_at "dl"
    refine o_for (i_range (a_cons (d_call l ?_)))
    repeat walk_at "dl"
    rintro _ rfl
    repeat walk_at "dl"
    refine ⟨fun m ρ es => (∃ x5, ρ = [some (.dat (webD w)), some (.own f.M.length), some (.dat (.int n)), some (.dat (.str (wordD l.1))), some (.dat (.tuple (l.2.map ptD))), x5]) ∧ es = (segsTo w n ++ (lineSegs n l).take m).map segD, ⟨⟨_, rfl⟩, by rw [List.take_zero, List.append_nil]⟩, ?_, ?_⟩
    · rintro m d _ _ hd ⟨⟨x5, rfl⟩, rfl⟩
      obtain ⟨hm', rfl⟩ := range_at hd
      rw [Int.toNat_natCast] at hm'
      refine g_name (o_app rfl ?_ ?_)
      · rw [List.length_map, List.length_append, List.length_take, lineSegs_len]
        omega
      repeat walk_at "dl"
      refine ⟨_, at_pts rfl (by omega), ?_⟩
      repeat walk_at "dl"
      rw [List.length_map]
      refine ⟨by omega, _, rfl, _, at_pts (j := (m + 1) % l.2.length) (by rw [Int.natCast_emod]; rfl) (Nat.mod_lt _ (by omega)), ?_⟩
      repeat walk_at "dl"
      rw [lineSegs_take hm', ← List.append_assoc]
      simp only [List.map_append]
      rfl
    · rintro _ _ ⟨⟨x5, rfl⟩, rfl⟩
      refine ⟨⟨_, _, _, _, rfl⟩, ?_⟩
      rw [segsTo_succ h2, range_len, Int.toNat_natCast, List.take_of_length_le (by rw [lineSegs_len]; exact Nat.le_refl _)]
  · rintro _ _ ⟨⟨x2, x3, x4, x5, rfl⟩, rfl⟩
    refine ⟨rfl, ?_⟩
    rw [enum_len, List.length_map, segsTo_all]
    repeat walk_at "dl"
    rfl
abbrev spMeeting (K : PySem.W.Frag) : Sp := spD K 1 (fun (c : Pt × Web) xs => xs = [.dat (webD c.2)] ∧ OkWeb c.1 c.2) fun c r => r = meetD (meetF c.2)
theorem ok_meeting (F : Def K mg "meeting" s_meeting ["web"]) (m_enumerate : mg "enumerate" = none) (G_segments : FnIn P w K mg base k "segments" ["web"] (spSegs K)) (G_meets : FnIn P w K mg base k "meets" ["web", "one", "other"] (spMeets K)) : FnIn P w K mg base (k + 1) "meeting" ["web"] (spMeeting K) := by
  refine F.ok sc_meeting rfl fun fa cdv A outer s H E hr => ⟨_, (pss_cons (ps_set (i := 1) sc_meeting.nd rfl (Or.inl rfl) (pe_callI G_segments hr rfl (pa_cons (pv 0) pa_nil))) (pss_cons (ps_for PassesOwn.never rfl (pi_enumK (K := K) rfl rfl m_enumerate (pa_cons (pv 1) pa_nil)) (pg_tupK (K := K) (n := 2) rfl rfl (pgs_cons (pg_name (i := 2) sc_meeting.nd rfl (Or.inl rfl) (Or.inr rfl)) (pgs_cons (pg_name (i := 3) sc_meeting.nd rfl (Or.inl rfl) (Or.inr rfl)) pgs_nil))) (pss_one (ps_for PassesOwn.never rfl (pi_listK (K := K) rfl (pe_slice (sl_listK (K := K) rfl) (pv 1) (po_some (pv 2)) po_none)) (pg_name (i := 4) sc_meeting.nd rfl (Or.inl rfl) (Or.inr rfl)) (pss_one (ps_if (pt_truK (K := K) rfl (pe_callI G_meets hr rfl (pa_cons (pv 0) (pa_cons (pv 3) (pa_cons (pv 4) pa_nil)))) (fun _ => rfl)) (pss_one (ps_ret (pe_op (op_catTK (K := K) rfl) (pe_ix (ix_tupK (K := K) rfl) (pv 3) pe_int (fun _ _ => rfl)) (pe_ix (ix_tupK (K := K) rfl) (pv 4) pe_int (fun _ _ => rfl))))) pss_nil))))) (pss_one (ps_ret pe_non)))), ?_⟩
  rintro f xs ⟨o, w⟩ hl ⟨rfl, g⟩
  try dsimp only [cxOf, cxComp]
  dsimp only at *
  refine s_seq (s_asg (d_call (o, w) ?_))
  repeat walk_at "dl"
  rintro _ rfl
  dsimp only
  refine g_name (s_seq (s_for (i_enum ?_)))
  repeat walk_at "dl"
  refine ⟨fun n ρ => (∃ x2 x3 x4, ρ = [some (.dat (webD w)), some (.dat (.list ((segsF w).map segD))), x2, x3, x4]) ∧ look (meetsF w) (segsF w) = look (meetsF w) ((segsF w).drop n), ⟨⟨_, _, _, rfl⟩, rfl⟩, ?_, ?_⟩
  · rintro n d _ hd ⟨⟨x2, x3, x4, rfl⟩, hlook⟩
    obtain ⟨e, h1, rfl⟩ := enum_at hd
    obtain ⟨s, h2, rfl⟩ := map_at h1
    have hn : n < (segsF w).length := (List.getElem?_eq_some_iff.mp h2).1
    have hs : (segsF w).drop n = s :: (segsF w).drop (n + 1) := by
      rw [List.drop_eq_getElem_cons hn]
      congr 1
      exact (List.getElem?_eq_some_iff.mp h2).2
    have sm := seg_of (List.mem_of_getElem? h2)
    repeat walk_at "dl"
    refine s_for (i_list ?_)
    repeat walk_at "dl"
    rw [cut_from, ← List.map_drop]
    refine ⟨fun m ρ => (∃ x4, ρ = [some (.dat (webD w)), some (.dat (.list ((segsF w).map segD))), some (.dat (.int n)), some (.dat (segD s)), x4]) ∧ ∀ u ∈ ((segsF w).drop n).take m, meetsF w s u = false, ⟨⟨_, rfl⟩, fun u hu => by simp at hu⟩, ?_, ?_⟩
    · rintro m d _ hd ⟨⟨x4, rfl⟩, hall⟩
      obtain ⟨t, h3, rfl⟩ := map_at hd
      have tm := seg_of (List.mem_of_mem_drop (List.mem_of_getElem? h3))
      refine g_name (s_if (t_tru (d_call (o, w, s, t) ?_)))
      have n1 := sm.near g
      have n2 := tm.near g
      have tk := tm.k
      obtain ⟨n11, n12⟩ := n1
      obtain ⟨n21, n22⟩ := n2
      repeat walk_at "dl"
      rintro _ rfl
      refine ⟨_, rfl, ?_⟩
      dsimp only
      refine ite_b (fun h => ?_) fun h => ?_
      · unfold segD
        repeat walk_at "dl"
        show PyData.tuple _ = meetD (meetF w)
        unfold meetF
        rw [hlook, hs, look_hit (m := m) (by rw [← hs]; exact h3) (fun u hu => hall u (by rw [hs]; exact hu)) h]
        rfl
      · refine s_nil ⟨⟨_, rfl⟩, fun u hu => ?_⟩
        rw [List.take_add_one, h3] at hu
        rcases List.mem_append.mp hu with hu | hu
        · exact hall u hu
        · cases List.mem_singleton.mp (by simpa using hu)
          exact h
    · rintro _ ⟨⟨x4, rfl⟩, hall⟩
      refine ⟨⟨_, _, _, rfl⟩, ?_⟩
      rw [hlook, hs]
      refine look_miss fun u hu => hall u ?_
      rw [List.length_map, List.take_length, hs]
      exact hu
  · rintro _ ⟨⟨x2, x3, x4, rfl⟩, hlook⟩
    repeat walk_at "dl"
    show PyData.none = meetD (meetF w)
    unfold meetF
    rw [hlook, enum_len, List.length_map, List.drop_length]
    rfl
end
end My
end
section
set_option Elab.async false
set_option linter.all false
set_option maxRecDepth 100000
set_option maxHeartbeats 4000000
namespace My
open PySem PySem.Spec PyProof.Rows L2
/-! keys are unlike -/
theorem segsTo_keys {w : Web} : ∀ n, n ≤ w.length → (segsTo w n).Pairwise (fun s t => ¬ (s.k = t.k ∧ s.i = t.i)) ∧ ∀ s ∈ segsTo w n, s.k < n
  | 0, _ => by simp [segsTo]
  | n + 1, hn => by
    have hl : w[n]? = some w[n] := List.getElem?_eq_getElem (by omega)
    obtain ⟨h1, h2⟩ := segsTo_keys (w := w) n (by omega)
    rw [segsTo_succ hl]
    have hk : ∀ s ∈ lineSegs n w[n], s.k = n := fun s hs => by
      unfold lineSegs at hs
      rw [List.mem_map] at hs
      obtain ⟨j, _, rfl⟩ := hs
      rfl
    refine ⟨List.pairwise_append.mpr ⟨h1, ?_, fun s hs t ht => ?_⟩, fun s hs => ?_⟩
    · unfold lineSegs
      rw [List.pairwise_map]
      refine List.Pairwise.imp ?_ List.pairwise_lt_range
      intro a b hab h
      have := h.2
      dsimp only at this
      omega
    · have := h2 s hs
      have := hk t ht
      omega
    · rcases List.mem_append.mp hs with hs | hs
      · have := h2 s hs
        omega
      · have := hk s hs
        omega
theorem keys_ne {w : Web} {n : Nat} {s t : Sg} (h : (segsF w)[n]? = some s) (ht : t ∈ (segsF w).drop (n + 1)) : ¬ (s.k = t.k ∧ s.i = t.i) := by
  have p := (segsTo_keys (w := w) w.length (Nat.le_refl _)).1
  rw [segsTo_all] at p
  have hn : n < (segsF w).length := (List.getElem?_eq_some_iff.mp h).1
  have e : (segsF w).drop n = s :: (segsF w).drop (n + 1) := by
    rw [List.drop_eq_getElem_cons hn]
    congr 1
    exact (List.getElem?_eq_some_iff.mp h).2
  have q := p.sublist (List.drop_sublist n _)
  rw [e, List.pairwise_cons] at q
  exact q.1 t ht
theorem look_self {w : Web} {s : Sg} {r : List Sg} (h : s.p = s.q) : look (meetsF w) (s :: r) = some (s, s) :=
  look_hit (m := 0) rfl (fun u hu => by simp at hu) (by unfold meetsF; rw [if_pos ⟨rfl, rfl⟩, decide_eq_true h])
theorem self_no {w : Web} {s : Sg} (h : ¬ s.p = s.q) : meetsF w s s = false := by unfold meetsF; rw [if_pos ⟨rfl, rfl⟩, decide_eq_false h]
theorem meets_bad {w : Web} {s t : Sg} (h : ¬ (s.k = t.k ∧ s.i = t.i)) : meetsF w s t = badF w s t := by unfold meetsF; rw [if_neg h]
/-! the law's own tests -/
theorem fold_zero (m a c : Pt) : (turnF m a c = 0) ↔ turnF a m c = 0 := by
  have : turnF m a c = - turnF a m c := by unfold turnF; grind
  omega
theorem back_same {a m c : Pt} (h : a = m ∨ c = m) : backF a m c = false := by
  unfold backF
  rw [Bool.and_eq_false_iff]
  refine .inr (decide_eq_false ?_)
  rcases h with h | h
  · rw [h]; simp
  · rw [h]; simp
theorem close_end {w : Web} {s t : Sg} (hs : SegOf w s) (ht : SegOf w t) (h2 : 1 ≤ (lnAt w t.k).2.length) (h : closesF w s.k s.i t.k t.i = true) : t.q = s.p := by
  unfold closesF at h
  rw [Bool.and_eq_true, Bool.and_eq_true] at h
  obtain ⟨h1, h3, h4⟩ := h
  have h3 := of_decide_eq_true h3
  have h4 := of_decide_eq_true h4
  rw [ht.q, hs.p, h3.1, h3.2]
  congr 1
  have : t.i + 1 = (lnAt w t.k).2.length := by omega
  rw [this, Nat.mod_self]
/-! a web moved by a map of the plane -/
def mapW (g : Pt → Pt) (w : Web) : Web := w.map fun l => (l.1, l.2.map g)
def mapSg (g : Pt → Pt) (s : Sg) : Sg := ⟨s.k, s.i, g s.p, g s.q⟩
theorem atP_map {g : Pt → Pt} {ps : List Pt} {i : Nat} (h : i < ps.length) : atP (ps.map g) i = g (atP ps i) := by
  unfold atP
  rw [List.getD_eq_getElem?_getD, List.getD_eq_getElem?_getD, List.getElem?_map, List.getElem?_eq_getElem h]
  rfl
theorem lineSegs_map {g : Pt → Pt} {k : Nat} {l : Ln} (h : 1 ≤ l.2.length) : lineSegs k (l.1, l.2.map g) = (lineSegs k l).map (mapSg g) := by
  unfold lineSegs
  have e : manyF (l.1, l.2.map g) = manyF l := by unfold manyF; rw [List.length_map]
  rw [e, List.map_map]
  refine List.map_congr_left fun i hi => ?_
  rw [List.mem_range] at hi
  have := many_le l
  dsimp only [Function.comp, mapSg]
  rw [List.length_map, atP_map (by omega), atP_map (Nat.mod_lt _ (by omega))]
theorem segs_map {g : Pt → Pt} {w : Web} (h : ∀ l ∈ w, 2 ≤ l.2.length) : ∀ n, n ≤ w.length → segsTo (mapW g w) n = (segsTo w n).map (mapSg g)
  | 0, _ => by simp [segsTo]
  | n + 1, hn => by
    have hl : w[n]? = some w[n] := List.getElem?_eq_getElem (by omega)
    have hl2 : (mapW g w)[n]? = some (w[n].1, w[n].2.map g) := by unfold mapW; rw [List.getElem?_map, hl]; rfl
    have := h w[n] (List.getElem_mem _)
    rw [segsTo_succ hl, segsTo_succ hl2, segs_map h n (by omega), lineSegs_map (by omega), List.map_append]
theorem segsF_map {g : Pt → Pt} {w : Web} (h : ∀ l ∈ w, 2 ≤ l.2.length) : segsF (mapW g w) = (segsF w).map (mapSg g) := by
  rw [← segsTo_all, ← segsTo_all]
  have e : (mapW g w).length = w.length := by unfold mapW; rw [List.length_map]
  rw [e]
  exact segs_map h _ (Nat.le_refl _)
theorem lnAt_map {g : Pt → Pt} {w : Web} {l : Nat} : lnAt (mapW g w) l = ((lnAt w l).1, (lnAt w l).2.map g) := by
  unfold lnAt mapW
  rw [List.getD_eq_getElem?_getD, List.getD_eq_getElem?_getD, List.getElem?_map]
  cases w[l]? with
  | none => rfl
  | some l => rfl
structure Keeps (g : Pt → Pt) : Prop where
  inj : ∀ a b, g a = g b ↔ a = b
  back : ∀ a m c, backF (g a) (g m) (g c) = backF a m c
  touch : ∀ a b c d, touchesF (g a) (g b) (g c) (g d) = touchesF a b c d
theorem meets_map {g : Pt → Pt} (k : Keeps g) {w : Web} {s t : Sg} : meetsF (mapW g w) (mapSg g s) (mapSg g t) = meetsF w s t := by
  have e : ∀ k i l j, closesF (mapW g w) k i l j = closesF w k i l j := fun k i l j => by
    unfold closesF
    rw [lnAt_map, List.length_map]
  unfold meetsF badF mapSg
  dsimp only
  rw [e, k.back, k.back, k.touch]
  congr 1
  exact decide_eq_decide.mpr (k.inj _ _)
theorem look_map {g : Pt → Pt} (k : Keeps g) {w : Web} : ∀ S : List Sg, look (meetsF (mapW g w)) (S.map (mapSg g)) = (look (meetsF w) S).map fun x => (mapSg g x.1, mapSg g x.2)
  | [] => rfl
  | s :: r => by
    have e : ((s :: r).map (mapSg g)).find? (meetsF (mapW g w) (mapSg g s)) = ((s :: r).find? (meetsF w s)).map (mapSg g) := by
      rw [List.find?_map]
      congr 2
      funext t
      exact meets_map k
    show (match ((s :: r).map (mapSg g)).find? (meetsF (mapW g w) (mapSg g s)) with | some t => some (mapSg g s, t) | none => look (meetsF (mapW g w)) (r.map (mapSg g))) = Option.map _ (match (s :: r).find? (meetsF w s) with | some t => some (s, t) | none => look (meetsF w) r)
    rw [e]
    cases (s :: r).find? (meetsF w s) with
    | none => exact look_map k r
    | some t => rfl
theorem meet_map {g : Pt → Pt} (k : Keeps g) {w : Web} (h : ∀ l ∈ w, 2 ≤ l.2.length) : meetD (meetF (mapW g w)) = meetD (meetF w) := by
  unfold meetF
  rw [segsF_map h, look_map k]
  cases look (meetsF w) (segsF w) with
  | none => rfl
  | some x => rfl
/-! the three maps -/
def gMove (t : Int) (p : Pt) : Pt := (p.1 + t, p.2 - t)
def gTip (p : Pt) : Pt := (p.2, p.1)
def gGreat (p : Pt) : Pt := (3 * p.1, 3 * p.2)
theorem mx_add (a b t : Int) : mx (a + t) (b + t) = mx a b + t := by unfold mx; split <;> split <;> omega
theorem mn_add (a b t : Int) : mn (a + t) (b + t) = mn a b + t := by unfold mn; split <;> split <;> omega
theorem apart_add (a b c d t : Int) : apartF (a + t) (b + t) (c + t) (d + t) = apartF a b c d := by
  unfold apartF
  rw [mx_add, mx_add, mn_add, mn_add]
  congr 1 <;> exact decide_eq_decide.mpr (by omega)
theorem mx_three (a b : Int) : mx (3 * a) (3 * b) = 3 * mx a b := by unfold mx; split <;> split <;> omega
theorem mn_three (a b : Int) : mn (3 * a) (3 * b) = 3 * mn a b := by unfold mn; split <;> split <;> omega
theorem apart_three (a b c d : Int) : apartF (3 * a) (3 * b) (3 * c) (3 * d) = apartF a b c d := by
  unfold apartF
  rw [mx_three, mx_three, mn_three, mn_three]
  congr 1 <;> exact decide_eq_decide.mpr (by omega)
theorem turn_move (t : Int) (a b c : Pt) : turnF (gMove t a) (gMove t b) (gMove t c) = turnF a b c := by unfold turnF gMove; dsimp only; grind
theorem turn_tip (a b c : Pt) : turnF (gTip a) (gTip b) (gTip c) = - turnF a b c := by unfold turnF gTip; dsimp only; grind
theorem turn_great (a b c : Pt) : turnF (gGreat a) (gGreat b) (gGreat c) = 9 * turnF a b c := by unfold turnF gGreat; dsimp only; grind
theorem keeps_move (t : Int) : Keeps (gMove t) where
  inj a b := by
    unfold gMove
    rw [Prod.ext_iff, Prod.ext_iff]
    dsimp only
    omega
  back a m c := by
    unfold backF
    rw [turn_move]
    congr 1
    have : ((gMove t a).1 - (gMove t m).1) * ((gMove t c).1 - (gMove t m).1) + ((gMove t a).2 - (gMove t m).2) * ((gMove t c).2 - (gMove t m).2) = (a.1 - m.1) * (c.1 - m.1) + (a.2 - m.2) * (c.2 - m.2) := by unfold gMove; dsimp only; grind
    rw [this]
  touch a b c d := by
    unfold touchesF
    rw [turn_move, turn_move, turn_move, turn_move]
    have e1 : apartF (gMove t a).1 (gMove t b).1 (gMove t c).1 (gMove t d).1 = apartF a.1 b.1 c.1 d.1 := apart_add _ _ _ _ _
    have e2 : apartF (gMove t a).2 (gMove t b).2 (gMove t c).2 (gMove t d).2 = apartF a.2 b.2 c.2 d.2 := by
      have := apart_add a.2 b.2 c.2 d.2 (-t)
      simpa [gMove, Int.sub_eq_add_neg] using this
    rw [e1, e2]
theorem keeps_tip : Keeps gTip where
  inj a b := by
    unfold gTip
    rw [Prod.ext_iff, Prod.ext_iff]
    dsimp only
    exact And.comm
  back a m c := by
    unfold backF
    rw [turn_tip]
    congr 1
    · exact decide_eq_decide.mpr (by omega)
    · have : ((gTip a).1 - (gTip m).1) * ((gTip c).1 - (gTip m).1) + ((gTip a).2 - (gTip m).2) * ((gTip c).2 - (gTip m).2) = (a.1 - m.1) * (c.1 - m.1) + (a.2 - m.2) * (c.2 - m.2) := by unfold gTip; dsimp only; grind
      rw [this]
  touch a b c d := by
    unfold touchesF
    rw [turn_tip, turn_tip, turn_tip, turn_tip, Int.neg_mul_neg, Int.neg_mul_neg]
    unfold gTip
    dsimp only
    rw [Bool.or_comm]
theorem keeps_great : Keeps gGreat where
  inj a b := by
    unfold gGreat
    rw [Prod.ext_iff, Prod.ext_iff]
    dsimp only
    omega
  back a m c := by
    unfold backF
    rw [turn_great]
    congr 1
    · exact decide_eq_decide.mpr (by omega)
    · have : ((gGreat a).1 - (gGreat m).1) * ((gGreat c).1 - (gGreat m).1) + ((gGreat a).2 - (gGreat m).2) * ((gGreat c).2 - (gGreat m).2) = 9 * ((a.1 - m.1) * (c.1 - m.1) + (a.2 - m.2) * (c.2 - m.2)) := by unfold gGreat; dsimp only; grind
      rw [this]
      exact decide_eq_decide.mpr (by omega)
  touch a b c d := by
    unfold touchesF
    rw [turn_great, turn_great, turn_great, turn_great]
    have e1 : apartF (gGreat a).1 (gGreat b).1 (gGreat c).1 (gGreat d).1 = apartF a.1 b.1 c.1 d.1 := apart_three _ _ _ _
    have e2 : apartF (gGreat a).2 (gGreat b).2 (gGreat c).2 (gGreat d).2 = apartF a.2 b.2 c.2 d.2 := apart_three _ _ _ _
    have e3 : ∀ x y : Int, decide (9 * x * (9 * y) ≤ 0) = decide (x * y ≤ 0) := fun x y => decide_eq_decide.mpr (by
      have : 9 * x * (9 * y) = 81 * (x * y) := by grind
      omega)
    rw [e1, e2, e3, e3]
/-! few points -/
structure FewWeb (w : Web) : Prop where
  len : w.length ≤ 20
  two : ∀ l ∈ w, 2 ≤ l.2.length
  few : ∀ l ∈ w, l.2.length ≤ 40
  pts : ∀ l ∈ w, ∀ p ∈ l.2, 0 ≤ p.1 ∧ p.1 ≤ 9 ∧ 0 ≤ p.2 ∧ p.2 ≤ 9
theorem few_map {w : Web} (h : FewWeb w) (g : Pt → Pt) (o : Pt) (hg : ∀ p : Pt, 0 ≤ p.1 ∧ p.1 ≤ 9 ∧ 0 ≤ p.2 ∧ p.2 ≤ 9 → Near o (g p)) : OkWeb o (mapW g w) where
  len := by unfold mapW; rw [List.length_map]; exact h.len
  two := fun l hl => by
    unfold mapW at hl
    rw [List.mem_map] at hl
    obtain ⟨l0, h0, rfl⟩ := hl
    dsimp only
    rw [List.length_map]
    exact h.two l0 h0
  few := fun l hl => by
    unfold mapW at hl
    rw [List.mem_map] at hl
    obtain ⟨l0, h0, rfl⟩ := hl
    dsimp only
    rw [List.length_map]
    exact h.few l0 h0
  near := fun l hl p hp => by
    unfold mapW at hl
    rw [List.mem_map] at hl
    obtain ⟨l0, h0, rfl⟩ := hl
    dsimp only at hp
    rw [List.mem_map] at hp
    obtain ⟨p0, h1, rfl⟩ := hp
    exact hg p0 (h.pts l0 h0 p0 h1)
theorem few_ok {w : Web} (h : FewWeb w) : OkWeb (0, 0) w := ⟨h.len, h.two, h.few, fun l hl p hp => by
  have := h.pts l hl p hp
  exact ⟨by dsimp only; omega, by dsimp only; omega, by dsimp only; omega, by dsimp only; omega⟩⟩
theorem few_move {w : Web} (h : FewWeb w) (t : Int) : OkWeb (t, -t) (mapW (gMove t) w) := few_map h _ _ fun p hp => by unfold gMove; exact ⟨by dsimp only; omega, by dsimp only; omega, by dsimp only; omega, by dsimp only; omega⟩
theorem few_tip {w : Web} (h : FewWeb w) : OkWeb (0, 0) (mapW gTip w) := few_map h _ _ fun p hp => by unfold gTip; exact ⟨by dsimp only; omega, by dsimp only; omega, by dsimp only; omega, by dsimp only; omega⟩
theorem few_great {w : Web} (h : FewWeb w) : OkWeb (0, 0) (mapW gGreat w) := few_map h _ _ fun p hp => by unfold gGreat; exact ⟨by dsimp only; omega, by dsimp only; omega, by dsimp only; omega, by dsimp only; omega⟩
end My
end
section
set_option Elab.async false
set_option linter.all false
set_option maxRecDepth 100000
set_option maxHeartbeats 4000000
namespace My
open PySem PySem.Spec PyProof.Rows L2
local macro_rules | `(tactic| walk_at "dl") => `(tactic| first
  | (with_reducible show PSd _ _ (tAsg _ (gSub (tVar _) (tC (V.int 0)) rSetL)) _ _; refine s_feed0 rfl ?_)
  | (with_reducible show PSd _ _ (tAsg _ (gSub (tVar _) (tC (V.int 1)) rSetL)) _ _; refine s_feed1 rfl ?_)
  | with_reducible refine s_seq ?_ | with_reducible refine s_if ?_ | with_reducible refine s_ret ?_ | with_reducible refine s_asg ?_ | with_reducible refine s_drop ?_ | with_reducible refine s_nil ?_
  | with_reducible refine g_name ?_ | with_reducible refine g_tup rfl ?_ | with_reducible refine gs_cons ?_ | with_reducible refine gs_nil ?_
  | with_reducible refine t_test ?_ | with_reducible refine t_b ?_ | with_reducible refine t_and ?_ | with_reducible refine t_or ?_ | with_reducible refine t_not ?_ | with_reducible refine t_tru ?_
  | with_reducible refine d_chain ?_ | with_reducible refine d_opB ?_ | with_reducible refine d_opI ?_ | with_reducible refine d_opIC ?_ | with_reducible refine d_eqD ?_
  | with_reducible refine d_if ?_ | with_reducible refine d_andV ?_ | with_reducible refine d_orV ?_ | with_reducible refine d_notV ?_
  | with_reducible refine d_int ?_ | with_reducible refine d_bl ?_ | with_reducible refine d_str ?_ | with_reducible refine d_non ?_
  | (with_reducible show PEd _ _ (tVar _) _ _; refine d_var rfl ?_)
  | (with_reducible show PEd _ _ (tOp (rIxL _) (tVar _) _) _ _; refine d_ixF rfl ?_)
  | with_reducible refine d_ixL ?_ | with_reducible refine d_ixT ?_
  | (with_reducible show PAd _ _ (tCons (tVar _) _) _ _; refine a_feed rfl ?_)
  | with_reducible refine a_cons ?_ | with_reducible refine a_nil ?_
  | with_reducible refine d_catT ?_ | with_reducible refine d_cut ?_ | with_reducible refine po_no ?_ | with_reducible refine po_at ?_ | with_reducible refine d_int1 ?_ | with_reducible refine d_tupof ?_ | with_reducible refine t_yes ?_
  | with_reducible refine d_tup ?_ | with_reducible refine d_lst ?_ | with_reducible refine d_len ?_ | with_reducible refine d_minL ?_ | with_reducible refine d_maxL ?_ | with_reducible refine d_cbI2 ?_ | with_reducible refine d_cbI1 ?_
  | (with_reducible show (∃ _, _) ∨ (∃ _, _); first | refine Or.inl ⟨_, rfl, ?_⟩ | refine Or.inr ⟨_, rfl, ?_⟩) | refine ⟨_, rfl, ?_⟩ | refine ⟨_, _, rfl, ?_⟩
  | (with_reducible show (_ = _ ∧ ∀ _, _) ∨ _; first | refine Or.inl ⟨rfl, fun a ha => ?_⟩ | refine Or.inr ⟨rfl, fun b hb hb' => ?_⟩)
  | (with_reducible show PyData.canLay0 _ = true ∧ _; refine And.intro (by first | rfl | assumption | decide +kernel) ?_)
  | (with_reducible show min _ _ ≤ 60 ∧ _; refine And.intro (by first | assumption | (simp [PyData.depth, PyData.depthAll]; done)) ?_)
  | refine ⟨rfl, ?_⟩
  | (refine And.intro ?side ?_; (case side => first | omega | exact Int.ediv_nonneg (by omega) (by omega) | exact Int.emod_nonneg _ (by omega) | exact Int.emod_lt_of_pos _ (by omega) | decide | exact ⟨by decide, by decide, by decide⟩ | exact ⟨by omega, by omega⟩ | exact Or.inl ⟨by omega, by omega⟩ | exact Or.inr ⟨by omega, by omega⟩ | (refine Nat.le_trans (Nat.le_of_eq (by rfl)) (show _ ≤ 1000 by decide)) | ((repeat' apply And.intro) <;> first | rfl | omega | decide | assumption) | (simp [PyData.depth]))))
section
variable {P : Program} {w : World} {K : PySem.W.Frag} {mg : Str → Option Value} {base : Heap} {k : Nat}
theorem ok_lturn (F : Def K mg "_law_turn" s_law_turn ["_law_one", "_law_other", "_law_point"]) : FnIn P w K mg base (k + 1) "_law_turn" ["_law_one", "_law_other", "_law_point"] (spTurnP K) := by
  refine F.ok sc_law_turn rfl fun fa cdv A outer s H E hr => ⟨_, (pss_cons (ps_set (i := 3) sc_law_turn.nd rfl (Or.inl rfl) (pe_op op_sub (pe_ix (ix_tupK (K := K) rfl) (pv 1) pe_int (fun _ _ => rfl)) (pe_ix (ix_tupK (K := K) rfl) (pv 0) pe_int (fun _ _ => rfl)))) (pss_cons (ps_set (i := 4) sc_law_turn.nd rfl (Or.inl rfl) (pe_op op_sub (pe_ix (ix_tupK (K := K) rfl) (pv 1) pe_int (fun _ _ => rfl)) (pe_ix (ix_tupK (K := K) rfl) (pv 0) pe_int (fun _ _ => rfl)))) (pss_one (ps_ret (pe_op op_sub (pe_op op_mul (pv 3) (pe_op op_sub (pe_ix (ix_tupK (K := K) rfl) (pv 2) pe_int (fun _ _ => rfl)) (pe_ix (ix_tupK (K := K) rfl) (pv 0) pe_int (fun _ _ => rfl)))) (pe_op op_mul (pv 4) (pe_op op_sub (pe_ix (ix_tupK (K := K) rfl) (pv 2) pe_int (fun _ _ => rfl)) (pe_ix (ix_tupK (K := K) rfl) (pv 0) pe_int (fun _ _ => rfl))))))))), ?_⟩
  rintro f xs ⟨o, a, b, c⟩ hl ⟨rfl, ⟨a1, a2, a3, a4⟩, ⟨b1, b2, b3, b4⟩, ⟨c1, c2, c3, c4⟩⟩
  try dsimp only [cxOf, cxComp]
  unfold ptD
  dsimp only at *
  repeat walk_at "dl"
  rfl
abbrev sideD (a b : Pt) : PyData := .tuple [ptD a, ptD b]
def co (i : Nat) (p : Pt) : Int := if i = 0 then p.1 else p.2
theorem at_co {p : Pt} {i : Nat} (h : i < 2) : atI [PyData.int p.1, PyData.int p.2] (i : Int) = some (.int (co i p)) := by
  have : i = 0 ∨ i = 1 := by omega
  rcases this with rfl | rfl <;> rfl
abbrev spLapart (K : PySem.W.Frag) : Sp := spD K 3 (fun (c : Pt × Pt × Pt × Pt × Nat) xs => xs = [.dat (sideD c.1 c.2.1), .dat (sideD c.2.2.1 c.2.2.2.1), .dat (.int c.2.2.2.2)] ∧ c.2.2.2.2 < 2) fun c r => r = .bool (decide (mx (co c.2.2.2.2 c.1) (co c.2.2.2.2 c.2.1) < mn (co c.2.2.2.2 c.2.2.1) (co c.2.2.2.2 c.2.2.2.1)))
theorem ok_lapart (F : Def K mg "_law_apart" s_law_apart ["_law_one", "_law_other", "_law_k"]) (m_min : mg "min" = none) (m_max : mg "max" = none) : FnIn P w K mg base (k + 1) "_law_apart" ["_law_one", "_law_other", "_law_k"] (spLapart K) := by
  refine F.ok sc_law_apart rfl fun fa cdv A outer s H E hr => ⟨_, (pss_one (ps_ret (pe_cmpR op_lt (pe_callB (call_max2 rfl) rfl m_max boot_max (pa_cons (pe_ix (ix_tupK (K := K) rfl) (pe_ix (ix_tupK (K := K) rfl) (pv 0) pe_int (fun _ _ => rfl)) (pv 2) (fun _ _ => rfl)) (pa_cons (pe_ix (ix_tupK (K := K) rfl) (pe_ix (ix_tupK (K := K) rfl) (pv 0) pe_int (fun _ _ => rfl)) (pv 2) (fun _ _ => rfl)) pa_nil))) (pe_callB (call_min2 rfl) rfl m_min boot_min (pa_cons (pe_ix (ix_tupK (K := K) rfl) (pe_ix (ix_tupK (K := K) rfl) (pv 1) pe_int (fun _ _ => rfl)) (pv 2) (fun _ _ => rfl)) (pa_cons (pe_ix (ix_tupK (K := K) rfl) (pe_ix (ix_tupK (K := K) rfl) (pv 1) pe_int (fun _ _ => rfl)) (pv 2) (fun _ _ => rfl)) pa_nil))) (nomark _)))), ?_⟩
  rintro f xs ⟨a, b, c, d, i⟩ hl ⟨rfl, hi⟩
  try dsimp only [cxOf, cxComp]
  dsimp only at *
  unfold sideD ptD
  repeat walk_at "dl"
  refine ⟨_, at_co hi, ?_⟩
  repeat walk_at "dl"
  refine ⟨_, at_co hi, ?_⟩
  repeat walk_at "dl"
  refine ⟨_, at_co hi, ?_⟩
  repeat walk_at "dl"
  refine ⟨_, at_co hi, ?_⟩
  repeat walk_at "dl"
  rfl
abbrev spLtouch (K : PySem.W.Frag) : Sp := spD K 2 (fun (c : Pt × Pt × Pt × Pt × Pt) xs => xs = [.dat (sideD c.2.1 c.2.2.1), .dat (sideD c.2.2.2.1 c.2.2.2.2)] ∧ Near c.1 c.2.1 ∧ Near c.1 c.2.2.1 ∧ Near c.1 c.2.2.2.1 ∧ Near c.1 c.2.2.2.2) fun c r => r = .bool (touchesF c.2.1 c.2.2.1 c.2.2.2.1 c.2.2.2.2)
theorem touch_law (a b c d : Pt) (h : (apartF a.1 b.1 c.1 d.1 || apartF a.2 b.2 c.2 d.2) = false) : touchesF a b c d = (decide (mn (turnF a b c) (turnF a b d) ≤ 0 ∧ 0 ≤ mx (turnF a b c) (turnF a b d)) && decide (mn (turnF c d a) (turnF c d b) ≤ 0 ∧ 0 ≤ mx (turnF c d a) (turnF c d b))) := by
  unfold touchesF
  rw [h, Bool.not_false, Bool.true_and]
  congr 1 <;> exact decide_eq_decide.mpr (prod_sign _ _)
theorem ok_ltouch (F : Def K mg "_law_touch" s_law_touch ["_law_one", "_law_other"]) (m_min : mg "min" = none) (m_max : mg "max" = none) (m_range : mg "range" = none) (G__law_apart : FnIn P w K mg base k "_law_apart" ["_law_one", "_law_other", "_law_k"] (spLapart K)) (G__law_turn : FnIn P w K mg base k "_law_turn" ["_law_one", "_law_other", "_law_point"] (spTurnP K)) :
    FnIn P w K mg base (k + 1) "_law_touch" ["_law_one", "_law_other"] (spLtouch K) := by
  refine F.ok sc_law_touch rfl fun fa cdv A outer s H E hr => ⟨_, (pss_cons (ps_for PassesOwn.never rfl (pi_range1 rfl m_range (pa_cons pe_int pa_nil)) (pg_name (i := 2) sc_law_touch.nd rfl (Or.inl rfl) (Or.inr rfl)) (pss_one (ps_if (PW.pt (pw_or (pt_truK (K := K) rfl (pe_callI G__law_apart hr rfl (pa_cons (pv 0) (pa_cons (pv 1) (pa_cons (pv 2) pa_nil)))) (fun _ => rfl)) (pw_or1 (pt_truK (K := K) rfl (pe_callI G__law_apart hr rfl (pa_cons (pv 1) (pa_cons (pv 0) (pa_cons (pv 2) pa_nil)))) (fun _ => rfl))))) (pss_one (ps_ret pe_bl)) pss_nil))) (pss_cons (ps_set (i := 3) sc_law_touch.nd rfl (Or.inl rfl) (pe_callI G__law_turn hr rfl (pa_cons (pe_ix (ix_tupK (K := K) rfl) (pv 0) pe_int (fun _ _ => rfl)) (pa_cons (pe_ix (ix_tupK (K := K) rfl) (pv 0) pe_int (fun _ _ => rfl)) (pa_cons (pe_ix (ix_tupK (K := K) rfl) (pv 1) pe_int (fun _ _ => rfl)) pa_nil))))) (pss_cons (ps_set (i := 4) sc_law_touch.nd rfl (Or.inl rfl) (pe_callI G__law_turn hr rfl (pa_cons (pe_ix (ix_tupK (K := K) rfl) (pv 0) pe_int (fun _ _ => rfl)) (pa_cons (pe_ix (ix_tupK (K := K) rfl) (pv 0) pe_int (fun _ _ => rfl)) (pa_cons (pe_ix (ix_tupK (K := K) rfl) (pv 1) pe_int (fun _ _ => rfl)) pa_nil))))) (pss_cons (ps_set (i := 5) sc_law_touch.nd rfl (Or.inl rfl) (pe_callI G__law_turn hr rfl (pa_cons (pe_ix (ix_tupK (K := K) rfl) (pv 1) pe_int (fun _ _ => rfl)) (pa_cons (pe_ix (ix_tupK (K := K) rfl) (pv 1) pe_int (fun _ _ => rfl)) (pa_cons (pe_ix (ix_tupK (K := K) rfl) (pv 0) pe_int (fun _ _ => rfl)) pa_nil))))) (pss_cons (ps_set (i := 6) sc_law_touch.nd rfl (Or.inl rfl) (pe_callI G__law_turn hr rfl (pa_cons (pe_ix (ix_tupK (K := K) rfl) (pv 1) pe_int (fun _ _ => rfl)) (pa_cons (pe_ix (ix_tupK (K := K) rfl) (pv 1) pe_int (fun _ _ => rfl)) (pa_cons (pe_ix (ix_tupK (K := K) rfl) (pv 0) pe_int (fun _ _ => rfl)) pa_nil))))) (pss_one (ps_ret (pe_and (pe_chain op_le op_le (pe_callB (call_min2 rfl) rfl m_min boot_min (pa_cons (pv 3) (pa_cons (pv 4) pa_nil))) pe_int (pe_callB (call_max2 rfl) rfl m_max boot_max (pa_cons (pv 3) (pa_cons (pv 4) pa_nil)))) (pe_one (pe_chain op_le op_le (pe_callB (call_min2 rfl) rfl m_min boot_min (pa_cons (pv 5) (pa_cons (pv 6) pa_nil))) pe_int (pe_callB (call_max2 rfl) rfl m_max boot_max (pa_cons (pv 5) (pa_cons (pv 6) pa_nil))))))))))))), ?_⟩
  rintro f xs ⟨o, a, b, c, d⟩ hl ⟨rfl, na, nb, nc, nd⟩
  try dsimp only [cxOf, cxComp]
  dsimp only at *
  have ap : ∀ i, i < 2 → apartF (co i a) (co i b) (co i c) (co i d) = true → touchesF a b c d = false := fun i hi h => by
    unfold touchesF
    have : i = 0 ∨ i = 1 := by omega
    rcases this with rfl | rfl
    · rw [show apartF a.1 b.1 c.1 d.1 = true from h]; rfl
    · rw [show apartF a.2 b.2 c.2 d.2 = true from h, Bool.or_true]; rfl
  refine s_seq (s_for (i_range ?_))
  repeat walk_at "dl"
  refine ⟨fun n ρ => (∃ x2 x3 x4 x5 x6, ρ = [some (.dat (sideD a b)), some (.dat (sideD c d)), x2, x3, x4, x5, x6]) ∧ ∀ i, i < n → apartF (co i a) (co i b) (co i c) (co i d) = false, ⟨⟨_, _, _, _, _, rfl⟩, fun i hi => by omega⟩, ?_, ?_⟩
  · rintro n e _ he ⟨⟨x2, x3, x4, x5, x6, rfl⟩, hall⟩
    obtain ⟨hn, rfl⟩ := range_at he
    have hn2 : n < 2 := hn
    refine g_name (s_if (t_or (t_tru (d_call (a, b, c, d, n) ?_))))
    repeat walk_at "dl"
    rintro _ rfl
    refine ⟨_, rfl, ?_⟩
    dsimp only
    refine ite_b (fun h => ?_) fun h => ?_
    · rw [if_pos rfl]
      repeat walk_at "dl"
      show PyData.bool false = PyData.bool _
      rw [ap n hn2 (by unfold apartF; rw [h]; rfl)]
    · refine t_tru (d_call (c, d, a, b, n) ?_)
      repeat walk_at "dl"
      rintro _ rfl
      refine ⟨_, rfl, ?_⟩
      dsimp only
      refine ite_b (fun h' => ?_) fun h' => ?_
      · repeat walk_at "dl"
        show PyData.bool false = PyData.bool _
        rw [ap n hn2 (by unfold apartF; rw [h', Bool.or_true])]
      · refine s_nil ⟨⟨_, _, _, _, _, rfl⟩, fun i hi => ?_⟩
        by_cases hin : i = n
        · subst hin
          unfold apartF
          rw [h, h']
          rfl
        · exact hall i (by omega)
  · rintro _ ⟨⟨x2, x3, x4, x5, x6, rfl⟩, hall⟩
    have a0 : apartF a.1 b.1 c.1 d.1 = false := hall 0 (by show 0 < 2; decide)
    have a1 : apartF a.2 b.2 c.2 d.2 = false := hall 1 (by show 1 < 2; decide)
    have tl := touch_law a b c d (by rw [a0, a1]; rfl)
    refine s_seq (s_asg (d_call (o, a, b, c) ?_))
    unfold sideD
    repeat walk_at "dl"
    rintro _ rfl
    refine g_name (s_seq (s_asg (d_call (o, a, b, d) ?_)))
    repeat walk_at "dl"
    rintro _ rfl
    refine g_name (s_seq (s_asg (d_call (o, c, d, a) ?_)))
    repeat walk_at "dl"
    rintro _ rfl
    refine g_name (s_seq (s_asg (d_call (o, c, d, b) ?_)))
    repeat walk_at "dl"
    rintro _ rfl
    dsimp only
    repeat walk_at "dl"
    have fin : ∀ x : Bool, x = touchesF a b c d → PyData.bool x = PyData.bool (touchesF a b c d) := fun x h => by rw [h]
    rw [Bool.decide_and, Bool.decide_and] at tl
    unfold mn mx at tl
    refine ite_b (fun h => ?_) fun h => ?_
    · repeat walk_at "dl"
      refine ite_b (fun h2 => ?_) fun h2 => ?_
      · repeat walk_at "dl"
        refine ite_b (fun h3 => ?_) fun h3 => ?_
        · repeat walk_at "dl"
          refine fin _ ?_
          rw [tl, h, h2, h3]
          rfl
        · refine fin _ ?_
          rw [tl, h, h2, h3]
          rfl
      · refine fin _ ?_
        rw [tl, h, h2]
        rfl
    · refine ⟨_, rfl, ?_⟩
      rw [if_neg Bool.false_ne_true]
      refine fin _ ?_
      rw [tl, h]
      rfl
theorem ok_lfolds (F : Def K mg "_law_folds" s_law_folds ["_law_one", "_law_middle", "_law_other"]) (G__law_turn : FnIn P w K mg base k "_law_turn" ["_law_one", "_law_other", "_law_point"] (spTurnP K)) : FnIn P w K mg base (k + 1) "_law_folds" ["_law_one", "_law_middle", "_law_other"] (spBack K) := by
  refine F.ok sc_law_folds rfl fun fa cdv A outer s H E hr => ⟨_, (pss_cons (ps_if (PW.pt (pw_or (pt_cmpR (op_neK (K := K) rfl hr.units) (pe_callI G__law_turn hr rfl (pa_cons (pv 1) (pa_cons (pv 0) (pa_cons (pv 2) pa_nil)))) pe_int (nomark _)) (pw_or (pt_cmpR (op_eqK (K := K) rfl hr.units) (pv 0) (pv 1) (nomark _)) (pw_or1 (pt_cmpR (op_eqK (K := K) rfl hr.units) (pv 2) (pv 1) (nomark _)))))) (pss_one (ps_ret pe_bl)) pss_nil) (pss_cons (ps_set (i := 3) sc_law_folds.nd rfl (Or.inl rfl) (pe_op op_mul (pe_op op_sub (pe_ix (ix_tupK (K := K) rfl) (pv 0) pe_int (fun _ _ => rfl)) (pe_ix (ix_tupK (K := K) rfl) (pv 1) pe_int (fun _ _ => rfl))) (pe_op op_sub (pe_ix (ix_tupK (K := K) rfl) (pv 2) pe_int (fun _ _ => rfl)) (pe_ix (ix_tupK (K := K) rfl) (pv 1) pe_int (fun _ _ => rfl))))) (pss_one (ps_ret (pe_cmpR op_gt (pe_op op_add (pv 3) (pe_op op_mul (pe_op op_sub (pe_ix (ix_tupK (K := K) rfl) (pv 0) pe_int (fun _ _ => rfl)) (pe_ix (ix_tupK (K := K) rfl) (pv 1) pe_int (fun _ _ => rfl))) (pe_op op_sub (pe_ix (ix_tupK (K := K) rfl) (pv 2) pe_int (fun _ _ => rfl)) (pe_ix (ix_tupK (K := K) rfl) (pv 1) pe_int (fun _ _ => rfl))))) pe_int (nomark _)))))), ?_⟩
  rintro f xs ⟨o, a, m, c⟩ hl ⟨rfl, na, nm, nc⟩
  try dsimp only [cxOf, cxComp]
  dsimp only at *
  have fin : ∀ x : Bool, x = backF a m c → PyData.bool x = PyData.bool (backF a m c) := fun x h => by rw [h]
  have d1 := dep_pt a m
  have d2 := dep_pt c m
  refine s_seq (s_if (t_or (t_test (d_eqD (d_call (o, m, a, c) ?_)))))
  repeat walk_at "dl"
  rintro _ rfl
  dsimp only
  repeat walk_at "dl"
  rw [if_pos rfl, eqv_int]
  refine ite_b (fun h => ?_) fun h => ?_
  · rw [if_pos rfl]
    repeat walk_at "dl"
    refine fin _ ?_
    have h' : ¬ turnF a m c = 0 := fun z => by
      rw [decide_eq_true ((fold_zero m a c).mpr z)] at h
      cases h
    unfold backF
    rw [decide_eq_false h']
    rfl
  · have h' : turnF a m c = 0 := by
      refine (fold_zero m a c).mp (Decidable.byContradiction fun z => ?_)
      rw [decide_eq_false z] at h
      cases h
    repeat walk_at "dl"
    rw [if_neg Bool.false_ne_true, eqv_pt]
    refine ite_b (fun h2 => ?_) fun h2 => ?_
    · rw [if_pos rfl]
      repeat walk_at "dl"
      refine fin _ ?_
      rw [back_same (.inl (of_decide_eq_true h2))]
    · repeat walk_at "dl"
      rw [if_neg Bool.false_ne_true, eqv_pt]
      refine ite_b (fun h3 => ?_) fun h3 => ?_
      · repeat walk_at "dl"
        refine fin _ ?_
        rw [back_same (.inr (of_decide_eq_true h3))]
      · obtain ⟨a1, a2, a3, a4⟩ := na
        obtain ⟨b1, b2, b3, b4⟩ := nm
        obtain ⟨c1, c2, c3, c4⟩ := nc
        unfold ptD
        repeat walk_at "dl"
        refine fin _ ?_
        unfold backF
        rw [decide_eq_true h']
        rfl
abbrev spLsegs (K : PySem.W.Frag) : Sp := spD K 1 (fun (c : Pt × Web) xs => xs = [.dat (webD c.2)] ∧ OkWeb c.1 c.2) fun c r => r = .list ((segsF c.2).map lsegD)
theorem ok_lsegments (F : Def K mg "_law_segments" s_law_segments ["_law_web"]) (m_len : mg "len" = none) (m_range : mg "range" = none) (m_int : mg "int" = none) : FnIn P w K mg base (k + 1) "_law_segments" ["_law_web"] (spLsegs K) := by
  refine F.ok sc_law_segments rfl fun fa cdv A outer s H E hr => ⟨_, (pss_cons (ps_set (i := 1) sc_law_segments.nd rfl (Or.inl rfl) (pe_lst pa_nil)) (pss_cons (ps_for PassesOwn.never rfl (pi_range1 rfl m_range (pa_cons (pe_callB (call_lenK (K := K) rfl) rfl m_len PySem.boot_len (pa_cons (pv 0) pa_nil)) pa_nil)) (pg_name (i := 2) sc_law_segments.nd rfl (Or.inl rfl) (Or.inr rfl)) (pss_cons (ps_asg (pe_ix (ix_listK (K := K) rfl) (pv 0) (pv 2) (fun _ _ => rfl)) (pg_tupK (K := K) (n := 2) rfl rfl (pgs_cons (pg_name (i := 3) sc_law_segments.nd rfl (Or.inl rfl) (Or.inr rfl)) (pgs_cons (pg_name (i := 4) sc_law_segments.nd rfl (Or.inl rfl) (Or.inr rfl)) pgs_nil)))) (pss_one (ps_for PassesOwn.never rfl (pi_range1 rfl m_range (pa_cons (pe_op op_sub (pe_callB (call_lenK (K := K) rfl) rfl m_len PySem.boot_len (pa_cons (pv 4) pa_nil)) (pe_callTy call_int1 rfl m_int PyProof.Rows.boot_int (pa_cons (pe_cmpR (op_eqK (K := K) rfl hr.units) (pv 3) pe_str (nomark _)) pa_nil))) pa_nil)) (pg_name (i := 5) sc_law_segments.nd rfl (Or.inl rfl) (Or.inr rfl)) (pss_one (ps_expr (pe_bm PySem.F.plainAttrs_list PySem.F.slot_list_append PySem.F.type_list_append mt_append (pv 1) (pa_cons (pe_tup (pa_cons (pv 2) (pa_cons (pv 5) (pa_cons (pe_tup (pa_cons (pe_ix (ix_tupK (K := K) rfl) (pv 4) (pv 5) (fun _ _ => rfl)) (pa_cons (pe_ix (ix_tupK (K := K) rfl) (pv 4) (pe_op op_mod (pe_op op_add (pv 5) pe_int) (pe_callB (call_lenK (K := K) rfl) rfl m_len PySem.boot_len (pa_cons (pv 4) pa_nil))) (fun _ _ => rfl)) pa_nil))) pa_nil)))) pa_nil)))))))) (pss_one (ps_ret (pv 1))))), ?_⟩
  rintro f xs ⟨o, w⟩ hl ⟨rfl, g⟩
  try dsimp only [cxOf, cxComp]
  dsimp only at *
  have wl := g.len
  have wl' : (w.map lnD).length ≤ 20 := by rw [List.length_map]; exact g.len
  refine s_own (o_nil ⟨show 1 < 6 by decide, fun D => ?_⟩)
  refine o_for (i_range ?_)
  unfold webD
  repeat walk_at "dl"
  rw [List.length_map]
  refine ⟨fun n ρ es => (∃ x2 x3 x4 x5, ρ = [some (.dat (webD w)), some (.own f.M.length), x2, x3, x4, x5]) ∧ es = (segsTo w n).map lsegD, ⟨⟨_, _, _, _, rfl⟩, rfl⟩, ?_, ?_⟩
  · rintro n d _ _ hd ⟨⟨x2, x3, x4, x5, rfl⟩, rfl⟩
    obtain ⟨hn, rfl⟩ := range_at hd
    rw [Int.toNat_natCast] at hn
    have h2 : w[n]? = some (lnAt w n) := by
      unfold lnAt
      rw [List.getD_eq_getElem?_getD, List.getElem?_eq_getElem hn]
      rfl
    have hm := List.mem_of_getElem? h2
    have two := g.two _ hm
    have few := g.few _ hm
    have le := segsTo_le g.few n (by omega)
    have ml := many_le (lnAt w n)
    have lw := lay_word (lnAt w n).1
    refine g_name (o_seq (o_lift (s_asg ?_)))
    unfold webD
    repeat walk_at "dl"
    refine ⟨_, at_web rfl hn, ?_⟩
    unfold lnD
    repeat walk_at "dl"
    refine o_for (i_range ?_)
    repeat walk_at "dl"
    rw [if_neg Bool.false_ne_true, word_run, List.length_map]
    have em : (((lnAt w n).2.length : Int) - if (!(lnAt w n).1) = true then 1 else 0) = (manyF (lnAt w n) : Int) := by
      unfold manyF
      cases (lnAt w n).1 with
      | true => rw [Bool.not_true, if_neg Bool.false_ne_true, if_pos rfl]; omega
      | false => rw [Bool.not_false, if_pos rfl, if_neg Bool.false_ne_true]; omega
    rw [em]
    refine ⟨by omega, fun m ρ es => (∃ x5, ρ = [some (.dat (webD w)), some (.own f.M.length), some (.dat (.int n)), some (.dat (.str (wordD (lnAt w n).1))), some (.dat (.tuple ((lnAt w n).2.map ptD))), x5]) ∧ es = (segsTo w n ++ (lineSegs n (lnAt w n)).take m).map lsegD, ⟨⟨_, rfl⟩, by rw [List.take_zero, List.append_nil]⟩, ?_, ?_⟩
    · rintro m d _ _ hd ⟨⟨x5, rfl⟩, rfl⟩
      obtain ⟨hm', rfl⟩ := range_at hd
      rw [Int.toNat_natCast] at hm'
      refine g_name (o_app rfl ?_ ?_)
      · rw [List.length_map, List.length_append, List.length_take, lineSegs_len]
        omega
      repeat walk_at "dl"
      refine ⟨_, at_pts rfl (by omega), ?_⟩
      repeat walk_at "dl"
      rw [List.length_map]
      refine ⟨by omega, _, rfl, _, at_pts (j := (m + 1) % (lnAt w n).2.length) (by rw [Int.natCast_emod]; rfl) (Nat.mod_lt _ (by omega)), ?_⟩
      repeat walk_at "dl"
      rw [lineSegs_take hm', ← List.append_assoc]
      simp only [List.map_append]
      rfl
    · rintro _ _ ⟨⟨x5, rfl⟩, rfl⟩
      refine ⟨⟨_, _, _, _, rfl⟩, ?_⟩
      rw [segsTo_succ h2, range_len, Int.toNat_natCast, List.take_of_length_le (by rw [lineSegs_len]; exact Nat.le_refl _)]
  · rintro _ _ ⟨⟨x2, x3, x4, x5, rfl⟩, rfl⟩
    refine ⟨rfl, ?_⟩
    rw [range_len, Int.toNat_natCast, segsTo_all]
    repeat walk_at "dl"
    rfl
abbrev spLbad (K : PySem.W.Frag) : Sp := spD K 3 (fun (c : Pt × Web × Sg × Sg) xs => xs = [.dat (webD c.2.1), .dat (lsegD c.2.2.1), .dat (lsegD c.2.2.2)] ∧ OkWeb c.1 c.2.1 ∧ SegOf c.2.1 c.2.2.1 ∧ SegOf c.2.1 c.2.2.2) fun c r => r = .bool (badF c.2.1 c.2.2.1 c.2.2.2)
theorem ok_lbad (F : Def K mg "_law_bad" s_law_bad ["_law_web", "_law_here", "_law_there"]) (m_len : mg "len" = none) (G__law_folds : FnIn P w K mg base k "_law_folds" ["_law_one", "_law_middle", "_law_other"] (spBack K)) (G__law_touch : FnIn P w K mg base k "_law_touch" ["_law_one", "_law_other"] (spLtouch K)) :
    FnIn P w K mg base (k + 1) "_law_bad" ["_law_web", "_law_here", "_law_there"] (spLbad K) := by
  refine F.ok sc_law_bad rfl fun fa cdv A outer s H E hr => ⟨_, (pss_cons (ps_asg (pv 1) (pg_tupK (K := K) (n := 3) rfl rfl (pgs_cons (pg_name (i := 3) sc_law_bad.nd rfl (Or.inl rfl) (Or.inr rfl)) (pgs_cons (pg_name (i := 4) sc_law_bad.nd rfl (Or.inl rfl) (Or.inr rfl)) (pgs_cons (pg_name (i := 5) sc_law_bad.nd rfl (Or.inl rfl) (Or.inr rfl)) pgs_nil))))) (pss_cons (ps_set (i := 6) sc_law_bad.nd rfl (Or.inl rfl) (pe_callB (call_lenK (K := K) rfl) rfl m_len PySem.boot_len (pa_cons (pe_ix (ix_tupK (K := K) rfl) (pe_ix (ix_listK (K := K) rfl) (pv 0) (pv 3) (fun _ _ => rfl)) pe_int (fun _ _ => rfl)) pa_nil))) (pss_cons (ps_if (PW.pt (pw_and (pt_cmpR (op_eqK (K := K) rfl hr.units) (pv 3) (pe_ix (ix_tupK (K := K) rfl) (pv 2) pe_int (fun _ _ => rfl)) (nomark _)) (pw_and1 (pt_cmpR (op_eqK (K := K) rfl hr.units) (pe_ix (ix_tupK (K := K) rfl) (pv 2) pe_int (fun _ _ => rfl)) (pe_op op_add (pv 4) pe_int) (nomark _))))) (pss_one (ps_ret (pe_callI G__law_folds hr rfl (pa_cons (pe_ix (ix_tupK (K := K) rfl) (pv 5) pe_int (fun _ _ => rfl)) (pa_cons (pe_ix (ix_tupK (K := K) rfl) (pv 5) pe_int (fun _ _ => rfl)) (pa_cons (pe_ix (ix_tupK (K := K) rfl) (pe_ix (ix_tupK (K := K) rfl) (pv 2) pe_int (fun _ _ => rfl)) pe_int (fun _ _ => rfl)) pa_nil)))))) pss_nil) (pss_cons (ps_if (PW.pt (pw_and (pt_cmpR (op_eqK (K := K) rfl hr.units) (pv 3) (pe_ix (ix_tupK (K := K) rfl) (pv 2) pe_int (fun _ _ => rfl)) (nomark _)) (pw_and (pt_cmpR (op_eqK (K := K) rfl hr.units) (pe_ix (ix_tupK (K := K) rfl) (pe_ix (ix_listK (K := K) rfl) (pv 0) (pv 3) (fun _ _ => rfl)) pe_int (fun _ _ => rfl)) pe_str (nomark _)) (pw_and (pt_cmpR (op_eqK (K := K) rfl hr.units) (pv 4) pe_int (nomark _)) (pw_and1 (pt_cmpR (op_eqK (K := K) rfl hr.units) (pe_ix (ix_tupK (K := K) rfl) (pv 2) pe_int (fun _ _ => rfl)) (pe_op op_sub (pv 6) pe_int) (nomark _))))))) (pss_one (ps_ret (pe_callI G__law_folds hr rfl (pa_cons (pe_ix (ix_tupK (K := K) rfl) (pe_ix (ix_tupK (K := K) rfl) (pv 2) pe_int (fun _ _ => rfl)) pe_int (fun _ _ => rfl)) (pa_cons (pe_ix (ix_tupK (K := K) rfl) (pv 5) pe_int (fun _ _ => rfl)) (pa_cons (pe_ix (ix_tupK (K := K) rfl) (pv 5) pe_int (fun _ _ => rfl)) pa_nil)))))) pss_nil) (pss_one (ps_ret (pe_callI G__law_touch hr rfl (pa_cons (pv 5) (pa_cons (pe_ix (ix_tupK (K := K) rfl) (pv 2) pe_int (fun _ _ => rfl)) pa_nil))))))))), ?_⟩
  rintro f xs ⟨o, w, s, t⟩ hl ⟨rfl, g, sm, tm⟩
  try dsimp only [cxOf, cxComp]
  dsimp only at *
  obtain ⟨n1, n2⟩ := sm.near g
  obtain ⟨n3, n4⟩ := tm.near g
  have lw := lay_word (lnAt w s.k).1
  have two := g.two _ (lnAt_mem tm.k)
  have fin : ∀ x : Bool, x = badF w s t → PyData.bool x = PyData.bool (badF w s t) := fun x h => by rw [h]
  have tch : badF w s t = touchesF s.p s.q t.p t.q → PSd K f (tRet (tCall (spLtouch K) [] E0 (tCons (tVar 5) (tCons (tOp (rIxT K) (tVar 2) (tC (V.int 2))) tNil))))
      [some (.dat (webD w)), some (.dat (lsegD s)), some (.dat (lsegD t)), some (.dat (.int s.k)), some (.dat (.int s.i)), some (.dat (sideD s.p s.q)), some (.dat (.int (lnAt w s.k).2.length))] { nx := fun _ => PyData.none = PyData.bool (badF w s t), rt := fun r => r = .bool (badF w s t) } := fun he => by
    refine s_ret (d_call (o, s.p, s.q, t.p, t.q) ?_)
    unfold lsegD
    repeat walk_at "dl"
    rintro _ rfl
    exact fin _ he.symm
  have second : ¬ (s.k = t.k ∧ s.i + 1 = t.i) → PSd K f (tSeq (tIfS (tAnd (tTest (tOp (rEqD K false) (tVar 3) (tOp (rIxT K) (tVar 2) (tC (V.int 0))))) (tAnd (tTest (tOp (rEqD K false) (tOp (rIxT K) (tOp (rIxL K) (tVar 0) (tVar 3)) (tC (V.int 0))) (tC (V.str "ring")))) (tAnd (tTest (tOp (rEqD K false) (tVar 4) (tC (V.int 0)))) (tTest (tOp (rEqD K false) (tOp (rIxT K) (tVar 2) (tC (V.int 1))) (tOp (rI0 fun i j => V.int (i - j)) (tVar 6) (tC (V.int 1)))))))) (tRet (tCall (spBack K) [] E0 (tCons (tOp (rIxT K) (tOp (rIxT K) (tVar 2) (tC (V.int 2))) (tC (V.int 0))) (tCons (tOp (rIxT K) (tVar 5) (tC (V.int 0))) (tCons (tOp (rIxT K) (tVar 5) (tC (V.int 1))) tNil))))) tNext)
      (tRet (tCall (spLtouch K) [] E0 (tCons (tVar 5) (tCons (tOp (rIxT K) (tVar 2) (tC (V.int 2))) tNil)))))
      [some (.dat (webD w)), some (.dat (lsegD s)), some (.dat (lsegD t)), some (.dat (.int s.k)), some (.dat (.int s.i)), some (.dat (sideD s.p s.q)), some (.dat (.int (lnAt w s.k).2.length))] { nx := fun _ => PyData.none = PyData.bool (badF w s t), rt := fun r => r = .bool (badF w s t) } := fun hne => by
    have cl : closesF w s.k s.i t.k t.i = ((lnAt w t.k).1 && (decide (s.k = t.k ∧ s.i = 0) && decide ((t.i : Int) = (lnAt w t.k).2.length - 1))) := rfl
    have nb : closesF w s.k s.i t.k t.i = false → badF w s t = touchesF s.p s.q t.p t.q := fun h => by
      unfold badF
      rw [if_neg hne, if_neg (by rw [h]; exact Bool.false_ne_true)]
    refine s_seq (s_if ?_)
    unfold lsegD
    repeat walk_at "dl"
    rw [if_neg Bool.false_ne_true, eqv_int]
    refine ite_b (fun h1 => ?_) fun h1 => ?_
    · have h1' := of_decide_eq_true h1
      have ek : s.k = t.k := by omega
      repeat walk_at "dl"
      unfold webD
      repeat walk_at "dl"
      refine ⟨_, at_web rfl sm.k, ?_⟩
      unfold lnD
      repeat walk_at "dl"
      rw [if_neg Bool.false_ne_true, word_ring]
      refine ite_b (fun h2 => ?_) fun h2 => ?_
      · repeat walk_at "dl"
        rw [if_neg Bool.false_ne_true, eqv_int]
        refine ite_b (fun h3 => ?_) fun h3 => ?_
        · repeat walk_at "dl"
          rw [if_neg Bool.false_ne_true, eqv_int]
          have h3' := of_decide_eq_true h3
          refine ite_b (fun h4 => ?_) fun h4 => ?_
          · have h4' := of_decide_eq_true h4
            have hc : closesF w s.k s.i t.k t.i = true := by
              rw [cl, ← ek, h2, decide_eq_true (by omega), decide_eq_true (by omega)]
              rfl
            refine s_ret (d_call (o, t.p, s.p, s.q) ?_)
            unfold sideD
            repeat walk_at "dl"
            rintro _ rfl
            refine fin _ ?_
            unfold badF
            rw [if_neg hne, if_pos hc, close_end sm tm (by omega) hc]
          · have h4' := of_decide_eq_false h4
            refine s_nil (tch (nb ?_))
            rw [cl, ← ek, decide_eq_false (p := ((t.i : Int) = (lnAt w s.k).2.length - 1)) (by omega), Bool.and_false, Bool.and_false]
        · have h3' := of_decide_eq_false h3
          refine s_nil (tch (nb ?_))
          rw [cl, decide_eq_false (p := (s.k = t.k ∧ s.i = 0)) (by omega), Bool.false_and, Bool.and_false]
      · refine s_nil (tch (nb ?_))
        rw [cl, ← ek, h2, Bool.false_and]
    · have h1' := of_decide_eq_false h1
      refine s_nil (tch (nb ?_))
      rw [cl, decide_eq_false (p := (s.k = t.k ∧ s.i = 0)) (by omega), Bool.false_and, Bool.and_false]
  unfold lsegD webD
  repeat walk_at "dl"
  refine ⟨_, at_web rfl sm.k, ?_⟩
  unfold lnD
  repeat walk_at "dl"
  rw [if_neg Bool.false_ne_true, eqv_int]
  rw [List.length_map]
  refine ite_b (fun h1 => ?_) fun h1 => ?_
  · have h1' := of_decide_eq_true h1
    repeat walk_at "dl"
    rw [if_neg Bool.false_ne_true, eqv_int]
    refine ite_b (fun h2 => ?_) fun h2 => ?_
    · have h2' := of_decide_eq_true h2
      refine s_ret (d_call (o, s.p, s.q, t.q) ?_)
      repeat walk_at "dl"
      rintro _ rfl
      refine fin _ ?_
      unfold badF
      rw [if_pos (by omega)]
    · have h2' := of_decide_eq_false h2
      exact s_nil (second (by omega))
  · have h1' := of_decide_eq_false h1
    exact s_nil (second (by omega))
abbrev spLmeeting (K : PySem.W.Frag) : Sp := spD K 1 (fun (c : Pt × Web) xs => xs = [.dat (webD c.2)] ∧ OkWeb c.1 c.2) fun c r => r = meetD (meetF c.2)
theorem ok_lmeeting (F : Def K mg "_law_meeting" s_law_meeting ["_law_web"]) (m_len : mg "len" = none) (m_range : mg "range" = none) (G__law_segments : FnIn P w K mg base k "_law_segments" ["_law_web"] (spLsegs K)) (G__law_bad : FnIn P w K mg base k "_law_bad" ["_law_web", "_law_here", "_law_there"] (spLbad K)) : FnIn P w K mg base (k + 1) "_law_meeting" ["_law_web"] (spLmeeting K) := by
  refine F.ok sc_law_meeting rfl fun fa cdv A outer s H E hr => ⟨_, (pss_cons (ps_set (i := 1) sc_law_meeting.nd rfl (Or.inl rfl) (pe_callI G__law_segments hr rfl (pa_cons (pv 0) pa_nil))) (pss_cons (ps_for PassesOwn.never rfl (pi_range1 rfl m_range (pa_cons (pe_callB (call_lenK (K := K) rfl) rfl m_len PySem.boot_len (pa_cons (pv 1) pa_nil)) pa_nil)) (pg_name (i := 2) sc_law_meeting.nd rfl (Or.inl rfl) (Or.inr rfl)) (pss_cons (ps_asg (pe_ix (ix_listK (K := K) rfl) (pv 1) (pv 2) (fun _ _ => rfl)) (pg_tupK (K := K) (n := 3) rfl rfl (pgs_cons (pg_name (i := 3) sc_law_meeting.nd rfl (Or.inl rfl) (Or.inr rfl)) (pgs_cons (pg_name (i := 4) sc_law_meeting.nd rfl (Or.inl rfl) (Or.inr rfl)) (pgs_cons (pg_name (i := 5) sc_law_meeting.nd rfl (Or.inl rfl) (Or.inr rfl)) pgs_nil))))) (pss_cons (ps_if (pt_cmpR (op_eqK (K := K) rfl hr.units) (pe_ix (ix_tupK (K := K) rfl) (pv 5) pe_int (fun _ _ => rfl)) (pe_ix (ix_tupK (K := K) rfl) (pv 5) pe_int (fun _ _ => rfl)) (nomark _)) (pss_one (ps_ret (pe_tup (pa_cons (pv 3) (pa_cons (pv 4) (pa_cons (pv 3) (pa_cons (pv 4) pa_nil))))))) pss_nil) (pss_one (ps_for PassesOwn.never rfl (pi_listK (K := K) rfl (pe_slice (sl_listK (K := K) rfl) (pv 1) (po_some (pe_op op_add (pv 2) pe_int)) po_none)) (pg_name (i := 6) sc_law_meeting.nd rfl (Or.inl rfl) (Or.inr rfl)) (pss_one (ps_if (pt_truK (K := K) rfl (pe_callI G__law_bad hr rfl (pa_cons (pv 0) (pa_cons (pe_ix (ix_listK (K := K) rfl) (pv 1) (pv 2) (fun _ _ => rfl)) (pa_cons (pv 6) pa_nil)))) (fun _ => rfl)) (pss_one (ps_ret (pe_tup (pa_cons (pv 3) (pa_cons (pv 4) (pa_cons (pe_ix (ix_tupK (K := K) rfl) (pv 6) pe_int (fun _ _ => rfl)) (pa_cons (pe_ix (ix_tupK (K := K) rfl) (pv 6) pe_int (fun _ _ => rfl)) pa_nil))))))) pss_nil))))))) (pss_one (ps_ret pe_non)))), ?_⟩
  rintro f xs ⟨o, w⟩ hl ⟨rfl, g⟩
  try dsimp only [cxOf, cxComp]
  dsimp only at *
  have sl : ((segsF w).map lsegD).length ≤ 1000 := by
    have := segsTo_le g.few w.length (Nat.le_refl _)
    rw [segsTo_all] at this
    rw [List.length_map]
    have := g.len
    omega
  have fin : ∀ x : Option (Sg × Sg), x = meetF w → meetD x = meetD (meetF w) := fun x h => by rw [h]
  refine s_seq (s_asg (d_call (o, w) ?_))
  repeat walk_at "dl"
  rintro _ rfl
  dsimp only
  refine g_name (s_seq (s_for (i_range ?_)))
  repeat walk_at "dl"
  rw [List.length_map, Int.toNat_natCast]
  refine ⟨fun n ρ => (∃ x2 x3 x4 x5 x6, ρ = [some (.dat (webD w)), some (.dat (.list ((segsF w).map lsegD))), x2, x3, x4, x5, x6]) ∧ look (meetsF w) (segsF w) = look (meetsF w) ((segsF w).drop n), ⟨⟨_, _, _, _, _, rfl⟩, rfl⟩, ?_, ?_⟩
  · rintro n d _ hd ⟨⟨x2, x3, x4, x5, x6, rfl⟩, hlook⟩
    obtain ⟨hn, rfl⟩ := range_at hd
    have h2 : (segsF w)[n]? = some (segsF w)[n] := List.getElem?_eq_getElem hn
    have sm := seg_of (List.mem_of_getElem? h2)
    have hs : (segsF w).drop n = (segsF w)[n] :: (segsF w).drop (n + 1) := List.drop_eq_getElem_cons hn
    have kn := fun t ht => keys_ne (t := t) h2 ht
    generalize (segsF w)[n] = s at h2 sm hs kn
    have hat : atI ((segsF w).map lsegD) (n : Int) = some (lsegD s) := atI_nat (by rw [List.getElem?_map, h2]; rfl)
    refine g_name (s_seq (s_asg ?_))
    repeat walk_at "dl"
    refine ⟨_, hat, ?_⟩
    unfold lsegD
    have dp := dep_pt s.p s.q
    repeat walk_at "dl"
    rw [if_neg Bool.false_ne_true, eqv_pt]
    refine ite_b (fun h => ?_) fun h => ?_
    · repeat walk_at "dl"
      refine fin (some (s, s)) ?_
      unfold meetF
      rw [hlook, hs, look_self (of_decide_eq_true h)]
    · have hpq := of_decide_eq_false h
      refine s_nil (s_for (i_list ?_))
      repeat walk_at "dl"
      rw [show ((n : Int) + 1) = ((n + 1 : Nat) : Int) from rfl, cut_from, ← List.map_drop]
      refine ⟨fun m ρ => (∃ x6, ρ = [some (.dat (webD w)), some (.dat (.list ((segsF w).map lsegD))), some (.dat (.int n)), some (.dat (.int s.k)), some (.dat (.int s.i)), some (.dat (sideD s.p s.q)), x6]) ∧ ∀ u ∈ ((segsF w).drop (n + 1)).take m, meetsF w s u = false, ⟨⟨_, rfl⟩, fun u hu => by simp at hu⟩, ?_, ?_⟩
      · rintro m d _ hd ⟨⟨x6, rfl⟩, hall⟩
        obtain ⟨t, h3, rfl⟩ := map_at (F := lsegD) hd
        have tin := List.mem_of_getElem? h3
        have tm := seg_of (List.mem_of_mem_drop tin)
        refine g_name (s_if (t_tru (d_call (o, w, s, t) ?_)))
        repeat walk_at "dl"
        refine ⟨_, hat, ?_⟩
        repeat walk_at "dl"
        rintro _ rfl
        refine ⟨_, rfl, ?_⟩
        dsimp only
        have mb := meets_bad (w := w) (kn t tin)
        refine ite_b (fun h => ?_) fun h => ?_
        · unfold lsegD
          repeat walk_at "dl"
          refine fin (some (s, t)) ?_
          unfold meetF
          rw [hlook, hs, look_hit (m := m + 1) h3 (fun u hu => ?_) (by rw [mb]; exact h)]
          rcases List.mem_cons.mp hu with rfl | hu
          · exact self_no hpq
          · exact hall u hu
        · refine s_nil ⟨⟨_, rfl⟩, fun u hu => ?_⟩
          rw [List.take_add_one, h3] at hu
          rcases List.mem_append.mp hu with hu | hu
          · exact hall u hu
          · cases List.mem_singleton.mp (by simpa using hu)
            rw [mb]
            exact h
      · rintro _ ⟨⟨x6, rfl⟩, hall⟩
        refine ⟨⟨_, _, _, _, _, rfl⟩, ?_⟩
        rw [hlook, hs]
        refine look_miss fun u hu => ?_
        rcases List.mem_cons.mp hu with rfl | hu
        · exact self_no hpq
        · refine hall u ?_
          rw [List.length_map, List.take_length]
          exact hu
  · rintro _ ⟨⟨x2, x3, x4, x5, x6, rfl⟩, hlook⟩
    repeat walk_at "dl"
    refine fin none ?_
    unfold meetF
    rw [hlook, range_len, List.drop_length]
    rfl
end
end My
end
section
--cat _law_ring _law_bundle _law_clean _law_moved _law_spoilt
set_option Elab.async false
set_option linter.all false
set_option maxRecDepth 100000
set_option maxHeartbeats 4000000
namespace My
open PySem PySem.Spec PyProof.Rows L2
local macro_rules | `(tactic| walk_at "dl") => `(tactic| first
  | (with_reducible show PSd _ _ (tAsg _ (gSub (tVar _) (tC (V.int 0)) rSetL)) _ _; refine s_feed0 rfl ?_)
  | (with_reducible show PSd _ _ (tAsg _ (gSub (tVar _) (tC (V.int 1)) rSetL)) _ _; refine s_feed1 rfl ?_)
  | with_reducible refine s_seq ?_ | with_reducible refine s_if ?_ | with_reducible refine s_ret ?_ | with_reducible refine s_asg ?_ | with_reducible refine s_drop ?_ | with_reducible refine s_nil ?_
  | with_reducible refine g_name ?_ | with_reducible refine g_tup rfl ?_ | with_reducible refine gs_cons ?_ | with_reducible refine gs_nil ?_
  | with_reducible refine t_test ?_ | with_reducible refine t_b ?_ | with_reducible refine t_and ?_ | with_reducible refine t_or ?_ | with_reducible refine t_not ?_ | with_reducible refine t_tru ?_
  | with_reducible refine d_chain ?_ | with_reducible refine d_opB ?_ | with_reducible refine d_opI ?_ | with_reducible refine d_opIC ?_ | with_reducible refine d_eqD ?_
  | with_reducible refine d_if ?_ | with_reducible refine d_andV ?_ | with_reducible refine d_orV ?_ | with_reducible refine d_notV ?_
  | with_reducible refine d_int ?_ | with_reducible refine d_bl ?_ | with_reducible refine d_str ?_ | with_reducible refine d_non ?_
  | (with_reducible show PEd _ _ (tVar _) _ _; refine d_var rfl ?_)
  | (with_reducible show PEd _ _ (tOp (rIxL _) (tVar _) _) _ _; refine d_ixF rfl ?_)
  | with_reducible refine d_ixL ?_ | with_reducible refine d_ixT ?_
  | (with_reducible show PAd _ _ (tCons (tVar _) _) _ _; refine a_feed rfl ?_)
  | with_reducible refine a_cons ?_ | with_reducible refine a_nil ?_
  | with_reducible refine d_catT ?_ | with_reducible refine d_cut ?_ | with_reducible refine po_no ?_ | with_reducible refine po_at ?_ | with_reducible refine d_int1 ?_ | with_reducible refine d_tupof ?_ | with_reducible refine t_yes ?_
  | with_reducible refine d_tup ?_ | with_reducible refine d_lst ?_ | with_reducible refine d_len ?_ | with_reducible refine d_minL ?_ | with_reducible refine d_maxL ?_ | with_reducible refine d_cbI2 ?_ | with_reducible refine d_cbI1 ?_
  | (with_reducible show (∃ _, _) ∨ (∃ _, _); first | refine Or.inl ⟨_, rfl, ?_⟩ | refine Or.inr ⟨_, rfl, ?_⟩) | refine ⟨_, rfl, ?_⟩ | refine ⟨_, _, rfl, ?_⟩
  | (with_reducible show (_ = _ ∧ ∀ _, _) ∨ _; first | refine Or.inl ⟨rfl, fun a ha => ?_⟩ | refine Or.inr ⟨rfl, fun b hb hb' => ?_⟩)
  | (with_reducible show PyData.canLay0 _ = true ∧ _; refine And.intro (by first | rfl | assumption | decide +kernel) ?_)
  | (with_reducible show min _ _ ≤ 60 ∧ _; refine And.intro (by first | assumption | (simp [PyData.depth, PyData.depthAll]; done)) ?_)
  | refine ⟨rfl, ?_⟩
  | (refine And.intro ?side ?_; (case side => first | omega | exact Int.ediv_nonneg (by omega) (by omega) | exact Int.emod_nonneg _ (by omega) | exact Int.emod_lt_of_pos _ (by omega) | decide | exact ⟨by decide, by decide, by decide⟩ | exact ⟨by omega, by omega⟩ | exact Or.inl ⟨by omega, by omega⟩ | exact Or.inr ⟨by omega, by omega⟩ | (refine Nat.le_trans (Nat.le_of_eq (by rfl)) (show _ ≤ 1000 by decide)) | ((repeat' apply And.intro) <;> first | rfl | omega | decide | assumption) | (simp [PyData.depth]))))
abbrev scr (ns : List Int) : PyData := .list (ns.map .int)
theorem scr_rep {K : PySem.W.Frag} {H : Hp} {a : Addr} {ns : List Int} (h : SqL K H a (ns.map V.int)) : Rep K (hide H L2.f0) (scr ns) (.ref a) := by
  rw [hide_none]
  exact rep_list.mpr ⟨a, _, rfl, h, Reps.ints' ns⟩
theorem rep_scr {K : PySem.W.Frag} {H : Hp} {v : V} {ns : List Int} (h : Rep K (hide H L2.f0) (scr ns) v) : ∃ a, v = .ref a ∧ SqL K H a (ns.map V.int) := by
  rw [hide_none] at h
  obtain ⟨a, xs, rfl, h1, h2⟩ := rep_list.mp h
  rw [h2.ints] at h1
  exact ⟨a, rfl, h1⟩
def spFeed (K : PySem.W.Frag) : Sp := fun vs H Q _ => ∃ (a : Addr) (ns : List Int) (i : Int), vs = [.ref a, .int i] ∧ SqL K H a (ns.map V.int) ∧ ns.length ≤ 63 ∧ 0 ≤ i ∧ i ≤ 63 ∧
  ∀ (p : Addr) (x y : Int) (H' : Hp), Same H H' → H p = none → H' p = some (.lst [.int x, .int y]) → 0 ≤ x → 0 ≤ y → y < 2147483647 → Q (.ref p) H'
section
variable {P : Program} {w : World} {K : PySem.W.Frag} {mg : Str → Option Value} {base : Heap} {k : Nat}
abbrev spDraw (K : PySem.W.Frag) : Sp := spD K 2 (fun (c : Int) xs => xs = [.feed, .dat (.int c)] ∧ 0 < c ∧ c < 1152921504606846976) fun c r => ∃ i : Int, r = .int i ∧ 0 ≤ i ∧ i < c
theorem ok_draw (F : Def K mg "_law_draw" s_law_draw ["_law_feed_here", "_law_many"]) : FnIn P w K mg base (k + 1) "_law_draw" ["_law_feed_here", "_law_many"] (spDraw K) := by
  refine F.ok sc_law_draw rfl fun fa cdv A outer s H E hr => ⟨_, (pss_cons (ps_if (pt_cmpR op_ge (pe_ix (ix_listK (K := K) rfl) (pv 0) pe_int (fun _ _ => rfl)) (pe_op op_pow pe_int pe_int) (nomark _)) (pss_cons (ps_set (i := 2) sc_law_draw.nd rfl (Or.inl rfl) (pe_op op_mod (pe_ix (ix_listK (K := K) rfl) (pv 0) pe_int (fun _ _ => rfl)) (pv 1))) (pss_cons (ps_asg (pe_op op_fdivW (pe_ix (ix_listK (K := K) rfl) (pv 0) pe_int (fun _ _ => rfl)) (pv 1)) (pg_sub (pv 0) pe_int set_list)) (pss_one (ps_ret (pv 2))))) pss_nil) (pss_cons (ps_asg (pe_op op_mod (pe_op op_add (pe_op op_add (pe_op op_mul (pe_ix (ix_listK (K := K) rfl) (pv 0) pe_int (fun _ _ => rfl)) pe_int) (pe_op op_mod (pe_ix (ix_listK (K := K) rfl) (pv 0) pe_int (fun _ _ => rfl)) pe_int)) pe_int) pe_int) (pg_sub (pv 0) pe_int set_list)) (pss_one (ps_ret (pe_op op_mod (pe_op op_fdivW (pe_op op_mod (pe_op op_mul (pe_ix (ix_listK (K := K) rfl) (pv 0) pe_int (fun _ _ => rfl)) pe_int) pe_int) pe_int) (pv 1)))))), ?_⟩
  rintro f xs c hl ⟨rfl, c0, c1⟩
  try dsimp only [cxOf, cxComp]
  repeat walk_at "dl"
  split
  · repeat walk_at "dl"
    exact Int.emod_lt_of_pos _ c0
  · repeat walk_at "dl"
    exact Int.emod_lt_of_pos _ c0
theorem ok_feed (F : Def K mg "_law_feed" s_law_feed ["_law_script", "_law_k"]) (m_len : mg "len" = none) (m_abs : mg "abs" = none) : FnIn P w K mg base (k + 1) "_law_feed" ["_law_script", "_law_k"] (spFeed K) := by
  refine F.raw sc_law_feed (fun vs H Q E h => ?_) fun fa cdv A outer s H vs Q E hr hs => ⟨_, (pss_cons (ps_set (i := 2) sc_law_feed.nd rfl (Or.inl rfl) pe_int) (pss_cons (ps_if (pt_cmpR op_gt (pe_callB (call_lenK (K := K) rfl) rfl m_len PySem.boot_len (pa_cons (pv 0) pa_nil)) pe_int (nomark _)) (pss_one (ps_set (i := 2) sc_law_feed.nd rfl (Or.inl rfl) (pe_ix (ix_listK (K := K) rfl) (pv 0) (pe_op op_mod (pv 1) (pe_callB (call_lenK (K := K) rfl) rfl m_len PySem.boot_len (pa_cons (pv 0) pa_nil))) (fun _ _ => rfl)))) pss_nil) (pss_one (ps_ret (pe_lst (pa_cons (pe_callB (call_abs) rfl m_abs PyProof.Rows.boot_abs (pa_cons (pv 2) pa_nil)) (pa_cons (pe_op op_add (pe_op op_mul pe_int (pv 1)) pe_int) pa_nil))))))), ?_⟩
  · obtain ⟨a, ns, i, rfl, _⟩ := h
    rfl
  obtain ⟨a, ns, i, rfl, hS, h63, i0, i1, q⟩ := hs
  have e0 : EnvOk K L2.f0 (startV N_law_feed [.dat (scr ns), .dat (.int i)]) (start N_law_feed [.ref a, .int i]) H := startV_ok (.cons (scr_rep hS) (.cons (show RepV K L2.f0 H (.dat (.int i)) (.int i) from (rep_int (K := K) (H := hide H L2.f0)).mpr rfl) .nil)) (L2.fok0 H)
  refine s_then (D := { nx := fun ρ => ρ = [some (.dat (scr ns)), some (.dat (.int i)), some (.dat (.int 0))], rt := fun _ => False }) ?_ e0 ?_ (fun _ _ _ _ _ z => z.elim) (fun _ z => z) (fun _ z => z)
  · repeat walk_at "dl"
    rfl
  rintro _ σ1 H1 g1 e1 rfl
  refine s_then (D := { nx := fun ρ => ∃ c : Int, ρ = [some (.dat (scr ns)), some (.dat (.int i)), some (.dat (.int c))], rt := fun _ => False }) ?_ e1 ?_ (fun _ _ _ _ _ z => z.elim) (fun _ z => z) (fun _ z => z)
  · repeat walk_at "dl"
    rw [List.length_map]
    by_cases h : 0 < ns.length
    · rw [if_pos (by simpa using h)]
      repeat walk_at "dl"
      rw [List.length_map]
      have z0 := Int.emod_nonneg i (b := (ns.length : Int)) (by omega)
      have z1 := Int.emod_lt_of_pos i (b := (ns.length : Int)) (by omega)
      refine ⟨by omega, _, rfl, _, atI_mapP (j := (i % (ns.length : Int)).toNat) (by omega) (by omega), ?_⟩
      repeat walk_at "dl"
      exact ⟨_, rfl⟩
    · rw [if_neg (by simpa using h)]
      repeat walk_at "dl"
      exact ⟨_, rfl⟩
  rintro _ σ2 H2 g2 e2 ⟨c, rfl⟩
  unfold tRet
  have ss : Same H H2 := (L2.same0 g1).trans (L2.same0 g2)
  refine new_list (R := fun ds => ∃ x y : Int, ds = [.int x, .int y] ∧ 0 ≤ x ∧ 0 ≤ y ∧ y < 2147483647) ?_ e2 ?_
  · repeat walk_at "dl"
    omega
  · rintro p ds vs H3 g3 hn rs ⟨x, y, rfl, hx, hy, hy'⟩
    have sf : Same H H3 := ss.trans (L2.same0 g3)
    have ev : vs = [.int x, .int y] := Reps.ints (ns := [x, y]) rs
    subst ev
    exact q p x y _ (sf.trans (same_new hn _)) (sf.free hn) upd_same hx hy hy'

abbrev spEither (K : PySem.W.Frag) : Sp := spD K 2 (fun (c : List PyData) xs => xs = [.feed, .dat (.list c)]) fun c r => r = .list c ∨ r = .list c.reverse
theorem ok_either (F : Def K mg "_law_either" s_law_either ["_law_feed_here", "_law_row"]) (m_list : mg "list" = none) (m_reversed : mg "reversed" = none) (G__law_draw : FnIn P w K mg base k "_law_draw" ["_law_feed_here", "_law_many"] (spDraw K)) : FnIn P w K mg base (k + 1) "_law_either" ["_law_feed_here", "_law_row"] (spEither K) := by
  refine F.ok sc_law_either rfl fun fa cdv A outer s H E hr => ⟨_, (pss_cons (ps_if (pt_cmpR (op_eqK (K := K) rfl hr.units) (pe_callI G__law_draw hr rfl (pa_cons (pv 0) (pa_cons pe_int pa_nil))) pe_int (nomark _)) (pss_one (ps_ret (pe_listRev (K := K) rfl rfl rfl m_list PyProof.Rows.boot_list rfl m_reversed boot_reversed (pv 1)))) pss_nil) (pss_one (ps_ret (pe_callTy (call_listK (K := K) rfl) rfl m_list PyProof.Rows.boot_list (pa_cons (pv 1) pa_nil))))), ?_⟩
  rintro f xs c hl rfl
  try dsimp only [cxOf, cxComp]
  refine s_seq (s_if (t_test (d_eqD (d_call 2 ?_))))
  repeat walk_at "dl"
  rintro _ ⟨i, rfl, i0, i1⟩
  repeat walk_at "dl"
  refine ite_b (fun h => ?_) fun h => ?_
  · refine s_ret (d_listRev ?_)
    repeat walk_at "dl"
    exact .inr rfl
  · refine s_nil (s_ret (d_listof ?_))
    repeat walk_at "dl"
    exact .inl rfl
def Sml (a b : Int) (p : Pt) : Prop := 0 ≤ p.1 ∧ p.1 ≤ a ∧ 0 ≤ p.2 ∧ p.2 ≤ b
abbrev spChain (K : PySem.W.Frag) : Sp := spD K 3 (fun (c : Nat × Int) xs => xs = [.feed, .dat (.int c.1), .dat (.int c.2)] ∧ c.1 ≤ 26 ∧ 0 ≤ c.2 ∧ c.2 ≤ 24) fun c r => ∃ ps : List Pt, r = .list (ps.map ptD) ∧ ps.length = c.1 ∧ ∀ p ∈ ps, Sml 81 27 p
theorem range_at' {n i : Nat} {d : PyData} (h : (rangeD n)[i]? = some d) : i < n ∧ d = .int (i : Int) := by
  unfold rangeD at h
  rw [List.getElem?_map] at h
  by_cases hi : i < n
  · rw [List.getElem?_range hi] at h
    cases h
    exact ⟨hi, rfl⟩
  · rw [List.getElem?_eq_none (by rw [List.length_range]; omega)] at h
    cases h
theorem range_len' (n : Nat) : (rangeD n).length = n := by unfold rangeD; simp
theorem ok_chain (F : Def K mg "_law_chain" s_law_chain ["_law_feed_here", "_law_many", "_law_top"]) (m_range : mg "range" = none) (G__law_draw : FnIn P w K mg base k "_law_draw" ["_law_feed_here", "_law_many"] (spDraw K)) : FnIn P w K mg base (k + 1) "_law_chain" ["_law_feed_here", "_law_many", "_law_top"] (spChain K) := by
  refine F.ok sc_law_chain rfl fun fa cdv A outer s H E hr => ⟨_, (pss_cons (ps_set (i := 3) sc_law_chain.nd rfl (Or.inl rfl) (pe_callI G__law_draw hr rfl (pa_cons (pv 0) (pa_cons pe_int pa_nil)))) (pss_cons (ps_set (i := 4) sc_law_chain.nd rfl (Or.inl rfl) (pe_lst pa_nil)) (pss_cons (ps_for PassesOwn.never rfl (pi_range1 rfl m_range (pa_cons (pv 1) pa_nil)) (pg_name (i := 5) sc_law_chain.nd rfl (Or.inl rfl) (Or.inr rfl)) (pss_cons (ps_expr (pe_bm PySem.F.plainAttrs_list PySem.F.slot_list_append PySem.F.type_list_append mt_append (pv 4) (pa_cons (pe_tup (pa_cons (pv 3) (pa_cons (pe_op op_add (pv 2) (pe_callI G__law_draw hr rfl (pa_cons (pv 0) (pa_cons pe_int pa_nil)))) pa_nil))) pa_nil))) (pss_one (ps_set (i := 3) sc_law_chain.nd rfl (Or.inl rfl) (pe_op op_add (pe_op op_add (pv 3) pe_int) (pe_callI G__law_draw hr rfl (pa_cons (pv 0) (pa_cons pe_int pa_nil)))))))) (pss_one (ps_ret (pv 4)))))), ?_⟩
  rintro f xs ⟨many, top⟩ hl ⟨rfl, hm, t0, t1⟩
  try dsimp only [cxOf, cxComp]
  dsimp only at *
  refine s_seq (s_asg (d_call 4 ?_))
  repeat walk_at "dl"
  rintro _ ⟨x, rfl, x0, x1⟩
  refine g_name (s_own (o_nil ⟨show 4 < 6 by decide, fun D => ?_⟩))
  refine o_for (i_range (a_cons (d_var rfl (a_nil ⟨_, rfl, by omega, by omega, fun n ρ es => ∃ (X : Int) (x5 : Option DV) (ps : List Pt), ρ = [some .feed, some (.dat (.int many)), some (.dat (.int top)), some (.dat (.int X)), some (.own f.M.length), x5] ∧ es = ps.map ptD ∧ ps.length = n ∧ (∀ p ∈ ps, Sml 81 27 p) ∧ 0 ≤ X ∧ X ≤ 3 + 3 * n, ⟨x, none, [], rfl, rfl, rfl, (fun p hp => by cases hp), x0, by omega⟩, ?_, ?_⟩))))
  · rintro n d _ _ hd ⟨X, x5, ps, rfl, rfl, hps, hs, X0, X1⟩
    obtain ⟨hn, rfl⟩ := range_at' hd
    refine g_name (o_seq (o_app rfl (by rw [List.length_map]; omega) ?_))
    repeat walk_at "dl"
    refine d_call 4 ?_
    repeat walk_at "dl"
    rintro _ ⟨y, rfl, y0, y1⟩
    repeat walk_at "dl"
    refine o_lift (s_asg ?_)
    repeat walk_at "dl"
    refine d_call 3 ?_
    repeat walk_at "dl"
    rintro _ ⟨z, rfl, z0, z1⟩
    repeat walk_at "dl"
    refine ⟨X + 1 + z, _, ps ++ [(X, top + y)], rfl, by simp [ptD], by rw [List.length_append, hps]; rfl, fun p hp => ?_, by omega, by omega⟩
    rcases List.mem_append.mp hp with hp | hp
    · exact hs p hp
    · rw [List.mem_singleton.mp hp]
      exact ⟨X0, by show X ≤ 81; omega, by show 0 ≤ top + y; omega, by show top + y ≤ 27; omega⟩
  · rintro _ _ ⟨X, x5, ps, rfl, rfl, hps, hs, X0, X1⟩
    refine ⟨rfl, ?_⟩
    rw [range_len'] at hps
    repeat walk_at "dl"
    exact hs
abbrev spRing (K : PySem.W.Frag) : Sp := spD K 3 (fun (c : List Pt × Int) xs => xs = [.feed, .dat (.list (c.1.map ptD)), .dat (.int c.2)] ∧ 2 ≤ c.1.length ∧ c.1.length ≤ 26 ∧ (∀ p ∈ c.1, Sml 81 27 p) ∧ 0 ≤ c.2 ∧ c.2 ≤ 24) fun c r => ∃ ps : List Pt, r = .list (ps.map ptD) ∧ 3 ≤ ps.length ∧ ps.length ≤ 28 ∧ ∀ p ∈ ps, Sml 84 33 p
theorem at_first {ps : List Pt} (h : 2 ≤ ps.length) : ∃ p ∈ ps, atI (ps.map ptD) 0 = some (ptD p) := by
  cases ps with
  | nil => simp at h
  | cons p ps => exact ⟨p, List.mem_cons_self, atI_mapP (xs := p :: ps) (j := 0) rfl (Nat.succ_pos _)⟩
theorem at_last {ps : List Pt} (h : 2 ≤ ps.length) : ∃ p ∈ ps, atI (ps.map ptD) (-1) = some (ptD p) := by
  have hl : ps.length - 1 < ps.length := by omega
  refine ⟨ps[ps.length - 1], List.getElem_mem hl, ?_⟩
  unfold atI ixN
  rw [if_neg (by omega), if_pos (by rw [List.length_map]; omega), List.length_map]
  show (ps.map ptD)[_]? = _
  rw [show ((-1 : Int) + (ps.length : Int)).toNat = ps.length - 1 by omega, List.getElem?_map, List.getElem?_eq_getElem hl]
  rfl
theorem ok_ring (F : Def K mg "_law_ring" s_law_ring ["_law_feed_here", "_law_chain_here", "_law_top"]) (G__law_draw : FnIn P w K mg base k "_law_draw" ["_law_feed_here", "_law_many"] (spDraw K)) : FnIn P w K mg base (k + 1) "_law_ring" ["_law_feed_here", "_law_chain_here", "_law_top"] (spRing K) := by
  refine F.ok sc_law_ring rfl fun fa cdv A outer s H E hr => ⟨_, (pss_cons (ps_if (pt_cmpR (op_eqK (K := K) rfl hr.units) (pe_callI G__law_draw hr rfl (pa_cons (pv 0) (pa_cons pe_int pa_nil))) pe_int (nomark _)) (pss_one (ps_ret (pe_lst (pa_cons (pe_ix (ix_listK (K := K) rfl) (pv 1) pe_int (fun _ _ => rfl)) (pa_cons (pe_tup (pa_cons (pe_op op_add (pe_ix (ix_tupK (K := K) rfl) (pe_ix (ix_listK (K := K) rfl) (pv 1) pe_int (fun _ _ => rfl)) pe_int (fun _ _ => rfl)) pe_int) (pa_cons (pe_op op_add (pv 2) pe_int) pa_nil))) (pa_cons (pe_tup (pa_cons (pe_ix (ix_tupK (K := K) rfl) (pe_ix (ix_listK (K := K) rfl) (pv 1) pe_int (fun _ _ => rfl)) pe_int (fun _ _ => rfl)) (pa_cons (pe_op op_add (pv 2) pe_int) pa_nil))) pa_nil)))))) pss_nil) (pss_one (ps_ret (pe_op (op_catLK (K := K) rfl) (pv 1) (pe_lst (pa_cons (pe_tup (pa_cons (pe_ix (ix_tupK (K := K) rfl) (pe_ix (ix_listK (K := K) rfl) (pv 1) (pe_un un_neg pe_int) (fun _ _ => rfl)) pe_int (fun _ _ => rfl)) (pa_cons (pe_op op_add (pv 2) pe_int) pa_nil))) (pa_cons (pe_tup (pa_cons (pe_ix (ix_tupK (K := K) rfl) (pe_ix (ix_listK (K := K) rfl) (pv 1) pe_int (fun _ _ => rfl)) pe_int (fun _ _ => rfl)) (pa_cons (pe_op op_add (pv 2) pe_int) pa_nil))) pa_nil))))))), ?_⟩
  rintro f xs ⟨ps, top⟩ hl ⟨rfl, h2, h26, hs, t0, t1⟩
  try dsimp only [cxOf, cxComp]
  dsimp only at *
  obtain ⟨p, hp, ep⟩ := at_first h2
  obtain ⟨q, hq, eq⟩ := at_last h2
  obtain ⟨p1, p2, p3, p4⟩ := hs p hp
  obtain ⟨q1, q2, q3, q4⟩ := hs q hq
  refine s_seq (s_if (t_test (d_eqD (d_call 4 ?_))))
  repeat walk_at "dl"
  rintro _ ⟨i, rfl, i0, i1⟩
  repeat walk_at "dl"
  refine ite_b (fun h => ?_) fun h => ?_
  · repeat walk_at "dl"
    refine ⟨_, ep, ?_⟩
    repeat walk_at "dl"
    refine ⟨_, ep, ?_⟩
    unfold ptD
    repeat walk_at "dl"
    refine ⟨_, ep, ?_⟩
    unfold ptD
    repeat walk_at "dl"
    refine ⟨[p, (p.1 + 3, top + 9), (p.1, top + 9)], rfl, Nat.le_refl _, by show 3 ≤ 28; decide, fun r hr => ?_⟩
    simp only [List.mem_cons, List.not_mem_nil, or_false] at hr
    rcases hr with rfl | rfl | rfl
    · exact ⟨p1, by omega, p3, by omega⟩
    · exact ⟨by show 0 ≤ p.1 + 3; omega, by show p.1 + 3 ≤ 84; omega, by show 0 ≤ top + 9; omega, by show top + 9 ≤ 33; omega⟩
    · exact ⟨p1, by show p.1 ≤ 84; omega, by show 0 ≤ top + 9; omega, by show top + 9 ≤ 33; omega⟩
  · refine s_nil (s_ret (d_catL ?_))
    repeat walk_at "dl"
    refine d_neg ?_
    repeat walk_at "dl"
    refine ⟨_, eq, ?_⟩
    unfold ptD
    repeat walk_at "dl"
    refine ⟨_, ep, ?_⟩
    unfold ptD
    repeat walk_at "dl"
    refine ⟨by rw [List.length_map]; show ps.length + 2 ≤ 1000; omega, ps ++ [(q.1, top + 9), (p.1, top + 9)], by rw [List.map_append]; rfl, by rw [List.length_append]; show 3 ≤ ps.length + 2; omega, by rw [List.length_append]; show ps.length + 2 ≤ 28; omega, fun r hr => ?_⟩
    rcases List.mem_append.mp hr with hr | hr
    · obtain ⟨r1, r2, r3, r4⟩ := hs r hr
      exact ⟨r1, by omega, r3, by omega⟩
    · simp only [List.mem_cons, List.not_mem_nil, or_false] at hr
      rcases hr with rfl | rfl
      · exact ⟨q1, by show q.1 ≤ 84; omega, by show 0 ≤ top + 9; omega, by show top + 9 ≤ 33; omega⟩
      · exact ⟨p1, by show p.1 ≤ 84; omega, by show 0 ≤ top + 9; omega, by show top + 9 ≤ 33; omega⟩
end
end My
end
section
--cat _law_ring _law_bundle _law_clean _law_moved _law_spoilt
set_option Elab.async false
set_option linter.all false
set_option maxRecDepth 100000
set_option maxHeartbeats 4000000
namespace My
open PySem PySem.Spec PyProof.Rows L2
local macro_rules | `(tactic| walk_at "dl") => `(tactic| first
  | (with_reducible show PSd _ _ (tAsg _ (gSub (tVar _) (tC (V.int 0)) rSetL)) _ _; refine s_feed0 rfl ?_)
  | (with_reducible show PSd _ _ (tAsg _ (gSub (tVar _) (tC (V.int 1)) rSetL)) _ _; refine s_feed1 rfl ?_)
  | with_reducible refine s_seq ?_ | with_reducible refine s_if ?_ | with_reducible refine s_ret ?_ | with_reducible refine s_asg ?_ | with_reducible refine s_drop ?_ | with_reducible refine s_nil ?_
  | with_reducible refine g_name ?_ | with_reducible refine g_tup rfl ?_ | with_reducible refine gs_cons ?_ | with_reducible refine gs_nil ?_
  | with_reducible refine t_test ?_ | with_reducible refine t_b ?_ | with_reducible refine t_and ?_ | with_reducible refine t_or ?_ | with_reducible refine t_not ?_ | with_reducible refine t_tru ?_
  | with_reducible refine d_chain ?_ | with_reducible refine d_opB ?_ | with_reducible refine d_opI ?_ | with_reducible refine d_opIC ?_ | with_reducible refine d_eqD ?_
  | with_reducible refine d_if ?_ | with_reducible refine d_andV ?_ | with_reducible refine d_orV ?_ | with_reducible refine d_notV ?_
  | with_reducible refine d_int ?_ | with_reducible refine d_bl ?_ | with_reducible refine d_str ?_ | with_reducible refine d_non ?_
  | (with_reducible show PEd _ _ (tVar _) _ _; refine d_var rfl ?_)
  | (with_reducible show PEd _ _ (tOp (rIxL _) (tVar _) _) _ _; refine d_ixF rfl ?_)
  | with_reducible refine d_ixL ?_ | with_reducible refine d_ixT ?_
  | (with_reducible show PAd _ _ (tCons (tVar _) _) _ _; refine a_feed rfl ?_)
  | with_reducible refine a_cons ?_ | with_reducible refine a_nil ?_
  | with_reducible refine d_catT ?_ | with_reducible refine d_cut ?_ | with_reducible refine po_no ?_ | with_reducible refine po_at ?_ | with_reducible refine d_int1 ?_ | with_reducible refine d_tupof ?_ | with_reducible refine t_yes ?_
  | with_reducible refine d_tup ?_ | with_reducible refine d_lst ?_ | with_reducible refine d_len ?_ | with_reducible refine d_minL ?_ | with_reducible refine d_maxL ?_ | with_reducible refine d_cbI2 ?_ | with_reducible refine d_cbI1 ?_
  | (with_reducible show (∃ _, _) ∨ (∃ _, _); first | refine Or.inl ⟨_, rfl, ?_⟩ | refine Or.inr ⟨_, rfl, ?_⟩) | refine ⟨_, rfl, ?_⟩ | refine ⟨_, _, rfl, ?_⟩
  | (with_reducible show (_ = _ ∧ ∀ _, _) ∨ _; first | refine Or.inl ⟨rfl, fun a ha => ?_⟩ | refine Or.inr ⟨rfl, fun b hb hb' => ?_⟩)
  | (with_reducible show PyData.canLay0 _ = true ∧ _; refine And.intro (by first | rfl | assumption | decide +kernel) ?_)
  | (with_reducible show min _ _ ≤ 60 ∧ _; refine And.intro (by first | assumption | (simp [PyData.depth, PyData.depthAll]; done)) ?_)
  | refine ⟨rfl, ?_⟩
  | (refine And.intro ?side ?_; (case side => first | omega | exact Int.ediv_nonneg (by omega) (by omega) | exact Int.emod_nonneg _ (by omega) | exact Int.emod_lt_of_pos _ (by omega) | decide | exact ⟨by decide, by decide, by decide⟩ | exact ⟨by omega, by omega⟩ | exact Or.inl ⟨by omega, by omega⟩ | exact Or.inr ⟨by omega, by omega⟩ | (refine Nat.le_trans (Nat.le_of_eq (by rfl)) (show _ ≤ 1000 by decide)) | ((repeat' apply And.intro) <;> first | rfl | omega | decide | assumption) | (simp [PyData.depth]))))
theorem either_pts {qs : List Pt} {r : PyData} (h : r = .list (qs.map ptD) ∨ r = .list (qs.map ptD).reverse) : ∃ qs' : List Pt, r = .list (qs'.map ptD) ∧ qs'.length = qs.length ∧ ∀ p ∈ qs', p ∈ qs := by
  rcases h with rfl | rfl
  · exact ⟨qs, rfl, rfl, fun p hp => hp⟩
  · exact ⟨qs.reverse, by rw [List.map_reverse], List.length_reverse, fun p hp => List.mem_reverse.mp hp⟩
theorem cut_from {α : Type} {F : α → PyData} {rs : List α} {a : Int} (h0 : 0 ≤ a) (h1 : a ≤ rs.length) : cutD (rs.map F) (some a) none = (rs.drop a.toNat).map F := by
  unfold L2.cutD HT.sIx
  dsimp only
  rw [if_neg (by omega), List.length_map, Nat.min_eq_left (by omega), List.take_of_length_le (by rw [List.length_drop, List.length_map]; omega), List.map_drop]
theorem cut_to {α : Type} {F : α → PyData} {rs : List α} {a : Int} (h0 : 0 ≤ a) (h1 : a ≤ rs.length) : cutD (rs.map F) none (some a) = (rs.take a.toNat).map F := by
  unfold L2.cutD HT.sIx
  dsimp only
  rw [if_neg (by omega), List.length_map, Nat.min_eq_left (by omega), List.drop_zero, Nat.sub_zero, List.map_take]
def OkL (a b : Int) (l : Ln) : Prop := 2 ≤ l.2.length ∧ l.2.length ≤ 28 ∧ ∀ p ∈ l.2, Sml a b p
section
variable {P : Program} {w : World} {K : PySem.W.Frag} {mg : Str → Option Value} {base : Heap} {k : Nat}
abbrev spBundle (K : PySem.W.Frag) : Sp := spD K 4 (fun (c : Nat × Int × Int) xs => xs = [.feed, .dat (.int c.1), .dat (.int c.2.1), .dat (.int c.2.2)] ∧ 2 ≤ c.1 ∧ c.1 ≤ 26 ∧ 0 ≤ c.2.1 ∧ c.2.1 ≤ 24) fun c r => ∃ w : Web, r = .list (w.map lnD) ∧ 1 ≤ w.length ∧ w.length ≤ 3 ∧ ∀ l ∈ w, OkL 84 33 l
theorem ok_bundle (F : Def K mg "_law_bundle" s_law_bundle ["_law_feed_here", "_law_many", "_law_top", "_law_room"]) (m_range : mg "range" = none) (m_len : mg "len" = none) (m_max : mg "max" = none) (m_min : mg "min" = none) (m_tuple : mg "tuple" = none) (G__law_draw : FnIn P w K mg base k "_law_draw" ["_law_feed_here", "_law_many"] (spDraw K))
    (G__law_chain : FnIn P w K mg base k "_law_chain" ["_law_feed_here", "_law_many", "_law_top"] (spChain K)) (G__law_ring : FnIn P w K mg base k "_law_ring" ["_law_feed_here", "_law_chain_here", "_law_top"] (spRing K)) (G__law_either : FnIn P w K mg base k "_law_either" ["_law_feed_here", "_law_row"] (spEither K)) :
    FnIn P w K mg base (k + 1) "_law_bundle" ["_law_feed_here", "_law_many", "_law_top", "_law_room"] (spBundle K) := by
  refine F.ok sc_law_bundle rfl fun fa cdv A outer s H E hr => ⟨_, (pss_cons (ps_set (i := 4) sc_law_bundle.nd rfl (Or.inr rfl) (pe_callI G__law_chain hr rfl (pa_cons (pv 0) (pa_cons (pv 1) (pa_cons (pv 2) pa_nil))))) (pss_cons (ps_if (pt_cmpR op_gt (pe_callI G__law_draw hr rfl (pa_cons (pv 0) (pa_cons pe_int pa_nil))) pe_int (nomark _)) (pss_cons (ps_set (i := 5) sc_law_bundle.nd rfl (Or.inl rfl) (pe_callB (call_max2 rfl) rfl m_max boot_max (pa_cons pe_int (pa_cons (pe_callB (call_min2 rfl) rfl m_min boot_min (pa_cons (pe_op op_add pe_int (pe_callI G__law_draw hr rfl (pa_cons (pv 0) (pa_cons pe_int pa_nil)))) (pa_cons (pe_op op_fdivW (pv 3) (pv 1)) pa_nil))) pa_nil)))) (pss_cons (ps_setComp1 (i := 6) (N := ["_law_k", "_law_chain_here"]) (own := 1) (fr := [4]) ⟨rfl, by decide +kernel, of_decide_eq_true (by kernel_rfl), of_decide_eq_true (by kernel_rfl), of_decide_eq_true (by kernel_rfl), rfl⟩ rfl sc_law_bundle.nd rfl (Or.inl rfl) (pi_range1 rfl m_range (pa_cons (pv 5) pa_nil)) (fun _ _ _ _ => (pg_name (i := 0) (show (["_law_k", "_law_chain_here"] : List Str).Nodup by decide +kernel) rfl (Or.inr rfl) (Or.inl rfl))) (fun _ _ _ _ => pts_nil) (fun _ _ _ _ => (pe_comp1 (N := ["_law_x", "_law_y", "_law_k"]) (own := 2) (fr := [0]) ⟨rfl, by decide +kernel, of_decide_eq_true (by kernel_rfl), of_decide_eq_true (by kernel_rfl), of_decide_eq_true (by kernel_rfl), rfl⟩ rfl (pi_listK (K := K) rfl (pv 1)) (fun _ _ _ _ => (pg_tupK (K := K) (n := 2) rfl rfl (pgs_cons (pg_name (i := 0) (show (["_law_x", "_law_y", "_law_k"] : List Str).Nodup by decide +kernel) rfl (Or.inl rfl) (Or.inr rfl)) (pgs_cons (pg_name (i := 1) (show (["_law_x", "_law_y", "_law_k"] : List Str).Nodup by decide +kernel) rfl (Or.inl rfl) (Or.inr rfl)) pgs_nil)))) (fun _ _ _ _ => pts_nil) (fun _ _ _ _ => (pe_tup (pa_cons (pv 0) (pa_cons (pe_op op_add (pv 1) (pv 2)) pa_nil)))) rfl rfl (fun _ => rfl))) rfl rfl (fun _ => rfl) (Or.inl rfl) rfl) (pss_one (ps_ret (pe_comp1 (N := ["_law_row", "_law_feed_here"]) (own := 1) (fr := [0]) ⟨rfl, by decide +kernel, of_decide_eq_true (by kernel_rfl), of_decide_eq_true (by kernel_rfl), of_decide_eq_true (by kernel_rfl), rfl⟩ rfl (pi_listK (K := K) rfl (pv 6)) (fun _ _ _ _ => (pg_name (i := 0) (show (["_law_row", "_law_feed_here"] : List Str).Nodup by decide +kernel) rfl (Or.inl rfl) (Or.inr rfl))) (fun _ _ _ _ => pts_nil) (fun _ _ _ _ => (pe_tup (pa_cons pe_str (pa_cons (pe_callTy (call_tupleK (K := K) rfl) rfl m_tuple PyProof.Rows.boot_tuple (pa_cons (pe_callI G__law_either hr rfl (pa_cons (pv 1) (pa_cons (pv 0) pa_nil))) pa_nil)) pa_nil)))) rfl rfl (fun _ => rfl)))))) pss_nil) (pss_cons (ps_set (i := 7) sc_law_bundle.nd rfl (Or.inl rfl) (pe_callI G__law_ring hr rfl (pa_cons (pv 0) (pa_cons (pv 4) (pa_cons (pv 2) pa_nil))))) (pss_cons (ps_set (i := 8) sc_law_bundle.nd rfl (Or.inl rfl) (pe_callI G__law_draw hr rfl (pa_cons (pv 0) (pa_cons (pe_callB (call_lenK (K := K) rfl) rfl m_len PySem.boot_len (pa_cons (pv 7) pa_nil)) pa_nil)))) (pss_cons (ps_set (i := 9) sc_law_bundle.nd rfl (Or.inl rfl) (pe_lst (pa_cons (pe_tup (pa_cons pe_str (pa_cons (pe_callTy (call_tupleK (K := K) rfl) rfl m_tuple PyProof.Rows.boot_tuple (pa_cons (pe_callI G__law_either hr rfl (pa_cons (pv 0) (pa_cons (pe_op (op_catLK (K := K) rfl) (pe_slice (sl_listK (K := K) rfl) (pv 7) (po_some (pv 8)) po_none) (pe_slice (sl_listK (K := K) rfl) (pv 7) po_none (po_some (pv 8)))) pa_nil))) pa_nil)) pa_nil))) pa_nil))) (pss_cons (ps_if (PW.pt (pw_and (pt_cmpR op_gt (pe_callB (call_lenK (K := K) rfl) rfl m_len PySem.boot_len (pa_cons (pv 7) pa_nil)) pe_int (nomark _)) (pw_and1 (pt_cmpR op_gt (pv 3) (pe_op op_add (pe_callB (call_lenK (K := K) rfl) rfl m_len PySem.boot_len (pa_cons (pv 7) pa_nil)) pe_int) (nomark _))))) (pss_cons (ps_set (i := 10) sc_law_bundle.nd rfl (Or.inl rfl) (pe_ix (ix_tupK (K := K) rfl) (pe_ix (ix_listK (K := K) rfl) (pv 4) pe_int (fun _ _ => rfl)) pe_int (fun _ _ => rfl))) (pss_one (ps_expr (pe_bm PySem.F.plainAttrs_list PySem.F.slot_list_append PySem.F.type_list_append mt_append (pv 9) (pa_cons (pe_tup (pa_cons pe_str (pa_cons (pe_tup (pa_cons (pe_tup (pa_cons (pe_op op_add (pv 10) pe_int) (pa_cons (pe_op op_add (pv 2) pe_int) pa_nil))) (pa_cons (pe_tup (pa_cons (pe_op op_add (pv 10) pe_int) (pa_cons (pe_op op_add (pv 2) pe_int) pa_nil))) (pa_cons (pe_tup (pa_cons (pe_op op_add (pv 10) pe_int) (pa_cons (pe_op op_add (pv 2) pe_int) pa_nil))) pa_nil)))) pa_nil))) pa_nil))))) pss_nil) (pss_one (ps_ret (pv 9))))))))), ?_⟩
  rintro f xs ⟨many, top, room⟩ hl ⟨rfl, h2, h26, t0, t1⟩
  try dsimp only [cxOf, cxComp]
  dsimp only at *
  refine s_seq (s_asg (d_call (many, top) ?_))
  repeat walk_at "dl"
  rintro _ ⟨ps, rfl, pl, hs⟩
  dsimp only at pl
  refine g_name (s_seq (s_if (t_test (d_opB (d_call 3 ?_)))))
  repeat walk_at "dl"
  rintro _ ⟨i, rfl, i0, i1⟩
  repeat walk_at "dl"
  refine ite_b (fun h => ?_) fun h => ?_
  · repeat walk_at "dl"
    refine d_call 3 ?_
    repeat walk_at "dl"
    rintro _ ⟨j, rfl, j0, j1⟩
    repeat walk_at "dl"
    generalize room / (many : Int) = q
    generalize hX : (if (if q < 1 + j then q else 1 + j) > 1 then if q < 1 + j then q else 1 + j else 1) = X
    have hX1 : 1 ≤ X ∧ X ≤ 3 := by
      rw [← hX]
      split <;> split <;> omega
    clear hX
    obtain ⟨X0, X3⟩ := hX1
    refine PEdO.ped (c_kind (B := fun qs : List Pt => PyData.list (qs.map ptD)) (ok := fun qs : List Pt => qs.length = many ∧ ∀ p ∈ qs, Sml 84 33 p) X.toNat (i_range ?_))
    repeat walk_at "dl"
    refine ⟨range_len' _, by omega, ?_, ?_⟩
    · rintro D' n d ρ' es hd ho hes
      obtain ⟨hn, rfl⟩ := range_at' hd
      obtain ⟨u, rfl⟩ := ho.one
      refine g_name (t_yes ?_)
      rw [if_pos rfl]
      refine b_emit hes (PEdO.ped (c_map (A := ptD) (B := fun p : Pt => ptD (p.1, p.2 + n)) ps (i_list (d_var rfl ⟨_, rfl, rfl, by omega, ?_, ?_⟩))))
      · rintro D2 p ρ2 es2 hp ho2 hes2
        obtain ⟨u, v, rfl⟩ := ho2.two
        unfold ptD
        refine g_tup rfl (gs_cons (g_name (gs_cons (g_name (gs_nil (t_yes ?_))))))
        rw [if_pos rfl]
        refine b_emit hes2 ?_
        repeat walk_at "dl"
        exact ⟨.mk2, rfl⟩
      · refine ⟨.mk1, ps.map fun p => (p.1, p.2 + (n : Int)), ⟨by rw [List.length_map]; exact pl, fun p hp => ?_⟩, by rw [List.map_map]; rfl⟩
        obtain ⟨p', hp', rfl⟩ := List.mem_map.mp hp
        obtain ⟨a1, a2, a3, a4⟩ := hs p' hp'
        exact ⟨a1, by show p'.1 ≤ 84; omega, by show 0 ≤ p'.2 + (n : Int); omega, by show p'.2 + (n : Int) ≤ 33; omega⟩
    · rintro qss hq hok
      refine g_name (s_ret (PEdO.ped (c_kind (B := lnD) (ok := OkL 84 33) qss.length (i_list (d_var rfl ⟨_, rfl, List.length_map _, by omega, ?_, ?_⟩)))))
      · rintro D' n d ρ' es hd ho hes
        obtain ⟨qs, hqs, rfl⟩ := List.mem_map.mp (List.mem_of_getElem? hd)
        obtain ⟨ql, qo⟩ := hok qs hqs
        obtain ⟨u, rfl⟩ := ho.one
        refine g_name (t_yes ?_)
        rw [if_pos rfl]
        refine b_emit hes ?_
        repeat walk_at "dl"
        refine d_call (qs.map ptD) ?_
        repeat walk_at "dl"
        rintro _ hr
        obtain ⟨qs', rfl, l', m'⟩ := either_pts hr
        repeat walk_at "dl"
        refine ⟨.mk1, (false, qs'), ⟨by dsimp only; omega, by dsimp only; omega, fun p hp => qo p (m' p hp)⟩, rfl⟩
      · rintro w hw hok2
        exact ⟨w, rfl, by omega, by omega, hok2⟩
  · refine s_nil (s_seq (s_asg (d_call (ps, top) ?_)))
    repeat walk_at "dl"
    refine ⟨⟨rfl, by dsimp only; omega, by dsimp only; omega, hs, t0, t1⟩, ?_⟩
    rintro _ ⟨rs, rfl, r3, r28, ro⟩
    have lm : (rs.map ptD).length = rs.length := List.length_map _
    have lm1 : 3 ≤ (rs.map ptD).length := by omega
    have lm2 : (rs.map ptD).length ≤ 28 := by omega
    refine g_name (s_seq (s_asg (d_call (((rs.map ptD).length : Nat) : Int) ?_)))
    repeat walk_at "dl"
    rintro _ ⟨a, rfl, a0, a1⟩
    refine g_name (s_own (o_lst ?_))
    repeat walk_at "dl"
    refine d_call (cutD (rs.map ptD) (some a) none ++ cutD (rs.map ptD) none (some a)) ?_
    refine a_feed rfl (a_cons (d_catL ?_))
    repeat walk_at "dl"
    have ha1 : a ≤ rs.length := by omega
    rw [cut_from a0 ha1, cut_to a0 ha1, ← List.map_append]
    refine ⟨by rw [List.length_map, List.length_map, List.length_drop, List.length_take]; omega, a_nil ⟨rfl, rfl, ?_⟩⟩
    rintro _ hr
    obtain ⟨qs', rfl, l', m'⟩ := either_pts hr
    have ql : qs'.length = rs.length := by
      rw [l', List.length_append, List.length_drop, List.length_take]
      omega
    have qo : ∀ p ∈ qs', Sml 84 33 p := fun p hp => by
      rcases List.mem_append.mp (m' p hp) with h | h
      · exact ro p (List.mem_of_mem_drop h)
      · exact ro p (List.mem_of_mem_take h)
    have ok1 : OkL 84 33 (true, qs') := ⟨by dsimp only; omega, by dsimp only; omega, qo⟩
    obtain ⟨p0, hp0, ep0⟩ := at_first (ps := ps) (by omega)
    obtain ⟨b1, b2, b3, b4⟩ := hs p0 hp0
    repeat walk_at "dl"
    refine ⟨show 9 < 11 by decide, fun D => ?_⟩
    refine o_if ?_
    repeat walk_at "dl"
    refine ite_b (fun h => ?_) fun h => ?_
    · repeat walk_at "dl"
      refine ite_b (fun h => ?_) fun h => ?_
      · refine o_seq (o_lift (s_asg ?_))
        repeat walk_at "dl"
        refine ⟨_, ep0, ?_⟩
        unfold ptD
        repeat walk_at "dl"
        refine o_app rfl (show 1 < 1000 by decide) ?_
        repeat walk_at "dl"
        refine ⟨[(true, qs'), (false, [(p0.1 + 1, top + 6), (p0.1 + 2, top + 5), (p0.1 + 3, top + 7)])], rfl, Nat.le_add_left 1 1, Nat.le_add_right 2 1, fun l hl => ?_⟩
        simp only [List.mem_cons, List.not_mem_nil, or_false] at hl
        rcases hl with rfl | rfl
        · exact ok1
        · refine ⟨by show 2 ≤ 3; decide, by show 3 ≤ 28; decide, fun p hp => ?_⟩
          simp only [List.mem_cons, List.not_mem_nil, or_false] at hp
          rcases hp with rfl | rfl | rfl <;> refine ⟨?_, ?_, ?_, ?_⟩ <;> dsimp only <;> omega
      · refine o_next ⟨rfl, ?_⟩
        repeat walk_at "dl"
        exact ⟨[(true, qs')], rfl, Nat.le_refl _, Nat.le_add_right 1 2, fun l hl => by rw [List.mem_singleton.mp hl]; exact ok1⟩
    · refine o_next ⟨rfl, ?_⟩
      repeat walk_at "dl"
      exact ⟨[(true, qs')], rfl, Nat.le_refl _, Nat.le_add_right 1 2, fun l hl => by rw [List.mem_singleton.mp hl]; exact ok1⟩
end
end My
end
section
--cat _law_ring _law_bundle _law_clean _law_moved _law_spoilt
set_option Elab.async false
set_option linter.all false
set_option maxRecDepth 100000
set_option maxHeartbeats 4000000
namespace My
open PySem PySem.Spec PyProof.Rows L2
local macro_rules | `(tactic| walk_at "dl") => `(tactic| first
  | (with_reducible show PSd _ _ (tAsg _ (gSub (tVar _) (tC (V.int 0)) rSetL)) _ _; refine s_feed0 rfl ?_)
  | (with_reducible show PSd _ _ (tAsg _ (gSub (tVar _) (tC (V.int 1)) rSetL)) _ _; refine s_feed1 rfl ?_)
  | with_reducible refine s_seq ?_ | with_reducible refine s_if ?_ | with_reducible refine s_ret ?_ | with_reducible refine s_asg ?_ | with_reducible refine s_drop ?_ | with_reducible refine s_nil ?_
  | with_reducible refine g_name ?_ | with_reducible refine g_tup rfl ?_ | with_reducible refine gs_cons ?_ | with_reducible refine gs_nil ?_
  | with_reducible refine t_test ?_ | with_reducible refine t_b ?_ | with_reducible refine t_and ?_ | with_reducible refine t_or ?_ | with_reducible refine t_not ?_ | with_reducible refine t_tru ?_
  | with_reducible refine d_chain ?_ | with_reducible refine d_opB ?_ | with_reducible refine d_opI ?_ | with_reducible refine d_opIC ?_ | with_reducible refine d_eqD ?_
  | with_reducible refine d_if ?_ | with_reducible refine d_andV ?_ | with_reducible refine d_orV ?_ | with_reducible refine d_notV ?_
  | with_reducible refine d_int ?_ | with_reducible refine d_bl ?_ | with_reducible refine d_str ?_ | with_reducible refine d_non ?_
  | (with_reducible show PEd _ _ (tVar _) _ _; refine d_var rfl ?_)
  | (with_reducible show PEd _ _ (tOp (rIxL _) (tVar _) _) _ _; refine d_ixF rfl ?_)
  | with_reducible refine d_ixL ?_ | with_reducible refine d_ixT ?_
  | (with_reducible show PAd _ _ (tCons (tVar _) _) _ _; refine a_feed rfl ?_)
  | with_reducible refine a_cons ?_ | with_reducible refine a_nil ?_
  | with_reducible refine d_catT ?_ | with_reducible refine d_cut ?_ | with_reducible refine po_no ?_ | with_reducible refine po_at ?_ | with_reducible refine d_int1 ?_ | with_reducible refine d_tupof ?_ | with_reducible refine t_yes ?_
  | with_reducible refine d_tup ?_ | with_reducible refine d_lst ?_ | with_reducible refine d_len ?_ | with_reducible refine d_minL ?_ | with_reducible refine d_maxL ?_ | with_reducible refine d_cbI2 ?_ | with_reducible refine d_cbI1 ?_
  | (with_reducible show (∃ _, _) ∨ (∃ _, _); first | refine Or.inl ⟨_, rfl, ?_⟩ | refine Or.inr ⟨_, rfl, ?_⟩) | refine ⟨_, rfl, ?_⟩ | refine ⟨_, _, rfl, ?_⟩
  | (with_reducible show (_ = _ ∧ ∀ _, _) ∨ _; first | refine Or.inl ⟨rfl, fun a ha => ?_⟩ | refine Or.inr ⟨rfl, fun b hb hb' => ?_⟩)
  | (with_reducible show PyData.canLay0 _ = true ∧ _; refine And.intro (by first | rfl | assumption | decide +kernel) ?_)
  | (with_reducible show min _ _ ≤ 60 ∧ _; refine And.intro (by first | assumption | (simp [PyData.depth, PyData.depthAll]; done)) ?_)
  | refine ⟨rfl, ?_⟩
  | (refine And.intro ?side ?_; (case side => first | omega | exact Int.ediv_nonneg (by omega) (by omega) | exact Int.emod_nonneg _ (by omega) | exact Int.emod_lt_of_pos _ (by omega) | decide | exact ⟨by decide, by decide, by decide⟩ | exact ⟨by omega, by omega⟩ | exact Or.inl ⟨by omega, by omega⟩ | exact Or.inr ⟨by omega, by omega⟩ | (refine Nat.le_trans (Nat.le_of_eq (by rfl)) (show _ ≤ 1000 by decide)) | ((repeat' apply And.intro) <;> first | rfl | omega | decide | assumption) | (simp [PyData.depth]))))
theorem lay_all {α : Type} {F : α → PyData} (h : ∀ x, (F x).canLay0 = true) : ∀ xs : List α, PyData.canLayAll0 (xs.map F) = true
  | [] => rfl
  | x :: xs => by
    show ((F x).canLay0 && PyData.canLayAll0 (xs.map F)) = true
    rw [h x, lay_all h xs]
    rfl
theorem lay_ln (l : Ln) : (lnD l).canLay0 = true := by
  show ((PyData.str (wordD l.1)).canLay0 && (PyData.canLayAll0 (l.2.map ptD) && true)) = true
  rw [lay_word, lay_all lay_pt]
  rfl
theorem lay_web (w : Web) : (PyData.list (w.map lnD)).canLay0 = true := lay_all lay_ln w
/-- within the room -/
def Far (B : Int) (p : Pt) : Prop := -B ≤ p.1 ∧ p.1 ≤ B ∧ -B ≤ p.2 ∧ p.2 ≤ B
structure FarWeb (n : Nat) (B : Int) (w : Web) : Prop where
  one : 1 ≤ w.length
  len : w.length ≤ n
  two : ∀ l ∈ w, 2 ≤ l.2.length
  few : ∀ l ∈ w, l.2.length ≤ 28
  far : ∀ l ∈ w, ∀ p ∈ l.2, Far B p
section
variable {P : Program} {w : World} {K : PySem.W.Frag} {mg : Str → Option Value} {base : Heap} {k : Nat}
abbrev spClean (K : PySem.W.Frag) : Sp := spD K 2 (fun (c : Int) xs => xs = [.feed, .dat (.int c)]) fun c r => ∃ w : Web, r = .list (w.map lnD) ∧ FarWeb 9 1000000000000 w
theorem ok_clean (F : Def K mg "_law_clean" s_law_clean ["_law_feed_here", "_law_most"]) (m_range : mg "range" = none) (m_len : mg "len" = none) (m_sum : mg "sum" = none) (m_int : mg "int" = none) (m_tuple : mg "tuple" = none) (G__law_draw : FnIn P w K mg base k "_law_draw" ["_law_feed_here", "_law_many"] (spDraw K))
    (G__law_bundle : FnIn P w K mg base k "_law_bundle" ["_law_feed_here", "_law_many", "_law_top", "_law_room"] (spBundle K)) :
    FnIn P w K mg base (k + 1) "_law_clean" ["_law_feed_here", "_law_most"] (spClean K) := by
  refine F.ok sc_law_clean rfl fun fa cdv A outer s H E hr => ⟨_, (pss_cons (ps_set (i := 2) sc_law_clean.nd rfl (Or.inl rfl) (pe_lst pa_nil)) (pss_cons (ps_set (i := 3) sc_law_clean.nd rfl (Or.inl rfl) (pv 1)) (pss_cons (ps_for PassesOwn.never rfl (pi_range1 rfl m_range (pa_cons (pe_op op_add pe_int (pe_callI G__law_draw hr rfl (pa_cons (pv 0) (pa_cons pe_int pa_nil)))) pa_nil)) (pg_name (i := 4) sc_law_clean.nd rfl (Or.inl rfl) (Or.inr rfl)) (pss_cons (ps_set (i := 5) sc_law_clean.nd rfl (Or.inl rfl) (pe_op op_add pe_int (pe_op op_mul (pe_callI G__law_draw hr rfl (pa_cons (pv 0) (pa_cons pe_int pa_nil))) (pe_ix (ix_listK (K := K) rfl) (pe_lst (pa_cons pe_int (pa_cons pe_int pa_nil))) (pe_callTy call_int1 rfl m_int PyProof.Rows.boot_int (pa_cons (pe_cmpR op_gt (pv 1) pe_int (nomark _)) pa_nil)) (fun _ _ => rfl))))) (pss_one (ps_if (pt_cmpR op_le (pe_op op_add (pv 5) pe_int) (pv 3) (nomark _)) (pss_cons (ps_set (i := 2) sc_law_clean.nd rfl (Or.inl rfl) (pe_op (op_catLK (K := K) rfl) (pv 2) (pe_callI G__law_bundle hr rfl (pa_cons (pv 0) (pa_cons (pv 5) (pa_cons (pe_op op_mul pe_int (pv 4)) (pa_cons (pe_op op_sub (pv 3) pe_int) pa_nil))))))) (pss_one (ps_set (i := 3) sc_law_clean.nd rfl (Or.inl rfl) (pe_op op_sub (pv 1) (pe_callB (call_sumRK (K := K) rfl rfl) rfl m_sum PyProof.Rows.boot_sum (pa_cons (pe_comp1 (N := ["_law_word", "_law_points"]) (own := 2) (fr := []) ⟨rfl, by decide +kernel, of_decide_eq_true (by kernel_rfl), of_decide_eq_true (by kernel_rfl), of_decide_eq_true (by kernel_rfl), rfl⟩ rfl (pi_listK (K := K) rfl (pv 2)) (fun _ _ _ _ => (pg_tupK (K := K) (n := 2) rfl rfl (pgs_cons (pg_name (i := 0) (show (["_law_word", "_law_points"] : List Str).Nodup by decide +kernel) rfl (Or.inl rfl) (Or.inr rfl)) (pgs_cons (pg_name (i := 1) (show (["_law_word", "_law_points"] : List Str).Nodup by decide +kernel) rfl (Or.inl rfl) (Or.inr rfl)) pgs_nil)))) (fun _ _ _ _ => pts_nil) (fun _ _ _ _ => (pe_callB (call_lenK (K := K) rfl) rfl m_len PySem.boot_len (pa_cons (pv 1) pa_nil))) rfl rfl (fun _ => rfl)) pa_nil)))))) pss_nil)))) (pss_cons (ps_if (pt_cmpR (op_eqK (K := K) rfl hr.units) (pv 2) (pe_lst pa_nil) (nomark _)) (pss_one (ps_set (i := 2) sc_law_clean.nd rfl (Or.inl rfl) (pe_lst (pa_cons (pe_tup (pa_cons pe_str (pa_cons (pe_tup (pa_cons (pe_tup (pa_cons pe_int (pa_cons pe_int pa_nil))) (pa_cons (pe_tup (pa_cons pe_int (pa_cons pe_int pa_nil))) pa_nil))) pa_nil))) pa_nil)))) pss_nil) (pss_cons (ps_set (i := 6) sc_law_clean.nd rfl (Or.inr rfl) (pe_ix (ix_listK (K := K) rfl) (pe_lst (pa_cons pe_int (pa_cons pe_int (pa_cons pe_int (pa_cons (pe_op op_pow pe_int pe_int) pa_nil))))) (pe_callI G__law_draw hr rfl (pa_cons (pv 0) (pa_cons pe_int pa_nil))) (fun _ _ => rfl))) (pss_cons (ps_set (i := 7) sc_law_clean.nd rfl (Or.inr rfl) (pe_ix (ix_listK (K := K) rfl) (pe_lst (pa_cons pe_int (pa_cons pe_int (pa_cons (pe_op op_sub pe_int pe_int) (pa_cons (pe_op op_pow pe_int pe_int) pa_nil))))) (pe_callI G__law_draw hr rfl (pa_cons (pv 0) (pa_cons pe_int pa_nil))) (fun _ _ => rfl))) (pss_one (ps_ret (pe_comp1 (N := ["_law_word", "_law_points", "_law_by", "_law_far"]) (own := 2) (fr := [6, 7]) ⟨rfl, by decide +kernel, of_decide_eq_true (by kernel_rfl), of_decide_eq_true (by kernel_rfl), of_decide_eq_true (by kernel_rfl), rfl⟩ rfl (pi_listK (K := K) rfl (pv 2)) (fun _ _ _ _ => (pg_tupK (K := K) (n := 2) rfl rfl (pgs_cons (pg_name (i := 0) (show (["_law_word", "_law_points", "_law_by", "_law_far"] : List Str).Nodup by decide +kernel) rfl (Or.inl rfl) (Or.inr rfl)) (pgs_cons (pg_name (i := 1) (show (["_law_word", "_law_points", "_law_by", "_law_far"] : List Str).Nodup by decide +kernel) rfl (Or.inl rfl) (Or.inr rfl)) pgs_nil)))) (fun _ _ _ _ => pts_nil) (fun _ _ _ _ => (pe_tup (pa_cons (pv 0) (pa_cons (pe_callTy (call_tupleK (K := K) rfl) rfl m_tuple PyProof.Rows.boot_tuple (pa_cons (pe_comp1 (N := ["_law_x", "_law_y", "_law_by", "_law_far"]) (own := 2) (fr := [2, 3]) ⟨rfl, by decide +kernel, of_decide_eq_true (by kernel_rfl), of_decide_eq_true (by kernel_rfl), of_decide_eq_true (by kernel_rfl), rfl⟩ rfl (pi_tupK (K := K) rfl (pv 1)) (fun _ _ _ _ => (pg_tupK (K := K) (n := 2) rfl rfl (pgs_cons (pg_name (i := 0) (show (["_law_x", "_law_y", "_law_by", "_law_far"] : List Str).Nodup by decide +kernel) rfl (Or.inl rfl) (Or.inr rfl)) (pgs_cons (pg_name (i := 1) (show (["_law_x", "_law_y", "_law_by", "_law_far"] : List Str).Nodup by decide +kernel) rfl (Or.inl rfl) (Or.inr rfl)) pgs_nil)))) (fun _ _ _ _ => pts_nil) (fun _ _ _ _ => (pe_tup (pa_cons (pe_op op_add (pe_op op_mul (pv 0) (pv 2)) (pv 3)) (pa_cons (pe_op op_sub (pe_op op_mul (pv 1) (pv 2)) (pv 3)) pa_nil)))) rfl rfl (fun _ => rfl)) pa_nil)) pa_nil)))) rfl rfl (fun _ => rfl)))))))))), ?_⟩
  rintro f xs most hl rfl
  try dsimp only [cxOf, cxComp]
  refine s_seq (s_asg ?_)
  repeat walk_at "dl"
  refine s_for (i_range ?_)
  repeat walk_at "dl"
  refine d_call 3 ?_
  repeat walk_at "dl"
  rintro _ ⟨tm, rfl, t0, t1⟩
  repeat walk_at "dl"
  refine ⟨fun n ρ => ∃ (w : Web) (left : Int) (x4 x5 x6 x7 : Option DV), ρ = [some .feed, some (.dat (.int most)), some (.dat (.list (w.map lnD))), some (.dat (.int left)), x4, x5, x6, x7] ∧ w.length ≤ 3 * n ∧ ∀ l ∈ w, OkL 84 33 l, ⟨[], most, _, _, _, _, rfl, Nat.zero_le _, fun l hl => by cases hl⟩, ?_, ?_⟩
  · rintro n d _ hd ⟨w, left, x4, x5, x6, x7, rfl, wl, wo⟩
    obtain ⟨hn, rfl⟩ := range_at' hd
    refine g_name (s_seq (s_asg ?_))
    repeat walk_at "dl"
    refine d_call 9 ?_
    repeat walk_at "dl"
    rintro _ ⟨i, rfl, i0, i1⟩
    repeat walk_at "dl"
    have hm : ∃ m : Int, atI [PyData.int 1, PyData.int 3] (if decide (30 < most) = true then 1 else 0) = some (.int m) ∧ 1 ≤ m ∧ m ≤ 3 := by
      cases decide (30 < most) with
      | true => exact ⟨3, rfl, by decide, by decide⟩
      | false => exact ⟨1, rfl, by decide, by decide⟩
    obtain ⟨m, hm, m0, m1⟩ := hm
    refine ⟨_, hm, _, rfl, .inr ⟨by omega, by omega⟩, _, rfl, ?_⟩
    have e0 : 0 ≤ i * m := Int.mul_nonneg i0 (by omega)
    have e1 : i * m ≤ 8 * 3 := Int.mul_le_mul (by omega) m1 (by omega) (by decide)
    generalize i * m = im at e0 e1
    have hn3 : (n : Int) < 3 := by
      have : n < (1 + tm).toNat := hn
      omega
    obtain ⟨mn, hmn⟩ : ∃ mn : Nat, 2 + im = (mn : Int) := ⟨(2 + im).toNat, by omega⟩
    rw [hmn]
    refine g_name (s_if (t_test (d_opB ?_)))
    repeat walk_at "dl"
    refine ite_b (fun h => ?_) fun h => ?_
    · refine s_seq (s_asg (d_catL (d_var rfl ⟨_, rfl, d_call (mn, 12 * (n : Int), left - 2) ?_⟩)))
      repeat walk_at "dl"
      refine ⟨⟨rfl, by dsimp only; omega, by dsimp only; omega, by dsimp only; omega, by dsimp only; omega⟩, ?_⟩
      rintro _ ⟨w2, rfl, v1, v2, vo⟩
      refine ⟨_, rfl, by rw [List.length_map, List.length_map]; omega, ?_⟩
      rw [← List.map_append]
      refine g_name (s_asg (d_opI (d_var rfl ⟨_, rfl, d_sum (PEdO.ped (c_map (A := lnD) (B := fun l : Ln => PyData.int (l.2.length : Int)) (w ++ w2) (i_list (d_var rfl ⟨_, rfl, rfl, by rw [List.length_append]; omega, ?_, ?_⟩))))⟩)))
      · rintro D2 l ρ2 es2 hl ho2 hes2
        obtain ⟨u, v, rfl⟩ := ho2.two
        unfold lnD
        refine g_tup rfl (gs_cons (g_name (gs_cons (g_name (gs_nil (t_yes ?_))))))
        rw [if_pos rfl]
        refine b_emit hes2 ?_
        repeat walk_at "dl"
        rw [List.length_map]
        exact ⟨.mk2, rfl⟩
      · refine ⟨(w ++ w2).map fun l => (l.2.length : Int), by rw [List.map_map]; rfl, ?_⟩
        repeat walk_at "dl"
        exact ⟨w ++ w2, _, _, _, _, _, rfl, by rw [List.length_append]; omega, fun l hl => (List.mem_append.mp hl).elim (wo l) (vo l)⟩
    · repeat walk_at "dl"
      exact ⟨w, left, _, _, _, _, rfl, by omega, wo⟩
  · rintro _ ⟨w, left, x4, x5, x6, x7, rfl, wl, wo⟩
    rw [range_len'] at wl
    have lw := lay_web w
    have dw : min (PyData.list (w.map lnD)).depth (PyData.list []).depth ≤ 60 := Nat.le_trans (Nat.min_le_right _ _) (by decide +kernel)
    refine s_seq (PSd.imp (D := { nx := fun ρ => ∃ (w : Web) (left : Int) (x4 x5 x6 x7 : Option DV), ρ = [some .feed, some (.dat (.int most)), some (.dat (.list (w.map lnD))), some (.dat (.int left)), x4, x5, x6, x7] ∧ 1 ≤ w.length ∧ w.length ≤ 9 ∧ ∀ l ∈ w, OkL 84 33 l, rt := fun _ => False }) ?_ ?_ (fun _ z => z.elim) (fun _ z => z.elim) (fun _ z => z.elim))
    · repeat walk_at "dl"
      refine ite_b (fun h => ?_) fun h => ?_
      · repeat walk_at "dl"
        refine ⟨[(false, [(0, 0), (3, 1)])], left, _, _, _, _, rfl, Nat.le_refl _, by show 1 ≤ 9; decide, fun l hl => ?_⟩
        rw [List.mem_singleton.mp hl]
        refine ⟨by show 2 ≤ 2; decide, by show 2 ≤ 28; decide, fun p hp => ?_⟩
        simp only [List.mem_cons, List.not_mem_nil, or_false] at hp
        rcases hp with rfl | rfl <;> refine ⟨?_, ?_, ?_, ?_⟩ <;> dsimp only <;> omega
      · refine s_nil ⟨w, left, _, _, _, _, rfl, ?_, by omega, wo⟩
        cases w with
        | nil => exact absurd h (by decide +kernel)
        | cons l w => exact Nat.succ_le_succ (Nat.zero_le _)
    · rintro _ ⟨w, left, x4, x5, x6, x7, rfl, w1, w9, wo⟩
      repeat walk_at "dl"
      refine d_call 4 ?_
      repeat walk_at "dl"
      rintro _ ⟨q, rfl, q0, q1⟩
      have hq : ∃ v : Int, atI [PyData.int 1, PyData.int 2, PyData.int 3, PyData.int (10 ^ Int.toNat 9)] q = some (.int v) ∧ 1 ≤ v ∧ v ≤ 1000000000 := by
        have : q = 0 ∨ q = 1 ∨ q = 2 ∨ q = 3 := by omega
        rcases this with rfl | rfl | rfl | rfl <;> exact ⟨_, rfl, by decide +kernel, by decide +kernel⟩
      obtain ⟨by', hb, b0, b1⟩ := hq
      refine ⟨_, rfl, _, hb, ?_⟩
      repeat walk_at "dl"
      refine d_call 4 ?_
      repeat walk_at "dl"
      rintro _ ⟨q, rfl, q0, q1⟩
      have hq : ∃ v : Int, atI [PyData.int 0, PyData.int 0, PyData.int (0 - 17), PyData.int (10 ^ Int.toNat 11)] q = some (.int v) ∧ -17 ≤ v ∧ v ≤ 100000000000 := by
        have : q = 0 ∨ q = 1 ∨ q = 2 ∨ q = 3 := by omega
        rcases this with rfl | rfl | rfl | rfl <;> exact ⟨_, rfl, by decide +kernel, by decide +kernel⟩
      obtain ⟨far, hf, f0, f1⟩ := hq
      refine ⟨_, rfl, _, hf, ?_⟩
      repeat walk_at "dl"
      refine PEdO.ped (c_map (A := lnD) (B := fun l : Ln => lnD (l.1, l.2.map fun p => (p.1 * by' + far, p.2 * by' - far))) w (i_list (d_var rfl ⟨_, rfl, rfl, by omega, ?_, ?_⟩)))
      · rintro D2 l ρ2 es2 hl ho2 hes2
        obtain ⟨u, v, rfl⟩ := ho2.two
        have lo := wo l hl
        unfold lnD
        refine g_tup rfl (gs_cons (g_name (gs_cons (g_name (gs_nil (t_yes ?_))))))
        rw [if_pos rfl]
        refine b_emit hes2 ?_
        repeat walk_at "dl"
        refine PEdO.ped (c_map (A := ptD) (B := fun p : Pt => ptD (p.1 * by' + far, p.2 * by' - far)) l.2 (i_tup (d_var rfl ⟨_, rfl, rfl, by have := lo.2.1; omega, ?_, ?_⟩)))
        · rintro D3 p ρ3 es3 hp ho3 hes3
          obtain ⟨u3, v3, rfl⟩ := ho3.two
          obtain ⟨a1, a2, a3, a4⟩ := lo.2.2 p hp
          unfold ptD
          refine g_tup rfl (gs_cons (g_name (gs_cons (g_name (gs_nil (t_yes ?_))))))
          rw [if_pos rfl]
          refine b_emit hes3 ?_
          repeat walk_at "dl"
          exact ⟨.mk2, rfl⟩
        · repeat walk_at "dl"
          exact ⟨.mk2, by rw [List.map_map]; rfl⟩
      · refine ⟨w.map fun l => (l.1, l.2.map fun p => (p.1 * by' + far, p.2 * by' - far)), by rw [List.map_map]; rfl, ⟨by rw [List.length_map]; exact w1, by rw [List.length_map]; exact w9, fun l hl => ?_, fun l hl => ?_, fun l hl p hp => ?_⟩⟩
        · obtain ⟨l', hl', rfl⟩ := List.mem_map.mp hl
          dsimp only
          rw [List.length_map]
          exact (wo l' hl').1
        · obtain ⟨l', hl', rfl⟩ := List.mem_map.mp hl
          dsimp only
          rw [List.length_map]
          exact (wo l' hl').2.1
        · obtain ⟨l', hl', rfl⟩ := List.mem_map.mp hl
          obtain ⟨p', hp', rfl⟩ := List.mem_map.mp hp
          obtain ⟨a1, a2, a3, a4⟩ := (wo l' hl').2.2 p' hp'
          have e1 : 0 ≤ p'.1 * by' := Int.mul_nonneg a1 (by omega)
          have e2 : p'.1 * by' ≤ 84 * 1000000000 := Int.mul_le_mul a2 b1 (by omega) (by decide)
          have e3 : 0 ≤ p'.2 * by' := Int.mul_nonneg a3 (by omega)
          have e4 : p'.2 * by' ≤ 33 * 1000000000 := Int.mul_le_mul a4 b1 (by omega) (by decide)
          refine ⟨?_, ?_, ?_, ?_⟩ <;> dsimp only <;> omega
end
end My
end
section
--cat _law_ring _law_bundle _law_clean _law_moved _law_spoilt
set_option Elab.async false
set_option linter.all false
set_option maxRecDepth 100000
set_option maxHeartbeats 4000000
namespace My
open PySem PySem.Spec PyProof.Rows L2
local macro_rules | `(tactic| walk_at "dl") => `(tactic| first
  | (with_reducible show PSd _ _ (tAsg _ (gSub (tVar _) (tC (V.int 0)) rSetL)) _ _; refine s_feed0 rfl ?_)
  | (with_reducible show PSd _ _ (tAsg _ (gSub (tVar _) (tC (V.int 1)) rSetL)) _ _; refine s_feed1 rfl ?_)
  | with_reducible refine s_seq ?_ | with_reducible refine s_if ?_ | with_reducible refine s_ret ?_ | with_reducible refine s_asg ?_ | with_reducible refine s_drop ?_ | with_reducible refine s_nil ?_
  | with_reducible refine g_name ?_ | with_reducible refine g_tup rfl ?_ | with_reducible refine gs_cons ?_ | with_reducible refine gs_nil ?_
  | with_reducible refine t_test ?_ | with_reducible refine t_b ?_ | with_reducible refine t_and ?_ | with_reducible refine t_or ?_ | with_reducible refine t_not ?_ | with_reducible refine t_tru ?_
  | with_reducible refine d_chain ?_ | with_reducible refine d_opB ?_ | with_reducible refine d_opI ?_ | with_reducible refine d_opIC ?_ | with_reducible refine d_eqD ?_
  | with_reducible refine d_if ?_ | with_reducible refine d_andV ?_ | with_reducible refine d_orV ?_ | with_reducible refine d_notV ?_
  | with_reducible refine d_int ?_ | with_reducible refine d_bl ?_ | with_reducible refine d_str ?_ | with_reducible refine d_non ?_
  | (with_reducible show PEd _ _ (tVar _) _ _; refine d_var rfl ?_)
  | (with_reducible show PEd _ _ (tOp (rIxL _) (tVar _) _) _ _; refine d_ixF rfl ?_)
  | with_reducible refine d_ixL ?_ | with_reducible refine d_ixT ?_
  | (with_reducible show PAd _ _ (tCons (tVar _) _) _ _; refine a_feed rfl ?_)
  | with_reducible refine a_cons ?_ | with_reducible refine a_nil ?_
  | with_reducible refine d_catT ?_ | with_reducible refine d_cut ?_ | with_reducible refine po_no ?_ | with_reducible refine po_at ?_ | with_reducible refine d_int1 ?_ | with_reducible refine d_tupof ?_ | with_reducible refine t_yes ?_
  | with_reducible refine d_tup ?_ | with_reducible refine d_lst ?_ | with_reducible refine d_len ?_ | with_reducible refine d_minL ?_ | with_reducible refine d_maxL ?_ | with_reducible refine d_cbI2 ?_ | with_reducible refine d_cbI1 ?_
  | (with_reducible show (∃ _, _) ∨ (∃ _, _); first | refine Or.inl ⟨_, rfl, ?_⟩ | refine Or.inr ⟨_, rfl, ?_⟩) | refine ⟨_, rfl, ?_⟩ | refine ⟨_, _, rfl, ?_⟩
  | (with_reducible show (_ = _ ∧ ∀ _, _) ∨ _; first | refine Or.inl ⟨rfl, fun a ha => ?_⟩ | refine Or.inr ⟨rfl, fun b hb hb' => ?_⟩)
  | (with_reducible show PyData.canLay0 _ = true ∧ _; refine And.intro (by first | rfl | assumption | decide +kernel) ?_)
  | (with_reducible show min _ _ ≤ 60 ∧ _; refine And.intro (by first | assumption | (simp [PyData.depth, PyData.depthAll]; done)) ?_)
  | refine ⟨rfl, ?_⟩
  | (refine And.intro ?side ?_; (case side => first | omega | exact Int.ediv_nonneg (by omega) (by omega) | exact Int.emod_nonneg _ (by omega) | exact Int.emod_lt_of_pos _ (by omega) | decide | exact ⟨by decide, by decide, by decide⟩ | exact ⟨by omega, by omega⟩ | exact Or.inl ⟨by omega, by omega⟩ | exact Or.inr ⟨by omega, by omega⟩ | (refine Nat.le_trans (Nat.le_of_eq (by rfl)) (show _ ≤ 1000 by decide)) | ((repeat' apply And.intro) <;> first | rfl | omega | decide | assumption) | (simp [PyData.depth]))))
def movedL (l : Ln) (a : Nat) (p : Pt) : Ln := (l.1, l.2.take a ++ [p] ++ l.2.drop (a + 1))
def movedW (w : Web) (k a : Nat) (p : Pt) : Web := w.take k ++ [movedL (lnAt w k) a p] ++ w.drop (k + 1)
theorem ln_mem {w : Web} {k : Nat} (h : k < w.length) : lnAt w k ∈ w := by
  unfold lnAt
  rw [List.getD_eq_getElem?_getD, List.getElem?_eq_getElem h]
  exact List.getElem_mem h
theorem movedL_len {l : Ln} {a : Nat} {p : Pt} (h : a < l.2.length) : (movedL l a p).2.length = l.2.length := by
  unfold movedL
  simp
  omega
theorem movedW_len {w : Web} {k a : Nat} {p : Pt} (h : k < w.length) : (movedW w k a p).length = w.length := by
  unfold movedW
  simp
  omega
theorem movedW_at {w : Web} {k a : Nat} {p : Pt} (h : k < w.length) : lnAt (movedW w k a p) k = movedL (lnAt w k) a p := by
  unfold movedW
  have : (List.take k w).length = k := by rw [List.length_take]; omega
  show (List.take k w ++ [movedL (lnAt w k) a p] ++ List.drop (k + 1) w).getD k (false, []) = _
  rw [List.getD_eq_getElem?_getD, List.append_assoc, List.getElem?_append_right (by omega), this, Nat.sub_self]
  rfl
theorem movedW_far {n : Nat} {B : Int} {w : Web} {k a : Nat} {p : Pt} (hw : FarWeb n B w) (h : k < w.length) (ha : a < (lnAt w k).2.length) (hp : Far B p) : FarWeb n B (movedW w k a p) := by
  have key : ∀ l ∈ movedW w k a p, l ∈ w ∨ l = movedL (lnAt w k) a p := fun l hl => by
    unfold movedW at hl
    rcases List.mem_append.mp hl with hl | hl
    · rcases List.mem_append.mp hl with hl | hl
      · exact .inl (List.mem_of_mem_take hl)
      · exact .inr (List.mem_singleton.mp hl)
    · exact .inl (List.mem_of_mem_drop hl)
  have hm := ln_mem h
  refine ⟨by rw [movedW_len h]; exact hw.one, by rw [movedW_len h]; exact hw.len, fun l hl => ?_, fun l hl => ?_, fun l hl q hq => ?_⟩
  · rcases key l hl with hl | rfl
    · exact hw.two l hl
    · rw [movedL_len ha]; exact hw.two _ hm
  · rcases key l hl with hl | rfl
    · exact hw.few l hl
    · rw [movedL_len ha]; exact hw.few _ hm
  · rcases key l hl with hl | rfl
    · exact hw.far l hl q hq
    · unfold movedL at hq
      rcases List.mem_append.mp hq with hq | hq
      · rcases List.mem_append.mp hq with hq | hq
        · exact hw.far _ hm q (List.mem_of_mem_take hq)
        · rw [List.mem_singleton.mp hq]; exact hp
      · exact hw.far _ hm q (List.mem_of_mem_drop hq)
theorem at_ln {w : Web} {k : Int} (h0 : 0 ≤ k) (h : k < w.length) : atI (w.map lnD) k = some (lnD (lnAt w k.toNat)) := by
  rw [atI_mapP (j := k.toNat) (by omega) (by omega)]
  unfold lnAt
  rw [List.getD_eq_getElem?_getD, List.getElem?_eq_getElem (by omega)]
  rfl
section
variable {P : Program} {w : World} {K : PySem.W.Frag} {mg : Str → Option Value} {base : Heap} {k : Nat}
abbrev spMoved (K : PySem.W.Frag) : Sp := spD K 4 (fun (c : Web × Nat × Nat × Pt) xs => xs = [.dat (.list (c.1.map lnD)), .dat (.int c.2.1), .dat (.int c.2.2.1), .dat (ptD c.2.2.2)] ∧ c.1.length ≤ 20 ∧ c.2.1 < c.1.length ∧ c.2.2.1 < (lnAt c.1 c.2.1).2.length ∧ (lnAt c.1 c.2.1).2.length ≤ 28) fun c r => r = .list ((movedW c.1 c.2.1 c.2.2.1 c.2.2.2).map lnD)
theorem ok_moved (F : Def K mg "_law_moved" s_law_moved ["_law_web", "_law_k", "_law_at", "_law_point"]) : FnIn P w K mg base (k + 1) "_law_moved" ["_law_web", "_law_k", "_law_at", "_law_point"] (spMoved K) := by
  refine F.ok sc_law_moved rfl fun fa cdv A outer s H E hr => ⟨_, (pss_cons (ps_asg (pe_ix (ix_listK (K := K) rfl) (pv 0) (pv 1) (fun _ _ => rfl)) (pg_tupK (K := K) (n := 2) rfl rfl (pgs_cons (pg_name (i := 4) sc_law_moved.nd rfl (Or.inl rfl) (Or.inr rfl)) (pgs_cons (pg_name (i := 5) sc_law_moved.nd rfl (Or.inl rfl) (Or.inr rfl)) pgs_nil)))) (pss_cons (ps_set (i := 5) sc_law_moved.nd rfl (Or.inl rfl) (pe_op (op_catAK (K := K) rfl) (pe_op (op_catAK (K := K) rfl) (pe_slice (sl_tupK (K := K) rfl) (pv 5) po_none (po_some (pv 2))) (pe_tup (pa_cons (pv 3) pa_nil))) (pe_slice (sl_tupK (K := K) rfl) (pv 5) (po_some (pe_op op_add (pv 2) pe_int)) po_none))) (pss_one (ps_ret (pe_op (op_catLK (K := K) rfl) (pe_op (op_catLK (K := K) rfl) (pe_slice (sl_listK (K := K) rfl) (pv 0) po_none (po_some (pv 1))) (pe_lst (pa_cons (pe_tup (pa_cons (pv 4) (pa_cons (pv 5) pa_nil))) pa_nil))) (pe_slice (sl_listK (K := K) rfl) (pv 0) (po_some (pe_op op_add (pv 1) pe_int)) po_none)))))), ?_⟩
  rintro f xs ⟨w, k, a, p⟩ hl ⟨rfl, w20, hk, ha, h28⟩
  try dsimp only [cxOf, cxComp]
  dsimp only at *
  have hat := at_ln (w := w) (k := (k : Int)) (by omega) (by omega)
  rw [Int.toNat_natCast] at hat
  repeat walk_at "dl"
  refine ⟨_, hat, ?_⟩
  unfold lnD at hat
  unfold lnD
  generalize hl0 : lnAt w k = l at *
  repeat walk_at "dl"
  refine d_catA (d_catA (d_cutT ?_))
  repeat walk_at "dl"
  refine ⟨fun z => ?_, ?_⟩
  · have z2 := z.2
    rw [HT.sIx_nat, List.length_map] at z2
    omega
  rw [cut_to (by omega) (by omega), Int.toNat_natCast]
  repeat walk_at "dl"
  refine ⟨by rw [List.length_map, List.length_take]; show _ + 1 ≤ 1000; omega, _, rfl, d_cutT ?_⟩
  repeat walk_at "dl"
  have e1 : (a : Int) + 1 = ((a + 1 : Nat) : Int) := by omega
  rw [e1]
  refine ⟨fun z => ?_, ?_⟩
  · have z2 := z.1
    rw [HT.sIx_nat, List.length_map] at z2
    omega
  rw [cut_from (by omega) (by omega), Int.toNat_natCast]
  repeat walk_at "dl"
  refine ⟨by simp only [List.length_append, List.length_map, List.length_take, List.length_drop, List.length_cons, List.length_nil]; omega, ?_⟩
  rw [show (List.map ptD (List.take a l.2) ++ [ptD p] ++ List.map ptD (List.drop (a + 1) l.2)) = (movedL l a p).2.map ptD by unfold movedL; rw [List.map_append, List.map_append]; rfl]
  refine g_name (s_ret (d_catL (d_catL (d_cut ?_))))
  repeat walk_at "dl"
  rw [cut_to (by omega) (by omega), Int.toNat_natCast]
  repeat walk_at "dl"
  refine ⟨by rw [List.length_map, List.length_take]; show _ + 1 ≤ 1000; omega, _, rfl, d_cut ?_⟩
  repeat walk_at "dl"
  rw [show (k : Int) + 1 = ((k + 1 : Nat) : Int) by omega, cut_from (by omega) (by omega), Int.toNat_natCast]
  refine ⟨by simp only [List.length_append, List.length_map, List.length_take, List.length_drop, List.length_cons, List.length_nil]; omega, ?_⟩
  show PyData.list _ = PyData.list _
  unfold movedW
  rw [hl0, List.map_append, List.map_append]
  rfl
theorem at_pt {ps : List Pt} {q : Int} (h0 : -(ps.length : Int) ≤ q) (h1 : q < ps.length) : ∃ p ∈ ps, atI (ps.map ptD) q = some (ptD p) := by
  by_cases hq : 0 ≤ q
  · have hi : q.toNat < ps.length := by omega
    exact ⟨ps[q.toNat], List.getElem_mem hi, atI_mapP (j := q.toNat) (by omega) hi⟩
  · have hi : (q + ps.length).toNat < ps.length := by omega
    refine ⟨ps[(q + ps.length).toNat], List.getElem_mem hi, ?_⟩
    unfold atI ixN
    rw [if_neg hq, if_pos (by rw [List.length_map]; omega), List.length_map]
    show (ps.map ptD)[_]? = _
    rw [List.getElem?_map, List.getElem?_eq_getElem hi]
    rfl
theorem Far.mono {B B' : Int} {p : Pt} (h : Far B p) (hb : B ≤ B') : Far B' p := ⟨by have := h.1; omega, by have := h.2.1; omega, by have := h.2.2.1; omega, by have := h.2.2.2; omega⟩
theorem FarWeb.mono {n n' : Nat} {B B' : Int} {w : Web} (h : FarWeb n B w) (hn : n ≤ n') (hb : B ≤ B') : FarWeb n' B' w := ⟨h.one, Nat.le_trans h.len hn, h.two, h.few, fun l hl p hp => (h.far l hl p hp).mono hb⟩
abbrev spSpoilt (K : PySem.W.Frag) : Sp := spD K 2 (fun (c : Web) xs => xs = [.feed, .dat (.list (c.map lnD))] ∧ FarWeb 9 1000000000000 c) fun c r => ∃ w : Web, r = .list (w.map lnD) ∧ FarWeb 10 1000000000002 w
theorem s_any {f : Fx} {ρ : DEnv} {D : DEnds} {tt : TT} {ts tu : TS} (h : PTd K f tt ρ fun _ => True) (h1 : PSd K f ts ρ D) (h2 : PSd K f tu ρ D) : PSd K f (tIfS tt ts tu) ρ D := s_if fun σ H Q e q => h σ H Q e fun b H' g _ => q b H' g (by cases b <;> simpa)
theorem ok_spoilt (F : Def K mg "_law_spoilt" s_law_spoilt ["_law_feed_here", "_law_web"]) (m_len : mg "len" = none) (m_sum : mg "sum" = none) (G__law_draw : FnIn P w K mg base k "_law_draw" ["_law_feed_here", "_law_many"] (spDraw K)) (G__law_moved : FnIn P w K mg base k "_law_moved" ["_law_web", "_law_k", "_law_at", "_law_point"] (spMoved K)) : FnIn P w K mg base (k + 1) "_law_spoilt" ["_law_feed_here", "_law_web"] (spSpoilt K) := by
  refine F.ok sc_law_spoilt rfl fun fa cdv A outer s H E hr => ⟨_, (pss_cons (ps_set (i := 2) sc_law_spoilt.nd rfl (Or.inl rfl) (pe_callI G__law_draw hr rfl (pa_cons (pv 0) (pa_cons pe_int pa_nil)))) (pss_cons (ps_set (i := 3) sc_law_spoilt.nd rfl (Or.inl rfl) (pe_callI G__law_draw hr rfl (pa_cons (pv 0) (pa_cons (pe_callB (call_lenK (K := K) rfl) rfl m_len PySem.boot_len (pa_cons (pv 1) pa_nil)) pa_nil)))) (pss_cons (ps_set (i := 4) sc_law_spoilt.nd rfl (Or.inl rfl) (pe_callI G__law_draw hr rfl (pa_cons (pv 0) (pa_cons (pe_callB (call_lenK (K := K) rfl) rfl m_len PySem.boot_len (pa_cons (pe_ix (ix_tupK (K := K) rfl) (pe_ix (ix_listK (K := K) rfl) (pv 1) (pv 3) (fun _ _ => rfl)) pe_int (fun _ _ => rfl)) pa_nil)) pa_nil)))) (pss_cons (ps_set (i := 5) sc_law_spoilt.nd rfl (Or.inl rfl) (pe_ix (ix_tupK (K := K) rfl) (pe_ix (ix_listK (K := K) rfl) (pv 1) (pe_callI G__law_draw hr rfl (pa_cons (pv 0) (pa_cons (pe_callB (call_lenK (K := K) rfl) rfl m_len PySem.boot_len (pa_cons (pv 1) pa_nil)) pa_nil))) (fun _ _ => rfl)) pe_int (fun _ _ => rfl))) (pss_cons (ps_set (i := 6) sc_law_spoilt.nd rfl (Or.inl rfl) (pe_ix (ix_tupK (K := K) rfl) (pv 5) (pe_callI G__law_draw hr rfl (pa_cons (pv 0) (pa_cons (pe_callB (call_lenK (K := K) rfl) rfl m_len PySem.boot_len (pa_cons (pv 5) pa_nil)) pa_nil))) (fun _ _ => rfl))) (pss_cons (ps_set (i := 7) sc_law_spoilt.nd rfl (Or.inl rfl) (pe_ix (ix_tupK (K := K) rfl) (pv 5) (pe_callI G__law_draw hr rfl (pa_cons (pv 0) (pa_cons (pe_callB (call_lenK (K := K) rfl) rfl m_len PySem.boot_len (pa_cons (pv 5) pa_nil)) pa_nil))) (fun _ _ => rfl))) (pss_cons (ps_if (pt_cmpR (op_eqK (K := K) rfl hr.units) (pv 2) pe_int (nomark _)) (pss_one (ps_ret (pv 1))) pss_nil) (pss_cons (ps_if (pt_cmpR op_lt (pv 2) pe_int (nomark _)) (pss_one (ps_ret (pe_callI G__law_moved hr rfl (pa_cons (pv 1) (pa_cons (pv 3) (pa_cons (pv 4) (pa_cons (pv 6) pa_nil))))))) pss_nil) (pss_cons (ps_if (pt_cmpR (op_eqK (K := K) rfl hr.units) (pv 2) pe_int (nomark _)) (pss_one (ps_ret (pe_callI G__law_moved hr rfl (pa_cons (pv 1) (pa_cons (pv 3) (pa_cons (pv 4) (pa_cons (pe_ix (ix_tupK (K := K) rfl) (pe_ix (ix_tupK (K := K) rfl) (pe_ix (ix_listK (K := K) rfl) (pv 1) (pv 3) (fun _ _ => rfl)) pe_int (fun _ _ => rfl)) (pe_op op_sub (pv 4) pe_int) (fun _ _ => rfl)) pa_nil))))))) pss_nil) (pss_cons (ps_if (pt_cmpR (op_eqK (K := K) rfl hr.units) (pv 2) pe_int (nomark _)) (pss_one (ps_ret (pe_callI G__law_moved hr rfl (pa_cons (pv 1) (pa_cons (pv 3) (pa_cons (pv 4) (pa_cons (pe_tup (pa_cons (pe_op op_fdivW (pe_op op_add (pe_ix (ix_tupK (K := K) rfl) (pv 6) pe_int (fun _ _ => rfl)) (pe_ix (ix_tupK (K := K) rfl) (pv 7) pe_int (fun _ _ => rfl))) pe_int) (pa_cons (pe_op op_fdivW (pe_op op_add (pe_ix (ix_tupK (K := K) rfl) (pv 6) pe_int (fun _ _ => rfl)) (pe_ix (ix_tupK (K := K) rfl) (pv 7) pe_int (fun _ _ => rfl))) pe_int) pa_nil))) pa_nil))))))) pss_nil) (pss_cons (ps_set (i := 8) sc_law_spoilt.nd rfl (Or.inl rfl) (pe_tup (pa_cons (pe_op op_sub (pe_op op_add (pe_ix (ix_tupK (K := K) rfl) (pv 6) pe_int (fun _ _ => rfl)) (pe_callI G__law_draw hr rfl (pa_cons (pv 0) (pa_cons pe_int pa_nil)))) pe_int) (pa_cons (pe_op op_sub (pe_op op_add (pe_ix (ix_tupK (K := K) rfl) (pv 7) pe_int (fun _ _ => rfl)) (pe_callI G__law_draw hr rfl (pa_cons (pv 0) (pa_cons pe_int pa_nil)))) pe_int) pa_nil)))) (pss_cons (ps_if (PW.pt (pw_and (pt_cmpR (op_eqK (K := K) rfl hr.units) (pv 2) pe_int (nomark _)) (pw_and1 (pt_cmpR op_le (pe_op op_add (pe_callB (call_sumRK (K := K) rfl rfl) rfl m_sum PyProof.Rows.boot_sum (pa_cons (pe_comp1 (N := ["_law_word", "_law_points"]) (own := 2) (fr := []) ⟨rfl, by decide +kernel, of_decide_eq_true (by kernel_rfl), of_decide_eq_true (by kernel_rfl), of_decide_eq_true (by kernel_rfl), rfl⟩ rfl (pi_listK (K := K) rfl (pv 1)) (fun _ _ _ _ => (pg_tupK (K := K) (n := 2) rfl rfl (pgs_cons (pg_name (i := 0) (show (["_law_word", "_law_points"] : List Str).Nodup by decide +kernel) rfl (Or.inl rfl) (Or.inr rfl)) (pgs_cons (pg_name (i := 1) (show (["_law_word", "_law_points"] : List Str).Nodup by decide +kernel) rfl (Or.inl rfl) (Or.inr rfl)) pgs_nil)))) (fun _ _ _ _ => pts_nil) (fun _ _ _ _ => (pe_callB (call_lenK (K := K) rfl) rfl m_len PySem.boot_len (pa_cons (pv 1) pa_nil))) rfl rfl (fun _ => rfl)) pa_nil)) (pe_callB (call_lenK (K := K) rfl) rfl m_len PySem.boot_len (pa_cons (pe_ix (ix_tupK (K := K) rfl) (pe_ix (ix_listK (K := K) rfl) (pv 1) (pv 3) (fun _ _ => rfl)) pe_int (fun _ _ => rfl)) pa_nil))) pe_int (nomark _))))) (pss_one (ps_ret (pe_op (op_catLK (K := K) rfl) (pv 1) (pe_lst (pa_cons (pe_ix (ix_listK (K := K) rfl) (pv 1) (pv 3) (fun _ _ => rfl)) pa_nil))))) pss_nil) (pss_cons (ps_if (pt_cmpR op_lt (pv 2) pe_int (nomark _)) (pss_one (ps_ret (pe_callI G__law_moved hr rfl (pa_cons (pv 1) (pa_cons (pv 3) (pa_cons (pv 4) (pa_cons (pv 8) pa_nil))))))) pss_nil) (pss_cons (ps_set (i := 9) sc_law_spoilt.nd rfl (Or.inl rfl) (pe_op op_mod (pe_op op_sub (pv 4) pe_int) (pe_callB (call_lenK (K := K) rfl) rfl m_len PySem.boot_len (pa_cons (pe_ix (ix_tupK (K := K) rfl) (pe_ix (ix_listK (K := K) rfl) (pv 1) (pv 3) (fun _ _ => rfl)) pe_int (fun _ _ => rfl)) pa_nil)))) (pss_one (ps_ret (pe_callI G__law_moved hr rfl (pa_cons (pe_callI G__law_moved hr rfl (pa_cons (pv 1) (pa_cons (pv 3) (pa_cons (pv 4) (pa_cons (pe_ix (ix_tupK (K := K) rfl) (pe_ix (ix_tupK (K := K) rfl) (pe_ix (ix_listK (K := K) rfl) (pv 1) (pv 3) (fun _ _ => rfl)) pe_int (fun _ _ => rfl)) (pe_op op_sub (pv 4) pe_int) (fun _ _ => rfl)) pa_nil))))) (pa_cons (pv 3) (pa_cons (pv 9) (pa_cons (pv 8) pa_nil))))))))))))))))))))), ?_⟩
  rintro f xs w hl ⟨rfl, hw⟩
  try dsimp only [cxOf, cxComp]
  try dsimp only at *
  have w1 := hw.one
  have w9 := hw.len
  have hw' : FarWeb 10 1000000000002 w := hw.mono (by decide) (by decide)
  have lm : (w.map lnD).length = w.length := List.length_map _
  refine s_seq (s_asg (d_call 8 ?_))
  repeat walk_at "dl"
  rintro _ ⟨way, rfl, y0, y1⟩
  refine g_name (s_seq (s_asg (d_call ((w.map lnD).length : Int) ?_)))
  repeat walk_at "dl"
  rintro _ ⟨kk, rfl, k0, k1⟩
  have hk : kk.toNat < w.length := by omega
  obtain ⟨kn, rfl⟩ : ∃ kn : Nat, kk = (kn : Int) := ⟨kk.toNat, by omega⟩
  rw [Int.toNat_natCast] at hk
  have hat := at_ln (w := w) (k := (kn : Int)) (by omega) (by omega)
  rw [Int.toNat_natCast] at hat
  have hm := ln_mem hk
  have l2 := hw.two _ hm
  have l28 := hw.few _ hm
  have lf := hw.far _ hm
  have lml : ((lnAt w kn).2.map ptD).length = (lnAt w kn).2.length := List.length_map _
  refine g_name (s_seq (s_asg (d_call (((lnAt w kn).2.map ptD).length : Int) ?_)))
  repeat walk_at "dl"
  refine ⟨_, hat, _, rfl, ?_⟩
  repeat walk_at "dl"
  rintro _ ⟨aa, rfl, a0, a1⟩
  obtain ⟨an, rfl⟩ : ∃ an : Nat, aa = (an : Int) := ⟨aa.toNat, by omega⟩
  have han : an < (lnAt w kn).2.length := by omega
  refine g_name (s_seq (s_asg ?_))
  repeat walk_at "dl"
  refine d_call ((w.map lnD).length : Int) ?_
  repeat walk_at "dl"
  rintro _ ⟨rr, rfl, r0, r1⟩
  have hat2 := at_ln (w := w) (k := rr) (by omega) (by omega)
  have hm2 := ln_mem (w := w) (k := rr.toNat) (by omega)
  have m2 := hw.two _ hm2
  have m28 := hw.few _ hm2
  have mf := hw.far _ hm2
  refine ⟨_, rfl, _, hat2, _, rfl, ?_⟩
  generalize lnAt w rr.toNat = rl at hat2 hm2 m2 m28 mf
  have mml : (rl.2.map ptD).length = rl.2.length := List.length_map _
  repeat walk_at "dl"
  refine d_call ((rl.2.map ptD).length : Int) ?_
  repeat walk_at "dl"
  rintro _ ⟨u1, rfl, u10, u11⟩
  obtain ⟨one, hone, eone⟩ := at_pt (ps := rl.2) (q := u1) (by omega) (by omega)
  refine ⟨_, rfl, _, eone, ?_⟩
  repeat walk_at "dl"
  refine d_call ((rl.2.map ptD).length : Int) ?_
  repeat walk_at "dl"
  rintro _ ⟨u2, rfl, u20, u21⟩
  obtain ⟨oth, hoth, eoth⟩ := at_pt (ps := rl.2) (q := u2) (by omega) (by omega)
  refine ⟨_, rfl, _, eoth, ?_⟩
  have fone := mf one hone
  have foth := mf oth hoth
  obtain ⟨o1, o2, o3, o4⟩ := mf one hone
  obtain ⟨v1, v2, v3, v4⟩ := mf oth hoth
  have mv : ∀ p : Pt, Far 1000000000002 p → FarWeb 10 1000000000002 (movedW w kn an p) := fun p hp => movedW_far hw' hk han hp
  repeat walk_at "dl"
  refine ite_b (fun h => ?_) fun h => ?_
  · repeat walk_at "dl"
    exact hw'
  repeat walk_at "dl"
  refine ite_b (fun h => ?_) fun h => ?_
  · refine s_ret (d_call (w, kn, an, one) ?_)
    repeat walk_at "dl"
    refine ⟨⟨rfl, by dsimp only; omega, hk, han, l28⟩, ?_⟩
    rintro _ rfl
    exact ⟨_, rfl, mv _ (fone.mono (by decide))⟩
  repeat walk_at "dl"
  refine ite_b (fun h => ?_) fun h => ?_
  · obtain ⟨p3, hp3, ep3⟩ := at_pt (ps := (lnAt w kn).2) (q := (an : Int) - 1) (by omega) (by omega)
    refine s_ret (d_call (w, kn, an, p3) ?_)
    repeat walk_at "dl"
    refine ⟨_, hat, _, rfl, ?_⟩
    repeat walk_at "dl"
    refine ⟨_, ep3, ?_⟩
    repeat walk_at "dl"
    refine ⟨⟨rfl, by dsimp only; omega, hk, han, l28⟩, ?_⟩
    rintro _ rfl
    exact ⟨_, rfl, mv _ ((lf p3 hp3).mono (by decide))⟩
  repeat walk_at "dl"
  refine ite_b (fun h => ?_) fun h => ?_
  · refine s_ret (d_call (w, kn, an, ((one.1 + oth.1) / 2, (one.2 + oth.2) / 2)) ?_)
    unfold ptD
    repeat walk_at "dl"
    refine ⟨⟨rfl, by dsimp only; omega, hk, han, l28⟩, ?_⟩
    rintro _ rfl
    exact ⟨_, rfl, mv _ ⟨by dsimp only; omega, by dsimp only; omega, by dsimp only; omega, by dsimp only; omega⟩⟩
  repeat walk_at "dl"
  refine d_call 5 ?_
  repeat walk_at "dl"
  rintro _ ⟨z1, rfl, z10, z11⟩
  repeat walk_at "dl"
  refine d_call 5 ?_
  repeat walk_at "dl"
  rintro _ ⟨z2, rfl, z20, z21⟩
  refine ⟨_, rfl, _, rfl, d_int ⟨_, rfl, a_nil ⟨_, rfl, by simp, ?_⟩⟩⟩
  have fpt : Far 1000000000002 (one.1 + z1 - 2, oth.2 + z2 - 2) := ⟨by dsimp only; omega, by dsimp only; omega, by dsimp only; omega, by dsimp only; omega⟩
  refine g_name (s_seq (s_any ?_ ?_ ?_))
  · repeat walk_at "dl"
    refine ite_b (fun _ => ?_) fun _ => trivial
    refine t_test (d_opB (d_opI (d_sum (PEdO.ped (c_map (A := lnD) (B := fun l : Ln => PyData.int (l.2.length : Int)) w (i_list (d_var rfl ⟨_, rfl, rfl, by omega, ?_, ?_⟩)))))))
    · rintro D2 l ρ2 es2 hl ho2 hes2
      obtain ⟨u, v, rfl⟩ := ho2.two
      unfold lnD
      refine g_tup rfl (gs_cons (g_name (gs_cons (g_name (gs_nil (t_yes ?_))))))
      rw [if_pos rfl]
      refine b_emit hes2 ?_
      repeat walk_at "dl"
      rw [List.length_map]
      exact ⟨.mk2, rfl⟩
    · refine ⟨w.map fun l => (l.2.length : Int), by rw [List.map_map]; rfl, ?_⟩
      repeat walk_at "dl"
      refine ⟨_, hat, _, rfl, ?_⟩
      repeat walk_at "dl"
      trivial
  · refine s_ret (d_catL (d_var rfl ⟨_, rfl, d_lst ?_⟩))
    repeat walk_at "dl"
    refine ⟨_, hat, ?_⟩
    repeat walk_at "dl"
    refine ⟨by rw [lm]; show w.length + 1 ≤ 1000; omega, w ++ [lnAt w kn], by rw [List.map_append]; rfl, ?_⟩
    have key : ∀ l ∈ w ++ [lnAt w kn], l ∈ w := fun l hl => by
      rcases List.mem_append.mp hl with hl | hl
      · exact hl
      · rw [List.mem_singleton.mp hl]; exact hm
    exact ⟨by rw [List.length_append]; omega, by rw [List.length_append]; show w.length + 1 ≤ 10; omega, fun l hl => hw'.two l (key l hl), fun l hl => hw'.few l (key l hl), fun l hl => hw'.far l (key l hl)⟩
  · refine s_nil (s_seq (s_any ?_ ?_ ?_))
    · repeat walk_at "dl"
      trivial
    · refine s_ret (d_call (w, kn, an, (one.1 + z1 - 2, oth.2 + z2 - 2)) ?_)
      repeat walk_at "dl"
      refine ⟨⟨rfl, by dsimp only; omega, hk, han, l28⟩, ?_⟩
      rintro _ rfl
      exact ⟨_, rfl, mv _ fpt⟩
    · refine s_nil (s_seq (s_asg ?_))
      repeat walk_at "dl"
      refine ⟨_, hat, _, rfl, ?_⟩
      repeat walk_at "dl"
      have e0 := Int.emod_nonneg ((an : Int) - 1) (b := (((lnAt w kn).2.map ptD).length : Int)) (by omega)
      have e1 := Int.emod_lt_of_pos ((an : Int) - 1) (b := (((lnAt w kn).2.map ptD).length : Int)) (by omega)
      obtain ⟨bn, hbn⟩ : ∃ bn : Nat, ((an : Int) - 1) % (((lnAt w kn).2.map ptD).length : Int) = (bn : Int) := ⟨_, (Int.toNat_of_nonneg e0).symm⟩
      rw [hbn] at e0 e1 ⊢
      obtain ⟨p4, hp4, ep4⟩ := at_pt (ps := (lnAt w kn).2) (q := (an : Int) - 2) (by omega) (by omega)
      have fw := mv p4 ((lf p4 hp4).mono (by decide))
      have hk2 : kn < (movedW w kn an p4).length := by rw [movedW_len hk]; exact hk
      have hl2 : (lnAt (movedW w kn an p4) kn).2.length = (lnAt w kn).2.length := by rw [movedW_at hk, movedL_len han]
      have hbl : bn < (lnAt w kn).2.length := by omega
      have hbl2 : bn < (lnAt (movedW w kn an p4) kn).2.length := by rw [hl2]; exact hbl
      refine d_call (movedW w kn an p4, kn, bn, (one.1 + z1 - 2, oth.2 + z2 - 2)) (a_cons (d_call (w, kn, an, p4) ?_))
      repeat walk_at "dl"
      refine ⟨_, hat, _, rfl, ?_⟩
      repeat walk_at "dl"
      refine ⟨_, ep4, ?_⟩
      repeat walk_at "dl"
      refine ⟨⟨rfl, by dsimp only; omega, hk, han, l28⟩, ?_⟩
      rintro _ rfl
      repeat walk_at "dl"
      refine ⟨⟨rfl, by dsimp only; rw [movedW_len hk]; omega, hk2, hbl2, by dsimp only; rw [hl2]; omega⟩, ?_⟩
      rintro _ rfl
      exact ⟨_, rfl, movedW_far fw hk2 hbl2 fpt⟩
end
end My
end
section
set_option Elab.async false
set_option linter.all false
set_option maxRecDepth 100000
set_option maxHeartbeats 4000000
namespace L2
open PySem PySem.Spec PyProof.Rows
section
variable {K : PySem.W.Frag} {f : Fx} {ρ : DEnv} {P : PyData → Prop} {te ta tb : TE} {t : TA}
def noneD : PyData → Bool
  | .none => true
  | _ => false
theorem d_isNot (h : PEd K f ta ρ fun d => (d = .none ∨ ∃ ds, d = .tuple ds) ∧ P (.bool (!noneD d))) : PEd K f (tOp (fun x y H Q => y = .non ∧ Q (.bl (!decide (x = .non))) H) ta (tC .non)) ρ P := fun σ H Q e q =>
  h σ H _ e fun d v H1 g1 r1 ⟨hd, p⟩ => by
    refine ⟨rfl, ?_⟩
    rcases hd with rfl | ⟨ds, rfl⟩
    · rw [rep_none.mp r1]
      exact q _ _ H1 g1 (rep_bool.mpr rfl) p
    · obtain ⟨a, xs, rfl, _⟩ := rep_tuple.mp r1
      exact q _ _ H1 g1 (rep_bool.mpr rfl) p
theorem d_callE {γ : Type} {n : Nat} {pre : γ → List DV → Prop} {post : γ → PyData → Prop} {E : XK} (h : PAd K f t ρ fun xs => ∃ c : γ, xs.length = n ∧ pre c xs ∧ ∀ r, post c r → P r) : PEd K f (tCall (spD K n pre post) [] E t) ρ P := fun σ H Q e q =>
  h σ H _ e fun xs vs H1 g1 r1 ⟨c, hl, hp, k⟩ => by
    refine ⟨f, xs, c, by rw [List.append_nil]; exact r1, hl, g1.2, hp, fun r v H' g' r' p' => q r v H' (g1.trans g') r' (k r p')⟩
end
end L2
namespace My
open PySem PySem.Spec PyProof.Rows L2
local macro_rules | `(tactic| walk_at "dl") => `(tactic| first
  | (with_reducible show PSd _ _ (tAsg _ (gSub (tVar _) (tC (V.int 0)) rSetL)) _ _; refine s_feed0 rfl ?_)
  | (with_reducible show PSd _ _ (tAsg _ (gSub (tVar _) (tC (V.int 1)) rSetL)) _ _; refine s_feed1 rfl ?_)
  | with_reducible refine s_seq ?_ | with_reducible refine s_if ?_ | with_reducible refine s_ret ?_ | with_reducible refine s_asg ?_ | with_reducible refine s_drop ?_ | with_reducible refine s_nil ?_
  | with_reducible refine g_name ?_ | with_reducible refine g_tup rfl ?_ | with_reducible refine gs_cons ?_ | with_reducible refine gs_nil ?_
  | with_reducible refine t_test ?_ | with_reducible refine t_b ?_ | with_reducible refine t_and ?_ | with_reducible refine t_or ?_ | with_reducible refine t_not ?_ | with_reducible refine t_tru ?_
  | with_reducible refine d_chain ?_ | with_reducible refine d_opB ?_ | with_reducible refine d_opI ?_ | with_reducible refine d_opIC ?_ | with_reducible refine d_eqD ?_
  | with_reducible refine d_if ?_ | with_reducible refine d_andV ?_ | with_reducible refine d_orV ?_ | with_reducible refine d_notV ?_
  | with_reducible refine d_int ?_ | with_reducible refine d_bl ?_ | with_reducible refine d_str ?_ | with_reducible refine d_non ?_
  | (with_reducible show PEd _ _ (tVar _) _ _; refine d_var rfl ?_)
  | (with_reducible show PEd _ _ (tOp (rIxL _) (tVar _) _) _ _; refine d_ixF rfl ?_)
  | with_reducible refine d_ixL ?_ | with_reducible refine d_ixT ?_
  | (with_reducible show PAd _ _ (tCons (tVar _) _) _ _; refine a_feed rfl ?_)
  | with_reducible refine a_cons ?_ | with_reducible refine a_nil ?_
  | with_reducible refine d_catT ?_ | with_reducible refine d_cut ?_ | with_reducible refine po_no ?_ | with_reducible refine po_at ?_ | with_reducible refine d_int1 ?_ | with_reducible refine d_tupof ?_ | with_reducible refine t_yes ?_
  | with_reducible refine d_tup ?_ | with_reducible refine d_lst ?_ | with_reducible refine d_len ?_ | with_reducible refine d_minL ?_ | with_reducible refine d_maxL ?_ | with_reducible refine d_cbI2 ?_ | with_reducible refine d_cbI1 ?_
  | (with_reducible show (∃ _, _) ∨ (∃ _, _); first | refine Or.inl ⟨_, rfl, ?_⟩ | refine Or.inr ⟨_, rfl, ?_⟩) | refine ⟨_, rfl, ?_⟩ | refine ⟨_, _, rfl, ?_⟩
  | (with_reducible show (_ = _ ∧ ∀ _, _) ∨ _; first | refine Or.inl ⟨rfl, fun a ha => ?_⟩ | refine Or.inr ⟨rfl, fun b hb hb' => ?_⟩)
  | (with_reducible show PyData.canLay0 _ = true ∧ _; refine And.intro (by first | rfl | assumption | decide +kernel) ?_)
  | (with_reducible show min _ _ ≤ 60 ∧ _; refine And.intro (by first | assumption | (simp [PyData.depth, PyData.depthAll]; done)) ?_)
  | refine ⟨rfl, ?_⟩
  | (refine And.intro ?side ?_; (case side => first | omega | exact Int.ediv_nonneg (by omega) (by omega) | exact Int.emod_nonneg _ (by omega) | exact Int.emod_lt_of_pos _ (by omega) | decide | exact ⟨by decide, by decide, by decide⟩ | exact ⟨by omega, by omega⟩ | exact Or.inl ⟨by omega, by omega⟩ | exact Or.inr ⟨by omega, by omega⟩ | (refine Nat.le_trans (Nat.le_of_eq (by rfl)) (show _ ≤ 1000 by decide)) | ((repeat' apply And.intro) <;> first | rfl | omega | decide | assumption) | (simp [PyData.depth]))))
def spLaw (K : PySem.W.Frag) : Sp := fun vs H Q _ => ∃ (a : Addr) (ns : List Int), vs = [.ref a] ∧ SqL K H a (ns.map V.int) ∧ ns.length ≤ 63 ∧ ∀ H', Q (.bl true) H'
theorem pad_imp {K : PySem.W.Frag} {f : Fx} {t : TA} {ρ : DEnv} {R R' : List DV → Prop} (h : PAd K f t ρ R) (i : ∀ xs, R xs → R' xs) : PAd K f t ρ R' := fun σ H Q e q => h σ H Q e fun xs vs H' g r p => q xs vs H' g r (i xs p)
theorem e_feed {K : PySem.W.Frag} {ρ : DEnv} {ns : List Int} {i : Int} {E2 : XK} (h0 : ρ[0]? = some (some (.dat (scr ns)))) (h1 : ρ[1]? = some (some (.dat (.int i)))) (hl : ns.length ≤ 63) (i0 : 0 ≤ i) (i1 : i ≤ 63) :
    ∀ (σ : L2.St) (H : Hp) (Q : VK), EnvOk K L2.f0 ρ σ H → (∀ (p : Addr) (x y : Int) (H' : Hp), Same H H' → H p = none → H' p = some (.lst [.int x, .int y]) → 0 ≤ x → 0 ≤ y → y < 2147483647 → Q (.ref p) H') → tCall (spFeed K) [] E2 (tCons (tVar 0) (tCons (tVar 1) tNil)) σ H Q := by
  intro σ H Q e q
  obtain ⟨v0, hv0, r0⟩ := e.get 0 _ h0
  obtain ⟨v1, hv1, r1⟩ := e.get 1 _ h1
  obtain ⟨a, rfl, hS⟩ := rep_scr r0
  have e1 : v1 = .int i := rep_int.mp (show Rep K (hide H L2.f0) (.int i) v1 from r1)
  subst e1
  exact ⟨_, hv0, _, hv1, a, ns, i, rfl, hS, hl, i0, i1, q⟩
theorem meet_lay (x : Option (Sg × Sg)) : (meetD x).canLay0 = true := by
  cases x with
  | none => rfl
  | some x => rfl
theorem meet_dep (x y : Option (Sg × Sg)) : min (meetD x).depth (meetD y).depth ≤ 60 := by
  refine Nat.le_trans (Nat.min_le_left _ _) ?_
  cases x with
  | none => simp [meetD, PyData.depth]
  | some x => simp [meetD, PyData.depth, PyData.depthAll]
theorem dep_all {α : Type} {F : α → PyData} {n : Nat} (h : ∀ x, (F x).depth ≤ n) : ∀ xs : List α, PyData.depthAll (xs.map F) ≤ n
  | [] => by simp [PyData.depthAll]
  | x :: xs => by
    have h1 := h x
    have h2 := dep_all h xs
    show max (F x).depth (PyData.depthAll (xs.map F)) ≤ n
    omega
theorem dep_ln (l : Ln) : (lnD l).depth ≤ 10 := by
  have h : PyData.depthAll (l.2.map ptD) ≤ 5 := dep_all (fun p => by simp [ptD, PyData.depth, PyData.depthAll]) l.2
  simp [lnD, PyData.depth, PyData.depthAll]
  omega
theorem dep_web (w : Web) : min (PyData.list (w.map lnD)).depth (PyData.list (w.map lnD)).depth ≤ 60 := by
  have h : PyData.depthAll (w.map lnD) ≤ 10 := dep_all dep_ln w
  simp [PyData.depth]
  omega
theorem far_ok {n : Nat} {w : Web} (h : FarWeb n 1000000000002 w) (hn : n ≤ 20) : OkWeb (-1000000000002, -1000000000002) w := by
  refine ⟨Nat.le_trans h.len hn, h.two, fun l hl => Nat.le_trans (h.few l hl) (by decide), fun l hl p hp => ?_⟩
  obtain ⟨a, b, c, d⟩ := h.far l hl p hp
  exact ⟨by dsimp only; omega, by dsimp only; omega, by dsimp only; omega, by dsimp only; omega⟩
section
variable {P : Program} {w : World} {K : PySem.W.Frag} {mg : Str → Option Value} {base : Heap} {k : Nat}
theorem ok_law {f : Addr} {fd : FuncData} (F : Fun K "law" "law" s_law f fd) (m_len : mg "len" = none) (m_range : mg "range" = none) (m_max : mg "max" = none) (m_min : mg "min" = none) (m_tuple : mg "tuple" = none) (m_list : mg "list" = none) (m_int : mg "int" = none) (m_any : mg "any" = none) (m_bool : mg "bool" = none) (m_isinstance : mg "isinstance" = none)
    (kT : PySem.W.kitOne K (.type "tuple") (.type "tuple") = some true) (kB : PySem.W.kitOne K (.type "int") (.type "bool") = some false)
    (G__law_feed : FnIn P w K mg base k "_law_feed" ["_law_script", "_law_k"] (spFeed K)) (G__law_clean : FnIn P w K mg base k "_law_clean" ["_law_feed_here", "_law_most"] (spClean K)) (G__law_spoilt : FnIn P w K mg base k "_law_spoilt" ["_law_feed_here", "_law_web"] (spSpoilt K)) (G__law_draw : FnIn P w K mg base k "_law_draw" ["_law_feed_here", "_law_many"] (spDraw K))
    (G__law_meeting : FnIn P w K mg base k "_law_meeting" ["_law_web"] (spLmeeting K)) (G_meeting : FnIn P w K mg base k "meeting" ["web"] (spMeeting K)) :
    FnOk P w K mg base CX0 (k + 1) f fd ["_law_script"] (spLaw K) := by
  refine F.ok sc_law (fun vs H Q E h => ?_) fun cdv A outer s H vs Q E hr hs => ⟨_, (pss_cons (ps_for PassesOwn.never rfl (pi_range1 rfl m_range (pa_cons (pe_callB (call_max2 rfl) rfl m_max boot_max (pa_cons pe_int (pa_cons (pe_callB (call_min2 rfl) rfl m_min boot_min (pa_cons pe_int (pa_cons (pe_callB (call_lenK (K := K) rfl) rfl m_len PySem.boot_len (pa_cons (pv 0) pa_nil)) pa_nil))) pa_nil))) pa_nil)) (pg_name (i := 1) sc_law.nd rfl (Or.inl rfl) (Or.inr rfl)) (pss_cons (ps_set (i := 2) sc_law.nd rfl (Or.inl rfl) (pe_callI G__law_feed hr rfl (pa_cons (pv 0) (pa_cons (pv 1) pa_nil)))) (pss_cons (ps_set (i := 3) sc_law.nd rfl (Or.inl rfl) (pe_ix (ix_listK (K := K) rfl) (pe_lst (pa_cons pe_int (pa_cons pe_int (pa_cons pe_int (pa_cons (pe_ix (ix_listK (K := K) rfl) (pe_lst (pa_cons pe_int (pa_cons pe_int pa_nil))) (pe_callTy call_int1 rfl m_int PyProof.Rows.boot_int (pa_cons (pe_cmpR (op_eqK (K := K) rfl hr.units) (pv 1) pe_int (nomark _)) pa_nil)) (fun _ _ => rfl)) pa_nil))))) (pe_callI G__law_draw hr rfl (pa_cons (pv 2) (pa_cons pe_int pa_nil))) (fun _ _ => rfl))) (pss_cons (ps_set (i := 4) sc_law.nd rfl (Or.inl rfl) (pe_callI G__law_spoilt hr rfl (pa_cons (pv 2) (pa_cons (pe_callI G__law_clean hr rfl (pa_cons (pv 2) (pa_cons (pv 3) pa_nil))) pa_nil)))) (pss_cons (ps_set (i := 5) sc_law.nd rfl (Or.inl rfl) (pe_callTy (call_listK (K := K) rfl) rfl m_list PyProof.Rows.boot_list (pa_cons (pv 4) pa_nil))) (pss_cons (ps_set (i := 6) sc_law.nd rfl (Or.inl rfl) (pe_callI G__law_meeting hr rfl (pa_cons (pv 5) pa_nil))) (pss_one (ps_for PassesOwn.never rfl (pi_range1 rfl m_range (pa_cons pe_int pa_nil)) (pg_name (i := 7) sc_law.nd rfl (Or.inl rfl) (Or.inr rfl)) (pss_cons (ps_set (i := 8) sc_law.nd rfl (Or.inl rfl) (pe_callI G_meeting hr rfl (pa_cons (pv 4) pa_nil))) (pss_cons (ps_if (PW.pt (pw_or (pt_cmpR (op_neK (K := K) rfl hr.units) (pv 8) (pv 6) (nomark _)) (pw_or1 (pt_cmpR (op_neK (K := K) rfl hr.units) (pv 4) (pv 5) (nomark _))))) (pss_one (ps_ret pe_bl)) pss_nil) (pss_cons (ps_if (PW.pt (pw_and (pt_cmpR op_notN (pv 6) pe_non (nomark _)) (pw_and1 (pt_not (pt_truK (K := K) rfl (pe_callB (call_isiK (K := K) rfl) rfl m_isinstance boot_isinstance (pa_cons (pv 8) (pa_cons (pe_bltn (v := .ty "tuple") rfl m_tuple PyProof.Rows.boot_tuple rfl) pa_nil))) (fun _ => rfl)))))) (pss_one (ps_ret pe_bl)) pss_nil) (pss_one (ps_if (PW.pt (pw_and (pt_cmpR op_notN (pv 6) pe_non (nomark _)) (pw_and1 (pt_truK (K := K) rfl (pe_callB (call_anyK (K := K) rfl rfl) rfl m_any PyProof.Rows.boot_any (pa_cons (pe_comp1 (N := ["_law_one"]) (own := 1) (fr := []) ⟨rfl, by decide +kernel, of_decide_eq_true (by kernel_rfl), of_decide_eq_true (by kernel_rfl), of_decide_eq_true (by kernel_rfl), rfl⟩ rfl (pi_tupK (K := K) rfl (pv 8)) (fun _ _ _ _ => (pg_name (i := 0) (show (["_law_one"] : List Str).Nodup by decide +kernel) rfl (Or.inl rfl) (Or.inr rfl))) (fun _ _ _ _ => pts_nil) (fun _ _ _ _ => (pe_callB (call_isiK (K := K) rfl) rfl m_isinstance boot_isinstance (pa_cons (pv 0) (pa_cons (pe_bltn (v := .ty "bool") rfl m_bool PyProof.Rows.boot_bool rfl) pa_nil)))) rfl rfl (fun _ => rfl)) pa_nil)) (fun _ => rfl))))) (pss_one (ps_ret pe_bl)) pss_nil))))))))))))) (pss_one (ps_ret pe_bl))), ?_⟩
  · obtain ⟨a, ns, rfl, _⟩ := h
    rfl
  obtain ⟨a, ns, rfl, hS, h63, q⟩ := hs
  have e0 : EnvOk K L2.f0 (startV N_law [.dat (scr ns)]) (start N_law [.ref a]) H := startV_ok (.cons (scr_rep hS) .nil) (L2.fok0 H)
  suffices h : PSd K L2.f0 _ (startV N_law [.dat (scr ns)]) { nx := fun _ => False, rt := fun d => d = .bool true } from
    h _ H _ e0 (fun _ _ _ _ _ z => z.elim) (fun d v H' _ r z => by
      subst z
      rw [rep_bool.mp r]
      exact q H') (fun _ _ _ _ _ z => z) (fun _ _ _ _ _ z => z)
  refine s_seq (s_for (i_range (pad_imp (R := fun xs => ∃ j : Int, xs = [.dat (.int j)] ∧ 0 ≤ j ∧ j ≤ 63) ?_ ?_)))
  · repeat walk_at "dl"
    rw [List.length_map]
    split <;> split <;> omega
  rintro _ ⟨j, rfl, j0, j1⟩
  refine ⟨j, rfl, by omega, by omega, fun i ρ => ∃ x1 x2 x3 x4 x5 x6 x7 x8, ρ = [some (.dat (scr ns)), x1, x2, x3, x4, x5, x6, x7, x8], ⟨_, _, _, _, _, _, _, _, rfl⟩, ?_, ?_⟩
  · rintro i d _ hi ⟨x1, x2, x3, x4, x5, x6, x7, x8, rfl⟩
    obtain ⟨hi, rfl⟩ := range_at hi
    refine g_name (s_feed (e_feed rfl rfl h63 (by omega) (by omega)) fun p => ?_)
    refine s_seq (s_asg ?_)
    repeat walk_at "dl"
    have hv : ∀ b : Bool, ∃ v : Int, atI [PyData.int 30, PyData.int 60] (if b = true then 1 else 0) = some (.int v) := fun b => by
      cases b with
      | true => exact ⟨60, rfl⟩
      | false => exact ⟨30, rfl⟩
    refine ⟨_, (hv _).choose_spec, ?_⟩
    generalize (hv _).choose = v
    repeat walk_at "dl"
    refine d_call 4 ?_
    repeat walk_at "dl"
    rintro _ ⟨q, rfl, q0, q1⟩
    have hq : ∃ m : Int, atI [PyData.int 24, PyData.int 24, PyData.int 30, PyData.int v] q = some (.int m) := by
      have : q = 0 ∨ q = 1 ∨ q = 2 ∨ q = 3 := by omega
      rcases this with rfl | rfl | rfl | rfl <;> exact ⟨_, rfl⟩
    obtain ⟨m, hq⟩ := hq
    refine ⟨_, rfl, _, hq, ?_⟩
    refine g_name (s_seq (s_asg (d_callE (a_feed rfl (a_cons (d_call m ?_))))))
    repeat walk_at "dl"
    rintro _ ⟨w0, rfl, hw0⟩
    refine a_nil ⟨w0, rfl, ⟨rfl, hw0⟩, ?_⟩
    rintro _ ⟨w, rfl, hw⟩
    have okw := far_ok hw (by decide)
    refine g_name (s_seq (s_asg (d_listof ?_)))
    repeat walk_at "dl"
    refine d_call ((-1000000000002, -1000000000002), w) ?_
    repeat walk_at "dl"
    rintro _ rfl
    dsimp only
    refine g_name (s_for (i_range ?_))
    repeat walk_at "dl"
    refine ⟨fun n ρ => ∃ x7 x8, ρ = [some (.dat (scr ns)), some (.dat (.int i)), some .feed, some (.dat (.int m)), some (.dat (.list (w.map lnD))), some (.dat (.list (w.map lnD))), some (.dat (meetD (meetF w))), x7, x8], ⟨_, _, rfl⟩, ?_, ?_⟩
    · rintro n d _ hd ⟨x7, x8, rfl⟩
      have ml := meet_lay (meetF w)
      have md := meet_dep (meetF w) (meetF w)
      have lw := lay_web w
      have dw := dep_web w
      refine g_name (s_seq (s_asg (d_call ((-1000000000002, -1000000000002), w) ?_)))
      repeat walk_at "dl"
      rintro _ rfl
      dsimp only
      repeat walk_at "dl"
      rw [if_pos rfl, SeqAt.eqv_refl _ ml, Bool.not_true, if_neg Bool.false_ne_true]
      repeat walk_at "dl"
      rw [if_pos rfl, SeqAt.eqv_refl _ lw, Bool.not_true, if_neg Bool.false_ne_true]
      repeat walk_at "dl"
      generalize meetF w = mf
      cases mf with
      | none =>
        refine d_isNot (d_var rfl ⟨.inl rfl, ?_⟩)
        repeat walk_at "dl"
        refine ite_b (fun h => absurd h (by decide)) fun _ => ?_
        (try rw [if_neg Bool.false_ne_true])
        repeat walk_at "dl"
        refine d_isNot (d_var rfl ⟨.inl rfl, ?_⟩)
        repeat walk_at "dl"
        refine ite_b (fun h => absurd h (by decide)) fun _ => ?_
        (try rw [if_neg Bool.false_ne_true])
        repeat walk_at "dl"
        exact ⟨_, _, rfl⟩
      | some st =>
        obtain ⟨sa, sb⟩ := st
        refine d_isNot (d_var rfl ⟨.inr ⟨_, rfl⟩, ?_⟩)
        repeat walk_at "dl"
        refine ite_b (fun _ => ?_) fun h => absurd h (fun z => Bool.noConfusion z)
        repeat walk_at "dl"
        refine d_isT kT ?_
        repeat walk_at "dl"
        rw [Bool.not_true, if_neg Bool.false_ne_true]
        repeat walk_at "dl"
        refine d_isNot (d_var rfl ⟨.inr ⟨_, rfl⟩, ?_⟩)
        repeat walk_at "dl"
        refine ite_b (fun _ => ?_) fun h => absurd h (fun z => Bool.noConfusion z)
        refine t_tru (d_any (PEdO.ped (c_map (A := fun n : Int => PyData.int n) (B := fun _ : Int => PyData.bool false) [(sa.k : Int), (sa.i : Int), (sb.k : Int), (sb.i : Int)] (i_tup (d_var rfl ⟨_, rfl, rfl, by show 4 ≤ 1000; decide, ?_, ?_⟩)))))
        · rintro D2 n2 ρ2 es2 hn2 ho2 hes2
          obtain ⟨u, rfl⟩ := ho2.one
          refine g_name (t_yes ?_)
          rw [if_pos rfl]
          refine b_emit hes2 (d_isI kB ?_)
          repeat walk_at "dl"
          exact ⟨.mk1, rfl⟩
        · refine ⟨[false, false, false, false], rfl, false, rfl, ?_⟩
          rw [if_neg Bool.false_ne_true]
          exact s_nil ⟨_, _, rfl⟩
    · rintro _ ⟨x7, x8, rfl⟩
      exact ⟨_, _, _, _, _, _, _, _, rfl⟩
  · rintro _ ⟨x1, x2, x3, x4, x5, x6, x7, x8, rfl⟩
    repeat walk_at "dl"
    rfl
end
end My
end
section
set_option Elab.async false
set_option linter.all false
set_option maxRecDepth 100000
set_option maxHeartbeats 4000000
namespace My
open PySem PySem.Spec PyProof.Rows L2
theorem all_mk {l : PySem.W.OpenLaw} {w : World} {K : PySem.W.Frag} {h : Heap} {mg : Str → Option Value} {fa : Addr} (X : K.In h) (G : h.Ns mainGlobals mg) (hfa : mg "law" = some (.ref fa))
    {f1 : Addr} {od1 an1 : Option Addr} {sl1 : Array (Option Value)} {oc1 kV1 dc1 pm1 cd1 ct1 : Value}
    (a1 : PySem.W.nsIn K mainGlobals "meeting" = some (some (.ref f1))) (l1 : K.lookup f1 = some ⟨oc1, od1, .func (PySem.W.fnOf "meeting" "meeting" (defArgs s_meeting) (defBody s_meeting) (defScope s_meeting) .none kV1 dc1 pm1 an1 cd1 ct1), sl1⟩) (c1 : PySem.W.codeIn K cd1 "meeting" = true) (k1 : PySem.W.keepIn K (.ref f1) = true)
    {f2 : Addr} {od2 an2 : Option Addr} {sl2 : Array (Option Value)} {oc2 kV2 dc2 pm2 cd2 ct2 : Value}
    (a2 : PySem.W.nsIn K mainGlobals "segments" = some (some (.ref f2))) (l2 : K.lookup f2 = some ⟨oc2, od2, .func (PySem.W.fnOf "segments" "segments" (defArgs s_segments) (defBody s_segments) (defScope s_segments) .none kV2 dc2 pm2 an2 cd2 ct2), sl2⟩) (c2 : PySem.W.codeIn K cd2 "segments" = true) (k2 : PySem.W.keepIn K (.ref f2) = true)
    {f3 : Addr} {od3 an3 : Option Addr} {sl3 : Array (Option Value)} {oc3 kV3 dc3 pm3 cd3 ct3 : Value}
    (a3 : PySem.W.nsIn K mainGlobals "many_segments" = some (some (.ref f3))) (l3 : K.lookup f3 = some ⟨oc3, od3, .func (PySem.W.fnOf "many_segments" "many_segments" (defArgs s_many_segments) (defBody s_many_segments) (defScope s_many_segments) .none kV3 dc3 pm3 an3 cd3 ct3), sl3⟩) (c3 : PySem.W.codeIn K cd3 "many_segments" = true) (k3 : PySem.W.keepIn K (.ref f3) = true)
    {f4 : Addr} {od4 an4 : Option Addr} {sl4 : Array (Option Value)} {oc4 kV4 dc4 pm4 cd4 ct4 : Value}
    (a4 : PySem.W.nsIn K mainGlobals "meets" = some (some (.ref f4))) (l4 : K.lookup f4 = some ⟨oc4, od4, .func (PySem.W.fnOf "meets" "meets" (defArgs s_meets) (defBody s_meets) (defScope s_meets) .none kV4 dc4 pm4 an4 cd4 ct4), sl4⟩) (c4 : PySem.W.codeIn K cd4 "meets" = true) (k4 : PySem.W.keepIn K (.ref f4) = true)
    {f5 : Addr} {od5 an5 : Option Addr} {sl5 : Array (Option Value)} {oc5 kV5 dc5 pm5 cd5 ct5 : Value}
    (a5 : PySem.W.nsIn K mainGlobals "closes" = some (some (.ref f5))) (l5 : K.lookup f5 = some ⟨oc5, od5, .func (PySem.W.fnOf "closes" "closes" (defArgs s_closes) (defBody s_closes) (defScope s_closes) .none kV5 dc5 pm5 an5 cd5 ct5), sl5⟩) (c5 : PySem.W.codeIn K cd5 "closes" = true) (k5 : PySem.W.keepIn K (.ref f5) = true)
    {f6 : Addr} {od6 an6 : Option Addr} {sl6 : Array (Option Value)} {oc6 kV6 dc6 pm6 cd6 ct6 : Value}
    (a6 : PySem.W.nsIn K mainGlobals "turns_back" = some (some (.ref f6))) (l6 : K.lookup f6 = some ⟨oc6, od6, .func (PySem.W.fnOf "turns_back" "turns_back" (defArgs s_turns_back) (defBody s_turns_back) (defScope s_turns_back) .none kV6 dc6 pm6 an6 cd6 ct6), sl6⟩) (c6 : PySem.W.codeIn K cd6 "turns_back" = true) (k6 : PySem.W.keepIn K (.ref f6) = true)
    {f7 : Addr} {od7 an7 : Option Addr} {sl7 : Array (Option Value)} {oc7 kV7 dc7 pm7 cd7 ct7 : Value}
    (a7 : PySem.W.nsIn K mainGlobals "turn" = some (some (.ref f7))) (l7 : K.lookup f7 = some ⟨oc7, od7, .func (PySem.W.fnOf "turn" "turn" (defArgs s_turn) (defBody s_turn) (defScope s_turn) .none kV7 dc7 pm7 an7 cd7 ct7), sl7⟩) (c7 : PySem.W.codeIn K cd7 "turn" = true) (k7 : PySem.W.keepIn K (.ref f7) = true)
    {f8 : Addr} {od8 an8 : Option Addr} {sl8 : Array (Option Value)} {oc8 kV8 dc8 pm8 cd8 ct8 : Value}
    (a8 : PySem.W.nsIn K mainGlobals "touches" = some (some (.ref f8))) (l8 : K.lookup f8 = some ⟨oc8, od8, .func (PySem.W.fnOf "touches" "touches" (defArgs s_touches) (defBody s_touches) (defScope s_touches) .none kV8 dc8 pm8 an8 cd8 ct8), sl8⟩) (c8 : PySem.W.codeIn K cd8 "touches" = true) (k8 : PySem.W.keepIn K (.ref f8) = true)
    {f9 : Addr} {od9 an9 : Option Addr} {sl9 : Array (Option Value)} {oc9 kV9 dc9 pm9 cd9 ct9 : Value}
    (a9 : PySem.W.nsIn K mainGlobals "apart" = some (some (.ref f9))) (l9 : K.lookup f9 = some ⟨oc9, od9, .func (PySem.W.fnOf "apart" "apart" (defArgs s_apart) (defBody s_apart) (defScope s_apart) .none kV9 dc9 pm9 an9 cd9 ct9), sl9⟩) (c9 : PySem.W.codeIn K cd9 "apart" = true) (k9 : PySem.W.keepIn K (.ref f9) = true)
    {f10 : Addr} {od10 an10 : Option Addr} {sl10 : Array (Option Value)} {oc10 kV10 dc10 pm10 cd10 ct10 : Value}
    (a10 : PySem.W.nsIn K mainGlobals "_law_feed" = some (some (.ref f10))) (l10 : K.lookup f10 = some ⟨oc10, od10, .func (PySem.W.fnOf "_law_feed" "_law_feed" (defArgs s_law_feed) (defBody s_law_feed) (defScope s_law_feed) .none kV10 dc10 pm10 an10 cd10 ct10), sl10⟩) (c10 : PySem.W.codeIn K cd10 "_law_feed" = true) (k10 : PySem.W.keepIn K (.ref f10) = true)
    {f11 : Addr} {od11 an11 : Option Addr} {sl11 : Array (Option Value)} {oc11 kV11 dc11 pm11 cd11 ct11 : Value}
    (a11 : PySem.W.nsIn K mainGlobals "_law_draw" = some (some (.ref f11))) (l11 : K.lookup f11 = some ⟨oc11, od11, .func (PySem.W.fnOf "_law_draw" "_law_draw" (defArgs s_law_draw) (defBody s_law_draw) (defScope s_law_draw) .none kV11 dc11 pm11 an11 cd11 ct11), sl11⟩) (c11 : PySem.W.codeIn K cd11 "_law_draw" = true) (k11 : PySem.W.keepIn K (.ref f11) = true)
    {f12 : Addr} {od12 an12 : Option Addr} {sl12 : Array (Option Value)} {oc12 kV12 dc12 pm12 cd12 ct12 : Value}
    (a12 : PySem.W.nsIn K mainGlobals "_law_either" = some (some (.ref f12))) (l12 : K.lookup f12 = some ⟨oc12, od12, .func (PySem.W.fnOf "_law_either" "_law_either" (defArgs s_law_either) (defBody s_law_either) (defScope s_law_either) .none kV12 dc12 pm12 an12 cd12 ct12), sl12⟩) (c12 : PySem.W.codeIn K cd12 "_law_either" = true) (k12 : PySem.W.keepIn K (.ref f12) = true)
    {f13 : Addr} {od13 an13 : Option Addr} {sl13 : Array (Option Value)} {oc13 kV13 dc13 pm13 cd13 ct13 : Value}
    (a13 : PySem.W.nsIn K mainGlobals "_law_chain" = some (some (.ref f13))) (l13 : K.lookup f13 = some ⟨oc13, od13, .func (PySem.W.fnOf "_law_chain" "_law_chain" (defArgs s_law_chain) (defBody s_law_chain) (defScope s_law_chain) .none kV13 dc13 pm13 an13 cd13 ct13), sl13⟩) (c13 : PySem.W.codeIn K cd13 "_law_chain" = true) (k13 : PySem.W.keepIn K (.ref f13) = true)
    {f14 : Addr} {od14 an14 : Option Addr} {sl14 : Array (Option Value)} {oc14 kV14 dc14 pm14 cd14 ct14 : Value}
    (a14 : PySem.W.nsIn K mainGlobals "_law_ring" = some (some (.ref f14))) (l14 : K.lookup f14 = some ⟨oc14, od14, .func (PySem.W.fnOf "_law_ring" "_law_ring" (defArgs s_law_ring) (defBody s_law_ring) (defScope s_law_ring) .none kV14 dc14 pm14 an14 cd14 ct14), sl14⟩) (c14 : PySem.W.codeIn K cd14 "_law_ring" = true) (k14 : PySem.W.keepIn K (.ref f14) = true)
    {f15 : Addr} {od15 an15 : Option Addr} {sl15 : Array (Option Value)} {oc15 kV15 dc15 pm15 cd15 ct15 : Value}
    (a15 : PySem.W.nsIn K mainGlobals "_law_bundle" = some (some (.ref f15))) (l15 : K.lookup f15 = some ⟨oc15, od15, .func (PySem.W.fnOf "_law_bundle" "_law_bundle" (defArgs s_law_bundle) (defBody s_law_bundle) (defScope s_law_bundle) .none kV15 dc15 pm15 an15 cd15 ct15), sl15⟩) (c15 : PySem.W.codeIn K cd15 "_law_bundle" = true) (k15 : PySem.W.keepIn K (.ref f15) = true)
    {f16 : Addr} {od16 an16 : Option Addr} {sl16 : Array (Option Value)} {oc16 kV16 dc16 pm16 cd16 ct16 : Value}
    (a16 : PySem.W.nsIn K mainGlobals "_law_clean" = some (some (.ref f16))) (l16 : K.lookup f16 = some ⟨oc16, od16, .func (PySem.W.fnOf "_law_clean" "_law_clean" (defArgs s_law_clean) (defBody s_law_clean) (defScope s_law_clean) .none kV16 dc16 pm16 an16 cd16 ct16), sl16⟩) (c16 : PySem.W.codeIn K cd16 "_law_clean" = true) (k16 : PySem.W.keepIn K (.ref f16) = true)
    {f17 : Addr} {od17 an17 : Option Addr} {sl17 : Array (Option Value)} {oc17 kV17 dc17 pm17 cd17 ct17 : Value}
    (a17 : PySem.W.nsIn K mainGlobals "_law_turn" = some (some (.ref f17))) (l17 : K.lookup f17 = some ⟨oc17, od17, .func (PySem.W.fnOf "_law_turn" "_law_turn" (defArgs s_law_turn) (defBody s_law_turn) (defScope s_law_turn) .none kV17 dc17 pm17 an17 cd17 ct17), sl17⟩) (c17 : PySem.W.codeIn K cd17 "_law_turn" = true) (k17 : PySem.W.keepIn K (.ref f17) = true)
    {f18 : Addr} {od18 an18 : Option Addr} {sl18 : Array (Option Value)} {oc18 kV18 dc18 pm18 cd18 ct18 : Value}
    (a18 : PySem.W.nsIn K mainGlobals "_law_apart" = some (some (.ref f18))) (l18 : K.lookup f18 = some ⟨oc18, od18, .func (PySem.W.fnOf "_law_apart" "_law_apart" (defArgs s_law_apart) (defBody s_law_apart) (defScope s_law_apart) .none kV18 dc18 pm18 an18 cd18 ct18), sl18⟩) (c18 : PySem.W.codeIn K cd18 "_law_apart" = true) (k18 : PySem.W.keepIn K (.ref f18) = true)
    {f19 : Addr} {od19 an19 : Option Addr} {sl19 : Array (Option Value)} {oc19 kV19 dc19 pm19 cd19 ct19 : Value}
    (a19 : PySem.W.nsIn K mainGlobals "_law_touch" = some (some (.ref f19))) (l19 : K.lookup f19 = some ⟨oc19, od19, .func (PySem.W.fnOf "_law_touch" "_law_touch" (defArgs s_law_touch) (defBody s_law_touch) (defScope s_law_touch) .none kV19 dc19 pm19 an19 cd19 ct19), sl19⟩) (c19 : PySem.W.codeIn K cd19 "_law_touch" = true) (k19 : PySem.W.keepIn K (.ref f19) = true)
    {f20 : Addr} {od20 an20 : Option Addr} {sl20 : Array (Option Value)} {oc20 kV20 dc20 pm20 cd20 ct20 : Value}
    (a20 : PySem.W.nsIn K mainGlobals "_law_folds" = some (some (.ref f20))) (l20 : K.lookup f20 = some ⟨oc20, od20, .func (PySem.W.fnOf "_law_folds" "_law_folds" (defArgs s_law_folds) (defBody s_law_folds) (defScope s_law_folds) .none kV20 dc20 pm20 an20 cd20 ct20), sl20⟩) (c20 : PySem.W.codeIn K cd20 "_law_folds" = true) (k20 : PySem.W.keepIn K (.ref f20) = true)
    {f21 : Addr} {od21 an21 : Option Addr} {sl21 : Array (Option Value)} {oc21 kV21 dc21 pm21 cd21 ct21 : Value}
    (a21 : PySem.W.nsIn K mainGlobals "_law_segments" = some (some (.ref f21))) (l21 : K.lookup f21 = some ⟨oc21, od21, .func (PySem.W.fnOf "_law_segments" "_law_segments" (defArgs s_law_segments) (defBody s_law_segments) (defScope s_law_segments) .none kV21 dc21 pm21 an21 cd21 ct21), sl21⟩) (c21 : PySem.W.codeIn K cd21 "_law_segments" = true) (k21 : PySem.W.keepIn K (.ref f21) = true)
    {f22 : Addr} {od22 an22 : Option Addr} {sl22 : Array (Option Value)} {oc22 kV22 dc22 pm22 cd22 ct22 : Value}
    (a22 : PySem.W.nsIn K mainGlobals "_law_bad" = some (some (.ref f22))) (l22 : K.lookup f22 = some ⟨oc22, od22, .func (PySem.W.fnOf "_law_bad" "_law_bad" (defArgs s_law_bad) (defBody s_law_bad) (defScope s_law_bad) .none kV22 dc22 pm22 an22 cd22 ct22), sl22⟩) (c22 : PySem.W.codeIn K cd22 "_law_bad" = true) (k22 : PySem.W.keepIn K (.ref f22) = true)
    {f23 : Addr} {od23 an23 : Option Addr} {sl23 : Array (Option Value)} {oc23 kV23 dc23 pm23 cd23 ct23 : Value}
    (a23 : PySem.W.nsIn K mainGlobals "_law_meeting" = some (some (.ref f23))) (l23 : K.lookup f23 = some ⟨oc23, od23, .func (PySem.W.fnOf "_law_meeting" "_law_meeting" (defArgs s_law_meeting) (defBody s_law_meeting) (defScope s_law_meeting) .none kV23 dc23 pm23 an23 cd23 ct23), sl23⟩) (c23 : PySem.W.codeIn K cd23 "_law_meeting" = true) (k23 : PySem.W.keepIn K (.ref f23) = true)
    {f24 : Addr} {od24 an24 : Option Addr} {sl24 : Array (Option Value)} {oc24 kV24 dc24 pm24 cd24 ct24 : Value}
    (a24 : PySem.W.nsIn K mainGlobals "_law_moved" = some (some (.ref f24))) (l24 : K.lookup f24 = some ⟨oc24, od24, .func (PySem.W.fnOf "_law_moved" "_law_moved" (defArgs s_law_moved) (defBody s_law_moved) (defScope s_law_moved) .none kV24 dc24 pm24 an24 cd24 ct24), sl24⟩) (c24 : PySem.W.codeIn K cd24 "_law_moved" = true) (k24 : PySem.W.keepIn K (.ref f24) = true)
    {f25 : Addr} {od25 an25 : Option Addr} {sl25 : Array (Option Value)} {oc25 kV25 dc25 pm25 cd25 ct25 : Value}
    (a25 : PySem.W.nsIn K mainGlobals "_law_spoilt" = some (some (.ref f25))) (l25 : K.lookup f25 = some ⟨oc25, od25, .func (PySem.W.fnOf "_law_spoilt" "_law_spoilt" (defArgs s_law_spoilt) (defBody s_law_spoilt) (defScope s_law_spoilt) .none kV25 dc25 pm25 an25 cd25 ct25), sl25⟩) (c25 : PySem.W.codeIn K cd25 "_law_spoilt" = true) (k25 : PySem.W.keepIn K (.ref f25) = true)
    {f26 : Addr} {od26 an26 : Option Addr} {sl26 : Array (Option Value)} {oc26 kV26 dc26 pm26 cd26 ct26 : Value}
    (a26 : PySem.W.nsIn K mainGlobals "law" = some (some (.ref f26))) (l26 : K.lookup f26 = some ⟨oc26, od26, .func (PySem.W.fnOf "law" "law" (defArgs s_law) (defBody s_law) (defScope s_law) .none kV26 dc26 pm26 an26 cd26 ct26), sl26⟩) (c26 : PySem.W.codeIn K cd26 "law" = true) (k26 : PySem.W.keepIn K (.ref f26) = true)
    (z_len : PySem.W.nsIn K mainGlobals "len" = some none)
    (z_min : PySem.W.nsIn K mainGlobals "min" = some none)
    (z_max : PySem.W.nsIn K mainGlobals "max" = some none)
    (z_enumerate : PySem.W.nsIn K mainGlobals "enumerate" = some none)
    (z_range : PySem.W.nsIn K mainGlobals "range" = some none)
    (z_int : PySem.W.nsIn K mainGlobals "int" = some none)
    (z_tuple : PySem.W.nsIn K mainGlobals "tuple" = some none)
    (z_abs : PySem.W.nsIn K mainGlobals "abs" = some none)
    (z_list : PySem.W.nsIn K mainGlobals "list" = some none)
    (z_reversed : PySem.W.nsIn K mainGlobals "reversed" = some none)
    (z_sum : PySem.W.nsIn K mainGlobals "sum" = some none)
    (z_any : PySem.W.nsIn K mainGlobals "any" = some none)
    (z_bool : PySem.W.nsIn K mainGlobals "bool" = some none)
    (z_isinstance : PySem.W.nsIn K mainGlobals "isinstance" = some none)
    (kT : PySem.W.kitOne K (.type "tuple") (.type "tuple") = some true) (kB : PySem.W.kitOne K (.type "int") (.type "bool") = some false) :
    ∃ fd : FuncData, (∀ (s : Shared) (v : Value), BindsTo s fd ⟨[v], []⟩ [("_law_script", v)]) ∧ ∀ base : Heap, K.In base → base.Ns mainGlobals mg → FnOk l.prog w K mg base CX0 5 fa fd ["_law_script"] (spLaw K) := by
  have F_meeting : Def K mg "meeting" s_meeting ["web"] := ⟨f1, _, fun_mk (st := s_meeting) l1 c1 k1, (fun_mk (st := s_meeting) l1 c1 k1).binds (ps := ["web"]) fun _ _ _ _ _ _ us hl => match us, hl with | [_], _ => rfl, PySem.W.mg_of X G a1⟩
  have F_segments : Def K mg "segments" s_segments ["web"] := ⟨f2, _, fun_mk (st := s_segments) l2 c2 k2, (fun_mk (st := s_segments) l2 c2 k2).binds (ps := ["web"]) fun _ _ _ _ _ _ us hl => match us, hl with | [_], _ => rfl, PySem.W.mg_of X G a2⟩
  have F_many_segments : Def K mg "many_segments" s_many_segments ["word", "path"] := ⟨f3, _, fun_mk (st := s_many_segments) l3 c3 k3, (fun_mk (st := s_many_segments) l3 c3 k3).binds (ps := ["word", "path"]) fun _ _ _ _ _ _ us hl => match us, hl with | [_, _], _ => rfl, PySem.W.mg_of X G a3⟩
  have F_meets : Def K mg "meets" s_meets ["web", "one", "other"] := ⟨f4, _, fun_mk (st := s_meets) l4 c4 k4, (fun_mk (st := s_meets) l4 c4 k4).binds (ps := ["web", "one", "other"]) fun _ _ _ _ _ _ us hl => match us, hl with | [_, _, _], _ => rfl, PySem.W.mg_of X G a4⟩
  have F_closes : Def K mg "closes" s_closes ["web", "first", "second"] := ⟨f5, _, fun_mk (st := s_closes) l5 c5 k5, (fun_mk (st := s_closes) l5 c5 k5).binds (ps := ["web", "first", "second"]) fun _ _ _ _ _ _ us hl => match us, hl with | [_, _, _], _ => rfl, PySem.W.mg_of X G a5⟩
  have F_turns_back : Def K mg "turns_back" s_turns_back ["ahead", "between", "behind"] := ⟨f6, _, fun_mk (st := s_turns_back) l6 c6 k6, (fun_mk (st := s_turns_back) l6 c6 k6).binds (ps := ["ahead", "between", "behind"]) fun _ _ _ _ _ _ us hl => match us, hl with | [_, _, _], _ => rfl, PySem.W.mg_of X G a6⟩
  have F_turn : Def K mg "turn" s_turn ["a", "b", "c"] := ⟨f7, _, fun_mk (st := s_turn) l7 c7 k7, (fun_mk (st := s_turn) l7 c7 k7).binds (ps := ["a", "b", "c"]) fun _ _ _ _ _ _ us hl => match us, hl with | [_, _, _], _ => rfl, PySem.W.mg_of X G a7⟩
  have F_touches : Def K mg "touches" s_touches ["a", "b", "c", "d"] := ⟨f8, _, fun_mk (st := s_touches) l8 c8 k8, (fun_mk (st := s_touches) l8 c8 k8).binds (ps := ["a", "b", "c", "d"]) fun _ _ _ _ _ _ us hl => match us, hl with | [_, _, _, _], _ => rfl, PySem.W.mg_of X G a8⟩
  have F_apart : Def K mg "apart" s_apart ["a", "b", "c", "d"] := ⟨f9, _, fun_mk (st := s_apart) l9 c9 k9, (fun_mk (st := s_apart) l9 c9 k9).binds (ps := ["a", "b", "c", "d"]) fun _ _ _ _ _ _ us hl => match us, hl with | [_, _, _, _], _ => rfl, PySem.W.mg_of X G a9⟩
  have F_law_feed : Def K mg "_law_feed" s_law_feed ["_law_script", "_law_k"] := ⟨f10, _, fun_mk (st := s_law_feed) l10 c10 k10, (fun_mk (st := s_law_feed) l10 c10 k10).binds (ps := ["_law_script", "_law_k"]) fun _ _ _ _ _ _ us hl => match us, hl with | [_, _], _ => rfl, PySem.W.mg_of X G a10⟩
  have F_law_draw : Def K mg "_law_draw" s_law_draw ["_law_feed_here", "_law_many"] := ⟨f11, _, fun_mk (st := s_law_draw) l11 c11 k11, (fun_mk (st := s_law_draw) l11 c11 k11).binds (ps := ["_law_feed_here", "_law_many"]) fun _ _ _ _ _ _ us hl => match us, hl with | [_, _], _ => rfl, PySem.W.mg_of X G a11⟩
  have F_law_either : Def K mg "_law_either" s_law_either ["_law_feed_here", "_law_row"] := ⟨f12, _, fun_mk (st := s_law_either) l12 c12 k12, (fun_mk (st := s_law_either) l12 c12 k12).binds (ps := ["_law_feed_here", "_law_row"]) fun _ _ _ _ _ _ us hl => match us, hl with | [_, _], _ => rfl, PySem.W.mg_of X G a12⟩
  have F_law_chain : Def K mg "_law_chain" s_law_chain ["_law_feed_here", "_law_many", "_law_top"] := ⟨f13, _, fun_mk (st := s_law_chain) l13 c13 k13, (fun_mk (st := s_law_chain) l13 c13 k13).binds (ps := ["_law_feed_here", "_law_many", "_law_top"]) fun _ _ _ _ _ _ us hl => match us, hl with | [_, _, _], _ => rfl, PySem.W.mg_of X G a13⟩
  have F_law_ring : Def K mg "_law_ring" s_law_ring ["_law_feed_here", "_law_chain_here", "_law_top"] := ⟨f14, _, fun_mk (st := s_law_ring) l14 c14 k14, (fun_mk (st := s_law_ring) l14 c14 k14).binds (ps := ["_law_feed_here", "_law_chain_here", "_law_top"]) fun _ _ _ _ _ _ us hl => match us, hl with | [_, _, _], _ => rfl, PySem.W.mg_of X G a14⟩
  have F_law_bundle : Def K mg "_law_bundle" s_law_bundle ["_law_feed_here", "_law_many", "_law_top", "_law_room"] := ⟨f15, _, fun_mk (st := s_law_bundle) l15 c15 k15, (fun_mk (st := s_law_bundle) l15 c15 k15).binds (ps := ["_law_feed_here", "_law_many", "_law_top", "_law_room"]) fun _ _ _ _ _ _ us hl => match us, hl with | [_, _, _, _], _ => rfl, PySem.W.mg_of X G a15⟩
  have F_law_clean : Def K mg "_law_clean" s_law_clean ["_law_feed_here", "_law_most"] := ⟨f16, _, fun_mk (st := s_law_clean) l16 c16 k16, (fun_mk (st := s_law_clean) l16 c16 k16).binds (ps := ["_law_feed_here", "_law_most"]) fun _ _ _ _ _ _ us hl => match us, hl with | [_, _], _ => rfl, PySem.W.mg_of X G a16⟩
  have F_law_turn : Def K mg "_law_turn" s_law_turn ["_law_one", "_law_other", "_law_point"] := ⟨f17, _, fun_mk (st := s_law_turn) l17 c17 k17, (fun_mk (st := s_law_turn) l17 c17 k17).binds (ps := ["_law_one", "_law_other", "_law_point"]) fun _ _ _ _ _ _ us hl => match us, hl with | [_, _, _], _ => rfl, PySem.W.mg_of X G a17⟩
  have F_law_apart : Def K mg "_law_apart" s_law_apart ["_law_one", "_law_other", "_law_k"] := ⟨f18, _, fun_mk (st := s_law_apart) l18 c18 k18, (fun_mk (st := s_law_apart) l18 c18 k18).binds (ps := ["_law_one", "_law_other", "_law_k"]) fun _ _ _ _ _ _ us hl => match us, hl with | [_, _, _], _ => rfl, PySem.W.mg_of X G a18⟩
  have F_law_touch : Def K mg "_law_touch" s_law_touch ["_law_one", "_law_other"] := ⟨f19, _, fun_mk (st := s_law_touch) l19 c19 k19, (fun_mk (st := s_law_touch) l19 c19 k19).binds (ps := ["_law_one", "_law_other"]) fun _ _ _ _ _ _ us hl => match us, hl with | [_, _], _ => rfl, PySem.W.mg_of X G a19⟩
  have F_law_folds : Def K mg "_law_folds" s_law_folds ["_law_one", "_law_middle", "_law_other"] := ⟨f20, _, fun_mk (st := s_law_folds) l20 c20 k20, (fun_mk (st := s_law_folds) l20 c20 k20).binds (ps := ["_law_one", "_law_middle", "_law_other"]) fun _ _ _ _ _ _ us hl => match us, hl with | [_, _, _], _ => rfl, PySem.W.mg_of X G a20⟩
  have F_law_segments : Def K mg "_law_segments" s_law_segments ["_law_web"] := ⟨f21, _, fun_mk (st := s_law_segments) l21 c21 k21, (fun_mk (st := s_law_segments) l21 c21 k21).binds (ps := ["_law_web"]) fun _ _ _ _ _ _ us hl => match us, hl with | [_], _ => rfl, PySem.W.mg_of X G a21⟩
  have F_law_bad : Def K mg "_law_bad" s_law_bad ["_law_web", "_law_here", "_law_there"] := ⟨f22, _, fun_mk (st := s_law_bad) l22 c22 k22, (fun_mk (st := s_law_bad) l22 c22 k22).binds (ps := ["_law_web", "_law_here", "_law_there"]) fun _ _ _ _ _ _ us hl => match us, hl with | [_, _, _], _ => rfl, PySem.W.mg_of X G a22⟩
  have F_law_meeting : Def K mg "_law_meeting" s_law_meeting ["_law_web"] := ⟨f23, _, fun_mk (st := s_law_meeting) l23 c23 k23, (fun_mk (st := s_law_meeting) l23 c23 k23).binds (ps := ["_law_web"]) fun _ _ _ _ _ _ us hl => match us, hl with | [_], _ => rfl, PySem.W.mg_of X G a23⟩
  have F_law_moved : Def K mg "_law_moved" s_law_moved ["_law_web", "_law_k", "_law_at", "_law_point"] := ⟨f24, _, fun_mk (st := s_law_moved) l24 c24 k24, (fun_mk (st := s_law_moved) l24 c24 k24).binds (ps := ["_law_web", "_law_k", "_law_at", "_law_point"]) fun _ _ _ _ _ _ us hl => match us, hl with | [_, _, _, _], _ => rfl, PySem.W.mg_of X G a24⟩
  have F_law_spoilt : Def K mg "_law_spoilt" s_law_spoilt ["_law_feed_here", "_law_web"] := ⟨f25, _, fun_mk (st := s_law_spoilt) l25 c25 k25, (fun_mk (st := s_law_spoilt) l25 c25 k25).binds (ps := ["_law_feed_here", "_law_web"]) fun _ _ _ _ _ _ us hl => match us, hl with | [_, _], _ => rfl, PySem.W.mg_of X G a25⟩
  have F_law : Def K mg "law" s_law ["_law_script"] := ⟨f26, _, fun_mk (st := s_law) l26 c26 k26, (fun_mk (st := s_law) l26 c26 k26).binds (ps := ["_law_script"]) fun _ _ _ _ _ _ us hl => match us, hl with | [_], _ => rfl, PySem.W.mg_of X G a26⟩
  have m_len := PySem.W.mg_none_of X G z_len
  have m_min := PySem.W.mg_none_of X G z_min
  have m_max := PySem.W.mg_none_of X G z_max
  have m_enumerate := PySem.W.mg_none_of X G z_enumerate
  have m_range := PySem.W.mg_none_of X G z_range
  have m_int := PySem.W.mg_none_of X G z_int
  have m_tuple := PySem.W.mg_none_of X G z_tuple
  have m_abs := PySem.W.mg_none_of X G z_abs
  have m_list := PySem.W.mg_none_of X G z_list
  have m_reversed := PySem.W.mg_none_of X G z_reversed
  have m_sum := PySem.W.mg_none_of X G z_sum
  have m_any := PySem.W.mg_none_of X G z_any
  have m_bool := PySem.W.mg_none_of X G z_bool
  have m_isinstance := PySem.W.mg_none_of X G z_isinstance
  have e := hfa.symm.trans (PySem.W.mg_of X G a26)
  cases e
  have F0 := fun_mk (st := s_law) l26 c26 k26
  refine ⟨PySem.W.fnOf "law" "law" (defArgs s_law) (defBody s_law) (defScope s_law) .none kV26 dc26 pm26 an26 cd26 ct26, fun s v => .of_eq rfl, fun base _ _ => ?_⟩
  have G1 := ok_turnP (P := l.prog) (w := w) (base := base) (k := 0) F_turn
  have G2 := ok_apart (P := l.prog) (w := w) (base := base) (k := 0) F_apart m_min m_max
  have G3 := ok_touches (P := l.prog) (w := w) (base := base) (k := 1) F_touches G2 G1
  have G4 := ok_turns_back (P := l.prog) (w := w) (base := base) (k := 1) F_turns_back G1
  have G5 := ok_closes (P := l.prog) (w := w) (base := base) (k := 1) F_closes m_len
  have G6 := ok_meets (P := l.prog) (w := w) (base := base) (k := 2) F_meets G5 G4 G3
  have G7 := ok_many (P := l.prog) (w := w) (base := base) (k := 0) F_many_segments m_len
  have G8 := ok_segments (P := l.prog) (w := w) (base := base) (k := 1) F_segments m_len m_range m_enumerate G7
  have G9 := ok_meeting (P := l.prog) (w := w) (base := base) (k := 3) F_meeting m_enumerate (G8.mono (by decide)) G6
  have L1 := ok_lturn (P := l.prog) (w := w) (base := base) (k := 0) F_law_turn
  have L2' := ok_lapart (P := l.prog) (w := w) (base := base) (k := 0) F_law_apart m_min m_max
  have L3 := ok_ltouch (P := l.prog) (w := w) (base := base) (k := 1) F_law_touch m_min m_max m_range L2' L1
  have L4 := ok_lfolds (P := l.prog) (w := w) (base := base) (k := 1) F_law_folds L1
  have L5 := ok_lbad (P := l.prog) (w := w) (base := base) (k := 2) F_law_bad m_len L4 L3
  have L6 := ok_lsegments (P := l.prog) (w := w) (base := base) (k := 2) F_law_segments m_len m_range m_int
  have L7 := ok_lmeeting (P := l.prog) (w := w) (base := base) (k := 3) F_law_meeting m_len m_range L6 L5
  have D1 := ok_draw (P := l.prog) (w := w) (base := base) (k := 0) F_law_draw
  have E1 := ok_either (P := l.prog) (w := w) (base := base) (k := 1) F_law_either m_list m_reversed D1
  have E2 := ok_chain (P := l.prog) (w := w) (base := base) (k := 1) F_law_chain m_range D1
  have E3 := ok_ring (P := l.prog) (w := w) (base := base) (k := 1) F_law_ring D1
  have E4 := ok_bundle (P := l.prog) (w := w) (base := base) (k := 2) F_law_bundle m_range m_len m_max m_min m_tuple (D1.mono (by decide)) E2 E3 E1
  have E5 := ok_clean (P := l.prog) (w := w) (base := base) (k := 3) F_law_clean m_range m_len m_sum m_int m_tuple (D1.mono (by decide)) E4
  have E6 := ok_moved (P := l.prog) (w := w) (base := base) (k := 2) F_law_moved
  have E7 := ok_spoilt (P := l.prog) (w := w) (base := base) (k := 3) F_law_spoilt m_len m_sum (D1.mono (by decide)) E6
  have D3 := ok_feed (P := l.prog) (w := w) (base := base) (k := 3) F_law_feed m_len m_abs
  exact ok_law (P := l.prog) (w := w) (base := base) (k := 4) F0 m_len m_range m_max m_min m_tuple m_list m_int m_any m_bool m_isinstance kT kB D3 E5 E7 (D1.mono (by decide)) L7 G9
theorem walk {l : PySem.W.OpenLaw} {q : Program} {loose : List Str} {XP : (Str → Option Value) → Heap → Prop} {YP : World → Heap → Prop} {d : DefRec} {K : Params → PySem.W.Frag} (hn : l.most = some 63) (hdf : d.params.defaults = [])
    (hY : ∀ (w : World) (h : Heap), YP w h → (K w.params).In h)
    (F : ∀ (w : World) (mg : Str → Option Value) (fa : Addr) (h : Heap), (K w.params).In h → h.Ns mainGlobals mg → mg d.name = some (.ref fa) →
      ∃ fd : FuncData, (∀ (s : Shared) (u : Value), BindsTo s fd ⟨[u], []⟩ [("_law_script", u)]) ∧ ∀ base : Heap, (K w.params).In base → base.Ns mainGlobals mg → FnOk l.prog w (K w.params) mg base CX0 5 fa fd ["_law_script"] (spLaw (K w.params))) :
    PySem.W.WalkO q loose XP YP l.row.toRowW d [] (fun f vs => PySem.call f vs) :=
  L2.walk_of (n := 63) (k := 5) (x := "_law_script") (CX := fun _ => CX0) (sp := fun w => spLaw (K w.params)) hn (by decide) hdf ⟨rfl, by decide, by decide⟩ hY F (fun _ _ a ns hl _ hS => ⟨a, ns, rfl, hS, hl, fun _ => rfl⟩) fun _ _ _ _ _ z => z
end My
open PySem PySem.W PyProof.Rows
set_option maxRecDepth 100000 in
set_option maxHeartbeats 0 in
theorem PySem.Challenge.cw_heightrings_k50_meetings_holds : PySem.Challenge.rw_heightrings_k50_meetings.Holds := by
  w_on; o_law; k_head; (case hw => w_witness2)
  k_fill
  refine My.walk (l := PySem.Challenge.rw_heightrings_k50_meetings) rfl rfl (fun w h Y => PySem.W.kIn_of Y) ?F
  case F =>
    intro w mg fa h KX G hmg
    refine' My.all_mk KX G hmg ?a1 ?l1 ?c1 ?k1 ?a2 ?l2 ?c2 ?k2 ?a3 ?l3 ?c3 ?k3 ?a4 ?l4 ?c4 ?k4 ?a5 ?l5 ?c5 ?k5 ?a6 ?l6 ?c6 ?k6 ?a7 ?l7 ?c7 ?k7 ?a8 ?l8 ?c8 ?k8 ?a9 ?l9 ?c9 ?k9 ?a10 ?l10 ?c10 ?k10 ?a11 ?l11 ?c11 ?k11 ?a12 ?l12 ?c12 ?k12 ?a13 ?l13 ?c13 ?k13 ?a14 ?l14 ?c14 ?k14 ?a15 ?l15 ?c15 ?k15 ?a16 ?l16 ?c16 ?k16 ?a17 ?l17 ?c17 ?k17 ?a18 ?l18 ?c18 ?k18 ?a19 ?l19 ?c19 ?k19 ?a20 ?l20 ?c20 ?k20 ?a21 ?l21 ?c21 ?k21 ?a22 ?l22 ?c22 ?k22 ?a23 ?l23 ?c23 ?k23 ?a24 ?l24 ?c24 ?k24 ?a25 ?l25 ?c25 ?k25 ?a26 ?l26 ?c26 ?k26 ?z_len ?z_min ?z_max ?z_enumerate ?z_range ?z_int ?z_tuple ?z_abs ?z_list ?z_reversed ?z_sum ?z_any ?z_bool ?z_isinstance ?kT ?kB
    (case a1 => k_is)
    (case l1 => k_is)
    (case c1 => k_is)
    (case k1 => k_is)
    (case a2 => k_is)
    (case l2 => k_is)
    (case c2 => k_is)
    (case k2 => k_is)
    (case a3 => k_is)
    (case l3 => k_is)
    (case c3 => k_is)
    (case k3 => k_is)
    (case a4 => k_is)
    (case l4 => k_is)
    (case c4 => k_is)
    (case k4 => k_is)
    (case a5 => k_is)
    (case l5 => k_is)
    (case c5 => k_is)
    (case k5 => k_is)
    (case a6 => k_is)
    (case l6 => k_is)
    (case c6 => k_is)
    (case k6 => k_is)
    (case a7 => k_is)
    (case l7 => k_is)
    (case c7 => k_is)
    (case k7 => k_is)
    (case a8 => k_is)
    (case l8 => k_is)
    (case c8 => k_is)
    (case k8 => k_is)
    (case a9 => k_is)
    (case l9 => k_is)
    (case c9 => k_is)
    (case k9 => k_is)
    (case a10 => k_is)
    (case l10 => k_is)
    (case c10 => k_is)
    (case k10 => k_is)
    (case a11 => k_is)
    (case l11 => k_is)
    (case c11 => k_is)
    (case k11 => k_is)
    (case a12 => k_is)
    (case l12 => k_is)
    (case c12 => k_is)
    (case k12 => k_is)
    (case a13 => k_is)
    (case l13 => k_is)
    (case c13 => k_is)
    (case k13 => k_is)
    (case a14 => k_is)
    (case l14 => k_is)
    (case c14 => k_is)
    (case k14 => k_is)
    (case a15 => k_is)
    (case l15 => k_is)
    (case c15 => k_is)
    (case k15 => k_is)
    (case a16 => k_is)
    (case l16 => k_is)
    (case c16 => k_is)
    (case k16 => k_is)
    (case a17 => k_is)
    (case l17 => k_is)
    (case c17 => k_is)
    (case k17 => k_is)
    (case a18 => k_is)
    (case l18 => k_is)
    (case c18 => k_is)
    (case k18 => k_is)
    (case a19 => k_is)
    (case l19 => k_is)
    (case c19 => k_is)
    (case k19 => k_is)
    (case a20 => k_is)
    (case l20 => k_is)
    (case c20 => k_is)
    (case k20 => k_is)
    (case a21 => k_is)
    (case l21 => k_is)
    (case c21 => k_is)
    (case k21 => k_is)
    (case a22 => k_is)
    (case l22 => k_is)
    (case c22 => k_is)
    (case k22 => k_is)
    (case a23 => k_is)
    (case l23 => k_is)
    (case c23 => k_is)
    (case k23 => k_is)
    (case a24 => k_is)
    (case l24 => k_is)
    (case c24 => k_is)
    (case k24 => k_is)
    (case a25 => k_is)
    (case l25 => k_is)
    (case c25 => k_is)
    (case k25 => k_is)
    (case a26 => k_is)
    (case l26 => k_is)
    (case c26 => k_is)
    (case k26 => k_is)
    (case z_len => k_is)
    (case z_min => k_is)
    (case z_max => k_is)
    (case z_enumerate => k_is)
    (case z_range => k_is)
    (case z_int => k_is)
    (case z_tuple => k_is)
    (case z_abs => k_is)
    (case z_list => k_is)
    (case z_reversed => k_is)
    (case z_sum => k_is)
    (case z_any => k_is)
    (case z_bool => k_is)
    (case z_isinstance => k_is)
    (case kT => kernel_rfl)
    (case kB => kernel_rfl)
end
