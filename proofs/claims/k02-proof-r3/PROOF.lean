import PyProof.Rows.All
import Wide.All
import OpenK.AllK
import Wide.FinOn
import Lean
import PyProof.EqAt
import PyProof.EqKinds
import PyProof.TupleCall
import PySem.Challenge.RW_netsieve_k02_steps
set_option Elab.async false
set_option linter.all false
set_option maxRecDepth 100000
/-! THE HAND LAYER, for ints, bools, texts, own classes, LISTS and tuples (index, slices, in, append, pop ..), calls, loops. Paste it whole ahead of your own text; what your proof does not reach may be deleted. -/
namespace L2
open PySem PySem.Spec PyProof.Rows

/-- a key: an int or a str -/
abbrev Key := Sum Int Str
def keyIs : Key → Value → Bool
  | .inl k, v => Value.isInt k v
  | .inr x, v => Value.isStrOf x v
def keyH (w : World) : Key → Int
  | .inl k => hashInt k
  | .inr x => hashStr w x
theorem keyIs_shape : ∀ {k : Key} {v : Value}, keyIs k v = true → (∃ i t, k = Sum.inl i ∧ v = Value.int i t) ∨ (∃ x t, k = Sum.inr x ∧ v = Value.str x t)
  | .inl i, v, h => by
    obtain ⟨t, e⟩ := Value.isInt_shape (k := i) (v := v) h
    exact .inl ⟨i, t, rfl, e⟩
  | .inr x, v, h => by
    obtain ⟨t, e⟩ := Value.isStrOf_shape (x := x) (v := v) h
    exact .inr ⟨x, t, rfl, e⟩
theorem keyIs_int (i : Int) (t : Tok) : keyIs (.inl i) (.int i t) = true := by simp [keyIs, Value.isInt]
theorem keyIs_str (x : Str) (t : Tok) : keyIs (.inr x) (.str x t) = true := by simp [keyIs, Value.isStrOf]
theorem key_ll (a b : Int) : decide ((Sum.inl a : Key) = Sum.inl b) = (a == b) := by
  by_cases e : a = b
  · subst e; simp
  · have h : ¬ (Sum.inl a : Key) = Sum.inl b := fun q => e (Sum.inl.inj q)
    rw [decide_eq_false h]
    exact (beq_eq_false_iff_ne.mpr e).symm
theorem key_rr (a b : Str) : decide ((Sum.inr a : Key) = Sum.inr b) = decide (a = b) := by
  by_cases e : a = b
  · subst e; simp
  · have h : ¬ (Sum.inr a : Key) = Sum.inr b := fun q => e (Sum.inr.inj q)
    rw [decide_eq_false h, decide_eq_false e]
theorem key_lr (a : Int) (b : Str) : decide ((Sum.inl a : Key) = Sum.inr b) = false := decide_eq_false (fun q => nomatch q)
theorem key_rl (a : Str) (b : Int) : decide ((Sum.inr a : Key) = Sum.inl b) = false := decide_eq_false (fun q => nomatch q)

def mixKind (prog : Program) (w : World) : PySem.KeyKind prog w Key where
  is := keyIs
  hash := keyH w
  inj := fun v a b ha hb => by
    rcases keyIs_shape ha with ⟨i, t, rfl, rfl⟩ | ⟨x, t, rfl, rfl⟩
    · rcases keyIs_shape hb with ⟨j, u, rfl, e⟩ | ⟨y, u, rfl, e⟩
      · injection e with e1 _; rw [e1]
      · exact nomatch e
    · rcases keyIs_shape hb with ⟨j, u, rfl, e⟩ | ⟨y, u, rfl, e⟩
      · exact nomatch e
      · injection e with e1 _; rw [e1]
  byValue := fun k v h => by
    rcases keyIs_shape h with ⟨i, t, rfl, rfl⟩ | ⟨x, t, rfl, rfl⟩ <;> rfl
  pyHash := fun hv h => by
    rcases keyIs_shape hv with ⟨i, t, rfl, rfl⟩ | ⟨x, t, rfl, rfl⟩
    · exact wpAny_pyHash_int h
    · exact wpAny_pyHash_str h
  eqBool := fun hu hv h => by
    rcases keyIs_shape hu with ⟨i, t, rfl, rfl⟩ | ⟨x, t, rfl, rfl⟩
    · rcases keyIs_shape hv with ⟨j, u, rfl, rfl⟩ | ⟨y, u, rfl, rfl⟩
      · rw [key_ll] at h; exact wpAny_eqBool_int h
      · rw [key_lr] at h; exact SeqAt.EqAt.int_str i t y u _ _ _ _ h
    · rcases keyIs_shape hv with ⟨j, u, rfl, rfl⟩ | ⟨y, u, rfl, rfl⟩
      · rw [key_rl] at h; exact SeqAt.EqAt.str_int x t j u _ _ _ _ h
      · rw [key_rr] at h; exact wpAny_eqBool_str h
  «strs» := fun k x t v h => by
    rcases keyIs_shape h with ⟨i, u, rfl, e⟩ | ⟨y, u, rfl, e⟩
    · exact nomatch e
    · injection e with e1 _
      subst e1
      cases v <;> rfl

theorem mixKind_is (prog : Program) (w : World) (k : Key) (v : Value) : (mixKind prog w).is k v = keyIs k v := rfl
theorem mixKind_int (prog : Program) (w : World) (i : Int) (t : Tok) : (mixKind prog w).is (.inl i) (.int i t) = true := keyIs_int i t
theorem mixKind_str (prog : Program) (w : World) (x : Str) (t : Tok) : (mixKind prog w).is (.inr x) (.str x t) = true := keyIs_str x t
end L2

namespace L2
open PySem PySem.Spec PyProof.Rows

/-- a value, without the heap -/
inductive V where
  | non | bl (b : Bool) | int (i : Int) | str (x : Str) | byt (b : Array UInt8) | flt (b : UInt64) | ref (a : Addr) | ty (n : String)
  deriving DecidableEq

def RelV : V → Value → Prop
  | .non, u => u = Value.none
  | .bl b, u => u = Value.bool b
  | .int i, u => ∃ t, u = Value.int i t
  | .str x, u => ∃ t, u = Value.str x t
  | .byt b, u => ∃ t, u = Value.bytes b t
  | .flt b, u => ∃ t, u = Value.float b t
  | .ref a, u => u = Value.ref a
  | .ty n, u => u = Value.type n

abbrev Vals : List V → List Value → Prop := Paired RelV
theorem Vals.length {xs : List V} {us : List Value} (r : Vals xs us) : xs.length = us.length := Paired.length r
theorem Vals.get : ∀ {xs : List V} {us : List Value} {i : Nat} {x : V}, Vals xs us → xs[i]? = some x → ∃ u, us[i]? = some u ∧ RelV x u
  | _, _, _, _, .nil, e => by simp at e
  | _, _, 0, _, .cons r _, e => by simp at e; subst e; exact ⟨_, rfl, r⟩
  | _, _, i + 1, x, .cons _ t, e => by
    obtain ⟨u, h1, h2⟩ := Vals.get (i := i) (x := x) t (by simpa using e)
    exact ⟨u, by simpa using h1, h2⟩
theorem Vals.set {x : V} {u : Value} (r : RelV x u) : ∀ {xs : List V} {us : List Value} (i : Nat), Vals xs us → Vals (xs.set i x) (us.set i u)
  | _, _, _, .nil => .nil
  | _, _, 0, .cons _ t => .cons r t
  | _, _, i + 1, .cons q t => .cons q (Vals.set r i t)
theorem Vals.append : ∀ {xs ys : List V} {us ws : List Value}, Vals xs us → Vals ys ws → Vals (xs ++ ys) (us ++ ws)
  | _, _, _, _, .nil, s => s
  | _, _, _, _, .cons r t, s => .cons r (Vals.append t s)
theorem Vals.take : ∀ {xs : List V} {us : List Value} (n : Nat), Vals xs us → Vals (xs.take n) (us.take n)
  | _, _, 0, _ => .nil
  | _, _, _ + 1, .nil => .nil
  | _, _, n + 1, .cons r t => .cons r (Vals.take n t)
theorem Vals.drop : ∀ {xs : List V} {us : List Value} (n : Nat), Vals xs us → Vals (xs.drop n) (us.drop n)
  | _, _, 0, r => r
  | _, _, _ + 1, .nil => .nil
  | _, _, n + 1, .cons _ t => Vals.drop n t
theorem Vals.none_of : ∀ {xs : List V} {us : List Value} {i : Nat}, Vals xs us → xs[i]? = none → us[i]? = none := fun {xs us i} r e => by
  have h1 := r.length
  have h2 : xs.length ≤ i := List.getElem?_eq_none_iff.mp e
  exact List.getElem?_eq_none_iff.mpr (by omega)

def RelO : Option V → Option Value → Prop
  | some v, some u => RelV v u
  | none, none => True
  | _, _ => False
def KV {κ : Type} : List (κ × V) → List (κ × Value) → Prop := Paired fun (p : κ × V) (q : κ × Value) => p.1 = q.1 ∧ RelV p.2 q.2

/-- a key of a dict (00_mix): an int or a text -/
def kV : Key → V
  | .inl i => .int i
  | .inr x => .str x

/-- what stands at a tracked address -/
inductive HO where
  /-- a list -/
  | lst (xs : List V)
  /-- a tuple (never changes) -/
  | tup (xs : List V)
  /-- a dict whose keys are ints and texts; one whose keys are tuples of ints and texts (the empty one is both) -/
  | dK (kvs : List (Key × V)) | dT (kvs : List (List Key × V))
  /-- a set of ints: its members, its size -/
  | set (S : Int → Bool) (n : Nat)
  /-- an instance of the class at C, its dict at dx, its attributes -/
  | ins (C dx : Addr) (fs : List (Str × V))
  /-- the dict of the instance at x -/
  | own (x : Addr)
  /-- the dict of an exception -/
  | xd (fs : List (Str × V))
  /-- a bound method, f of x -/
  | met (f x : Addr)
  /-- a range object lo, lo + 1, .. below hi -/
  | rng (lo hi : Int)
  /-- a thing that is known to the object (the script; a dict while a loop walks it): read, never written while it is so -/
  | frz (o : Obj) (u : HO)
  /-- a code object's table -/
  | tbl (ps : Array Value)
  /-- any other thing, by what is true of its one object (a def of one's own: SetO a S n := HO.ext fun h => ..) -/
  | ext (φ : Heap → Prop)

abbrev Hp := Addr → Option HO
def upd (H : Hp) (a : Addr) (o : HO) : Hp := fun b => if b = a then some o else H b
theorem upd_same {H : Hp} {a : Addr} {o : HO} : upd H a o a = some o := by unfold upd; rw [if_pos rfl]
theorem upd_ne {H : Hp} {a b : Addr} {o : HO} (h : b ≠ a) : upd H a o b = H b := by unfold upd; rw [if_neg h]
theorem upd_upd {H : Hp} {a : Addr} {o u : HO} : upd (upd H a o) a u = upd H a u := by
  funext b; unfold upd; split <;> rfl
/-- two objects of different content stand apart -/
theorem ne_of {H : Hp} {a b : Addr} {o u : HO} (h : H a = some o) (h' : H b = some u) (d : o ≠ u) : a ≠ b := by
  intro e; subst e; rw [h] at h'; exact d (Option.some.inj h')
theorem ne_of_none {H : Hp} {a b : Addr} {o : HO} (h : H a = some o) (h' : H b = none) : a ≠ b := by
  intro e; subst e; rw [h] at h'; cases h'

section
variable (P : Program) (w : World)
def ObjOk (H : Hp) (h : Heap) (a : Addr) : HO → Prop
  | .lst xs => xs.length ≤ sizeLine ∧ ∃ (its : List Value) (n : Nat), Vals xs its ∧ h.get? a = some { cls := .type "list", data := .seq its.toArray n }
  | .tup xs => xs.length ≤ sizeLine ∧ ∃ its : List Value, Vals xs its ∧ IsTup h a its.toArray
  | .dK kvs => kvs.length ≤ sizeLine ∧ (a == sysModules) = false ∧ ∃ vs, KV kvs vs ∧ h.DictOf (mixKind P w) a vs
  | .dT kvs => kvs.length ≤ sizeLine ∧ (a == sysModules) = false ∧ ∃ xs : List (List Key × Addr × Value),
      Paired (fun (p : List Key × V) (q : List Key × Addr × Value) => p.1 = q.1 ∧ H q.2.1 = some (.tup (p.1.map kV)) ∧ RelV p.2 q.2.2) kvs xs ∧
      ∃ o es ep, h.get? a = some o ∧ o.ExactDict ∧ o.data = .dict es ep ∧ es.toList = xs.map (entryOfKey (tupleKind (mixKind P w))) ∧ (xs.map (·.1)).Nodup
  | .set S n => h.SetOf (intKind P w) a S n
  | .ins C dx fs => H dx = some (.own a) ∧ fs.length ≤ 1000 ∧ dx ≠ a ∧ h.get? a = some (PySem.W.instObj C dx) ∧
      ∃ mA, h.Ns1 dx mA ∧ (∀ f, RelO (fs.lookup f) (mA f)) ∧ PySem.Within mA (fs.map (·.1))
  | .own _ => ∃ o, h.get? a = some o
  | .xd fs => ∃ mA, h.Ns1 a mA ∧ ∀ f, RelO (fs.lookup f) (mA f)
  | .rng lo hi => ∃ t u v, h.get? a = some { cls := .type "range", data := .fields #[.int lo t, .int hi u, .int 1 v] }
  | .frz o u => h.get? a = some o ∧ ObjOk H h a u
  | .tbl ps => h.get? a = some { cls := .none, data := .fields ps }
  | .met f x => h.get? a = some (PySem.W.methodObj (.ref f) (.ref x))
  | .ext φ => φ h ∧ (∃ o, h.get? a = some o) ∧ ∀ h1 h2 : Heap, φ h1 → (∀ o, h1.get? a = some o → h2.get? a = some o) → φ h2
/-- the abstract heap is held -/
def HOk (H : Hp) (h : Heap) : Prop := ∀ a o, H a = some o → ObjOk P w H h a o
end

section
variable {P : Program} {w : World} {H H' : Hp} {h h' : Heap} {a : Addr} {o : HO}
theorem ObjOk.lt (x : ObjOk P w H h a o) : a < h.objs.size := by
  cases o with
  | lst xs => obtain ⟨_, _, _, _, e⟩ := x; exact Heap.lt_size e
  | tup xs => obtain ⟨_, _, _, p⟩ := x; exact p.lt
  | dK kvs => obtain ⟨_, _, _, _, o, _, _, e, _⟩ := x; exact Heap.lt_size e
  | dT kvs => obtain ⟨_, _, _, _, o, _, _, e, _⟩ := x; exact Heap.lt_size e
  | set S n => obtain ⟨o, _, _, _, e, _⟩ := x; exact Heap.lt_size e
  | ins C dx fs => obtain ⟨_, _, _, e, _⟩ := x; exact Heap.lt_size e
  | own y => obtain ⟨_, e⟩ := x; exact Heap.lt_size e
  | xd fs => obtain ⟨_, ⟨_, _, _, e, _⟩, _⟩ := x; exact Heap.lt_size e
  | rng lo hi => obtain ⟨_, _, _, e⟩ := x; exact Heap.lt_size e
  | frz ob u => obtain ⟨e, _⟩ := x; exact Heap.lt_size e
  | tbl ps => exact Heap.lt_size (show h.get? a = some _ from x)
  | met f y => exact Heap.lt_size (show h.get? a = some _ from x)
  | ext φ => obtain ⟨_, ⟨_, e⟩, _⟩ := x; exact Heap.lt_size e
theorem Paired.mapP {α β : Type} {F G : α → β → Prop} : ∀ {l₁ : List α} {l₂ : List β}, Paired F l₁ l₂ → (∀ a b, F a b → G a b) → Paired G l₁ l₂
  | _, _, .nil, _ => .nil
  | _, _, .cons r t, f => .cons (f _ _ r) (Paired.mapP t f)
theorem Paired.imp' {α β : Type} {F G : α → β → Prop} (f : ∀ a b, F a b → G a b) {l₁ : List α} {l₂ : List β} (r : Paired F l₁ l₂) : Paired G l₁ l₂ := Paired.mapP r f
/-- what an object's description leans on: its own object, its own dict, the tuples -/
theorem ObjOk.stay (x : ObjOk P w H h a o) (k : ∀ b u, (b = a ∨ H b = some (.own a)) → h.get? b = some u → h'.get? b = some u)
    (ho : ∀ b, H b = some (.own a) → H' b = some (.own a)) (ht : ∀ b xs, H b = some (.tup xs) → H' b = some (.tup xs)) : ObjOk P w H' h' a o := by
  induction o with
  | lst xs => obtain ⟨z, its, n, r, e⟩ := x; exact ⟨z, its, n, r, k _ _ (.inl rfl) e⟩
  | tup xs => obtain ⟨z, its, r, ob, e, c⟩ := x; exact ⟨z, its, r, ob, k _ _ (.inl rfl) e, c⟩
  | dK kvs => obtain ⟨z, y, vs, r, ob, es, ep, e, c⟩ := x; exact ⟨z, y, vs, r, ob, es, ep, k _ _ (.inl rfl) e, c⟩
  | dT kvs =>
    obtain ⟨z, y, xs, r, ob, es, ep, e, c⟩ := x
    exact ⟨z, y, xs, Paired.mapP r fun p q z => ⟨z.1, ht _ _ z.2.1, z.2.2⟩, ob, es, ep, k _ _ (.inl rfl) e, c⟩
  | set S n => obtain ⟨ob, es, ep, t, e, c⟩ := x; exact ⟨ob, es, ep, t, k _ _ (.inl rfl) e, c⟩
  | ins C dx fs =>
    obtain ⟨d, z, ne, e, mA, ⟨od, es, ep, e2, c⟩, r⟩ := x
    exact ⟨ho _ d, z, ne, k _ _ (.inl rfl) e, mA, ⟨od, es, ep, k _ _ (.inr d) e2, c⟩, r⟩
  | own y => obtain ⟨ob, e⟩ := x; exact ⟨ob, k _ _ (.inl rfl) e⟩
  | xd fs => obtain ⟨mA, ⟨od, es, ep, e, c⟩, r⟩ := x; exact ⟨mA, ⟨od, es, ep, k _ _ (.inl rfl) e, c⟩, r⟩
  | rng lo hi => obtain ⟨t, u, v, e⟩ := x; exact ⟨t, u, v, k _ _ (.inl rfl) e⟩
  | frz ob u ih => obtain ⟨e, q⟩ := x; exact ⟨k _ _ (.inl rfl) e, ih q⟩
  | tbl ps =>
    have e : h.get? a = some { cls := .none, data := .fields ps } := x
    show h'.get? a = some { cls := .none, data := .fields ps }
    exact k a _ (.inl rfl) e
  | met f y =>
    have e : h.get? a = some (PySem.W.methodObj (.ref f) (.ref y)) := x
    show h'.get? a = some (PySem.W.methodObj (.ref f) (.ref y))
    exact k a _ (.inl rfl) e
  | ext φ => obtain ⟨p, ⟨o, e⟩, st⟩ := x; exact ⟨st _ _ p fun o q => k _ _ (.inl rfl) q, ⟨o, k _ _ (.inl rfl) e⟩, st⟩
theorem HOk.lt (x : HOk P w H h) (e : H a = some o) : a < h.objs.size := (x a o e).lt
theorem HOk.fresh (x : HOk P w H h) (e : h.objs.size ≤ a) : H a = none := by
  cases q : H a with
  | none => rfl
  | some u => exact absurd (Nat.lt_of_lt_of_le (x.lt q) e) (Nat.lt_irrefl _)
/-- every object of the heap is kept -/
theorem HOk.kept (x : HOk P w H h) (k : ∀ b u, h.get? b = some u → h'.get? b = some u) : HOk P w H h' := fun a o e =>
  (x a o e).stay (fun b u _ q => k b u q) (fun _ q => q) fun _ _ q => q
/-- a new object is laid and tracked -/
theorem HOk.laid (x : HOk P w H h) (k : ∀ b u, h.get? b = some u → h'.get? b = some u) (hp : h.objs.size ≤ a) (new : ObjOk P w (upd H a o) h' a o) : HOk P w (upd H a o) h' := fun b u e => by
  have hn := x.fresh hp
  by_cases hb : b = a
  · subst hb; rw [upd_same] at e; cases e; exact new
  · rw [upd_ne hb] at e
    exact (x b u e).stay (fun c v _ q => k c v q) (fun c q => by rw [upd_ne (ne_of_none q hn)]; exact q) fun c xs q => by rw [upd_ne (ne_of_none q hn)]; exact q
end

/-- what may be read as u: it is u, or a known u -/
def Rd (H : Hp) (a : Addr) (u : HO) : Prop := H a = some u ∨ ∃ o, H a = some (.frz o u)
theorem Rd.of {H : Hp} {a : Addr} {u : HO} (h : H a = some u) : Rd H a u := .inl h
theorem Rd.ok {P : Program} {w : World} {H : Hp} {h : Heap} {a : Addr} {u : HO} (r : Rd H a u) (x : HOk P w H h) : ObjOk P w H h a u := by
  rcases r with r | ⟨o, r⟩
  · exact x a u r
  · obtain ⟨_, q⟩ := x a _ r
    exact q
/-- what may be written -/
def Mut : Option HO → Prop
  | some (.lst _) => True
  | some (.dK _) => True
  | some (.dT _) => True
  | some (.set _ _) => True
  | some (.ins _ _ _) => True
  | some (.ext _) => True
  | _ => False
section
variable {P : Program} {w : World} {H : Hp} {h h' : Heap} {x e : Addr} {o' : HO}
/-- the object at e is changed: x itself, or the dict of the instance x -/
theorem HOk.write (ok : HOk P w H h) (mu : Mut (H x)) (he : e = x ∨ H e = some (.own x)) (k : ∀ b u, b ≠ e → h.get? b = some u → h'.get? b = some u) (heo : ∃ u, h'.get? e = some u)
    (new : ObjOk P w (upd H x o') h' x o') : HOk P w (upd H x o') h' := fun b u q => by
  have nown : ∀ c y, H c = some (.own y) → c ≠ x := fun c y r z => by subst z; rw [r] at mu; exact mu
  have ntup : ∀ c xs, H c = some (.tup xs) → c ≠ x := fun c xs r z => by subst z; rw [r] at mu; exact mu
  by_cases hb : b = x
  · subst hb; rw [upd_same] at q; cases q; exact new
  · rw [upd_ne hb] at q
    by_cases hbe : b = e
    · have q' : H b = some (.own x) := by
        rcases he with z | z
        · exact absurd (hbe.trans z) hb
        · rw [hbe]; exact z
      rw [q] at q'; cases q'
      obtain ⟨v, hv⟩ := heo
      exact ⟨v, by rw [hbe]; exact hv⟩
    · refine (ok b u q).stay (fun c v hc r => k c v ?_ r) (fun c r => by rw [upd_ne (nown c b r)]; exact r) fun c xs r => by rw [upd_ne (ntup c xs r)]; exact r
      rcases hc with rfl | hc
      · exact hbe
      · rintro rfl
        rcases he with z | z
        · exact nown c b hc z
        · rw [hc] at z; cases z; exact hb rfl
end

/-! ### kept unless tracked; of the frames at fs (the callers') the slots may change (an exception that passes writes there); of the records at ex (iterators) nothing is said -/
structure Un (fs ex : List Addr) (H H' : Hp) (h h' : Heap) : Prop where
  keep : ∀ b o, h.get? b = some o → H b = none → b ∉ fs → b ∉ ex → h'.get? b = some o
  slot : ∀ b o, h.get? b = some o → H b = none → b ∈ fs → b ∉ ex → ∃ sl, h'.get? b = some { o with slots := sl }
  free : ∀ b o, h.get? b = some o → H b = none → b ∉ ex → H' b = none
  there : ∀ b o, h.get? b = some o → b ∉ ex → ∃ o', h'.get? b = some o'
  tups : ∀ b xs, H b = some (.tup xs) → H' b = some (.tup xs)
  frzs : ∀ b o u, H b = some (.frz o u) → H' b = some (.frz o u)
  tbls : ∀ b ps, H b = some (.tbl ps) → ∃ more, H' b = some (.tbl (ps ++ more))
section
variable {fs fs' ex ex' : List Addr} {H H1 H2 : Hp} {h h1 h2 h' : Heap} {a x e : Addr} {o : HO}
theorem Un.any (u : Un fs ex H H1 h h1) {b : Addr} {ob : Obj} (q : h.get? b = some ob) (n : H b = none) (hx : b ∉ ex) : ∃ sl, h1.get? b = some { ob with slots := sl } := by
  by_cases hb : b ∈ fs
  · exact u.slot b ob q n hb hx
  · exact ⟨ob.slots, u.keep b ob q n hb hx⟩
theorem Un.trans (a : Un fs ex H H1 h h1) (b : Un fs ex H1 H2 h1 h2) : Un fs ex H H2 h h2 where
  keep := fun c ob q n hc hx => b.keep c ob (a.keep c ob q n hc hx) (a.free c ob q n hx) hc hx
  slot := fun c ob q n hc hx => by
    obtain ⟨sl, e1⟩ := a.slot c ob q n hc hx
    obtain ⟨sl', e2⟩ := b.slot c _ e1 (a.free c ob q n hx) hc hx
    exact ⟨sl', e2⟩
  free := fun c ob q n hx => by
    obtain ⟨o', e1⟩ := a.there c ob q hx
    exact b.free c o' e1 (a.free c ob q n hx) hx
  there := fun c ob q hx => by
    obtain ⟨o', e1⟩ := a.there c ob q hx
    exact b.there c o' e1 hx
  tups := fun c xs q => b.tups c xs (a.tups c xs q)
  frzs := fun c ob xs q => b.frzs c ob xs (a.frzs c ob xs q)
  tbls := fun c ps q => by
    obtain ⟨m1, e1⟩ := a.tbls c ps q
    obtain ⟨m2, e2⟩ := b.tbls c _ e1
    exact ⟨m1 ++ m2, by rw [e2, Array.append_assoc]⟩
theorem Un.kept (k : ∀ b u, h.get? b = some u → h'.get? b = some u) : Un fs ex H H h h' :=
  ⟨fun b ob q _ _ _ => k b ob q, fun b ob q _ _ _ => ⟨ob.slots, k b ob q⟩, fun _ _ _ n _ => n, fun b ob q _ => ⟨ob, k b ob q⟩, fun _ _ q => q, fun _ _ _ q => q, fun _ ps q => ⟨#[], by rw [q]; simp⟩⟩
theorem Un.refl : Un fs ex H H h h := Un.kept fun _ _ q => q
theorem Un.laid (k : ∀ b u, h.get? b = some u → h'.get? b = some u) (hp : h.objs.size ≤ a) (hn : H a = none) : Un fs ex H (upd H a o) h h' where
  keep := fun b u q _ _ _ => k b u q
  slot := fun b u q _ _ _ => ⟨u.slots, k b u q⟩
  free := fun b u q n _ => by rw [upd_ne (Nat.ne_of_lt (Nat.lt_of_lt_of_le (Heap.lt_size q) hp))]; exact n
  there := fun b u q _ => ⟨u, k b u q⟩
  tups := fun b xs q => by rw [upd_ne (ne_of_none q hn)]; exact q
  frzs := fun b u xs q => by rw [upd_ne (ne_of_none q hn)]; exact q
  tbls := fun b ps q => ⟨#[], by rw [upd_ne (ne_of_none q hn), q]; simp⟩
theorem Un.write (mu : Mut (H x)) (he : e = x ∨ H e = some (.own x)) (k : ∀ b u, b ≠ e → h.get? b = some u → h'.get? b = some u) (heo : ∃ u, h'.get? e = some u) : Un fs ex H (upd H x o) h h' := by
  have hx : ∀ b, H b = none → b ≠ x := fun b n z => by subst z; rw [n] at mu; exact mu
  have hb : ∀ b, H b = none → b ≠ e := fun b n z => by
    subst z
    rcases he with r | r
    · exact hx b n r
    · rw [n] at r; cases r
  have hm : ∀ b u, H b = some u → ¬ Mut (some u) → b ≠ x := fun b u q nm z => by subst z; rw [q] at mu; exact nm mu
  refine ⟨fun b u q n _ _ => k b u (hb b n) q, fun b u q n _ _ => ⟨u.slots, k b u (hb b n) q⟩, fun b u q n _ => by rw [upd_ne (hx b n)]; exact n, fun b u q _ => ?_,
    fun b xs q => by rw [upd_ne (hm b _ q fun z => z)]; exact q, fun b u xs q => by rw [upd_ne (hm b _ q fun z => z)]; exact q, fun b ps q => ⟨#[], by rw [upd_ne (hm b _ q fun z => z), q]; simp⟩⟩
  by_cases hbe : b = e
  · subst hbe; exact heo
  · exact ⟨u, k b u hbe q⟩
theorem Un.mono (u : Un fs ex H H1 h h1) (hs : ∀ b ∈ fs, b ∈ fs') (hx : ∀ b ∈ ex, b ∈ ex') : Un fs' ex' H H1 h h1 :=
  ⟨fun b ob q n hb he => u.keep b ob q n (fun z => hb (hs b z)) fun z => he (hx b z), fun _ _ q n _ he => u.any q n fun z => he (hx _ z), fun b ob q n he => u.free b ob q n fun z => he (hx b z), fun b ob q he => u.there b ob q fun z => he (hx b z), u.tups, u.frzs, u.tbls⟩
end

/-! ### the heap without what is tracked -/
def trk (h : Heap) (H : Hp) : List Addr := (List.range h.objs.size).filter fun a => (H a).isSome
def hidT (h : Heap) (H : Hp) : Heap := PySem.W.hideAll h (trk h H)
theorem hidT_size (h : Heap) (H : Hp) : (hidT h H).objs.size = h.objs.size := PySem.W.hideAll_size _ _
theorem hidT_get {h : Heap} {H : Hp} {b : Addr} {o : Obj} (e : h.get? b = some o) (n : H b = none) : (hidT h H).get? b = some o :=
  PySem.W.hideAll_get _ e fun hm => by
    have q : (H b).isSome = true := (List.mem_filter.mp hm).2
    rw [n] at q; simp at q
theorem of_hidT {h : Heap} {H : Hp} {b : Addr} {o : Obj} (e : (hidT h H).get? b = some o) : h.get? b = some o ∧ H b = none := by
  have e' : h.get? b = some o := PySem.W.of_hideAll (trk h H) e
  refine ⟨e', ?_⟩
  cases q : H b with
  | none => rfl
  | some x =>
    have hm : b ∈ trk h H := List.mem_filter.mpr ⟨List.mem_range.mpr (Heap.lt_size e'), by simp [q]⟩
    have z : (hidT h H).get? b = none := PySem.W.hideAll_none (trk h H) hm
    rw [z] at e; cases e

/-! ### OpenK's ledger, filled with every new object but one -/
def allNews (g h : Heap) (L : Addr) : List (Addr × Obj) := (List.range h.objs.size).filterMap fun a => if a = L ∨ (g.get? a).isSome = true then none else (h.get? a).map fun o => (a, o)
theorem mem_allNews {g h : Heap} {L a : Addr} {o : Obj} (h1 : a ≠ L) (h2 : g.get? a = none) (h3 : h.get? a = some o) : (a, o) ∈ allNews g h L :=
  List.mem_filterMap.mpr ⟨a, List.mem_range.mpr (Heap.lt_size h3), by simp [h1, h2, h3]⟩
theorem of_mem_allNews {g h : Heap} {L : Addr} {p : Addr × Obj} (hp : p ∈ allNews g h L) : p.1 ≠ L ∧ g.get? p.1 = none ∧ h.get? p.1 = some p.2 := by
  obtain ⟨b, _, e⟩ := List.mem_filterMap.mp hp
  split at e
  · cases e
  · rename_i hn
    cases q : h.get? b with
    | none => rw [q] at e; simp at e
    | some u =>
      rw [q] at e
      simp only [Option.map_some, Option.some.injEq] at e
      subst e
      refine ⟨fun z => hn (.inl z), ?_, q⟩
      show g.get? b = none
      cases r : g.get? b with
      | none => rfl
      | some v => exact (hn (.inr (by simp [r]))).elim
def rest (g h : Heap) (L d : Addr) : List (Addr × Obj) := (allNews g h L).filter fun p => decide (p.1 ≠ d)
theorem rest_ne {g h : Heap} {L d : Addr} : ∀ p ∈ rest g h L d, p.1 ≠ d := fun p hp => of_decide_eq_true (List.mem_filter.mp hp).2
theorem mem_rest {g h : Heap} {L d a : Addr} {o : Obj} (h1 : a ≠ L) (h2 : g.get? a = none) (h3 : h.get? a = some o) (h4 : a ≠ d) : (a, o) ∈ rest g h L d :=
  List.mem_filter.mpr ⟨mem_allNews h1 h2 h3, decide_eq_true h4⟩
theorem news_all {g h : Heap} {L : Addr} : News g L h (allNews g h L) := fun p hp => let ⟨a, b, c⟩ := of_mem_allNews hp; ⟨c, a, b⟩
theorem news_at {g h : Heap} {L d : Addr} {o : Obj} (h1 : d ≠ L) (h2 : g.get? d = none) (h3 : h.get? d = some o) : News g L h ((d, o) :: rest g h L d) := fun p hp => by
  rcases List.mem_cons.mp hp with rfl | hp
  · exact ⟨h3, h1, h2⟩
  · exact news_all p (List.mem_filter.mp hp).1
/-- behind a rule that changed d alone: all else but the frame is kept -/
theorem kept_of_news {g h h' : Heap} {L d : Addr} {m : Str → Option Value} (k : ∀ b o, g.get? b = some o → h.get? b = some o) (F : Fr g L h' m) (N : News g L h' (rest g h L d)) :
    ∀ b o, b ≠ L → b ≠ d → h.get? b = some o → h'.get? b = some o := fun b o h1 h2 e => by
  cases q : g.get? b with
  | some u =>
    have := k b u q
    rw [e] at this; cases this
    exact F.keep b _ q
  | none => exact (N (b, o) (mem_rest h1 q e h2)).1
end L2

namespace L2
open PySem PySem.Spec PyProof.Rows

/-- the module's facts, over the base: the heap at the law's entry without what is tracked there -/
structure Mod (K : PySem.W.Frag) (mg : Str → Option Value) (base : Heap) : Prop where
  kin : K.In base
  glob : base.Ns mainGlobals mg
  blt : ∃ mb, base.Ns builtinsNs mb ∧ ∀ x : Str, x ≠ "__name__" → mb x = bootBuiltins x
  nolimit : base.NoLimit

/-- the context: a def's body (or a comprehension's block) running. base: fixed through the whole law; s₀, H₀: the entry; outer: the frames whose slots others may change (a def's callers); stack: all frames that run;
   ex: iterators that were made ahead of the entry and are walked here (a comprehension's); fn: the names whose cells were made at the entry (a def: all; a comprehension's block: its own); calm: not within an except suite; pn: pins that every state bears; xe: what is wanted of an exception that leaves the code -/
structure Cx where
  prog : Program
  w : World
  K : PySem.W.Frag
  mg : Str → Option Value
  base : Heap
  A : Around
  N : List Str
  s₀ : Shared
  H₀ : Hp
  env : Env
  outer : List Env
  stack : List Env
  ex : List Addr
  fn : Str → Bool
  calm : Bool
  pn : List (Addr × Obj)
  xe : Value → Shared → Prop
/-- the callers' frames -/
def frs (l : List Env) : List Addr := l.filterMap (·.frame)
abbrev Cx.fs (X : Cx) : List Addr := frs X.outer

def Vis (sc : Scope) (x : Str) : Prop := sc.names.lookup x = some .local ∨ sc.names.lookup x = some .cell ∨ sc.names.lookup x = some .free
def Loc (sc : Scope) (x : Str) : Prop := sc.names.lookup x = some .local ∨ sc.names.lookup x = some .cell
def Look (env : Env) (h : Heap) (m : Str → Option Value) (x : Str) (u : Value) : Prop :=
  (env.kindOf x = some .local ∧ m x = some u) ∨ ((env.kindOf x = some .cell ∨ env.kindOf x = some .free) ∧ ∃ c, env.cells.lookup x = some c ∧ h.IsCell c (some u))

structure Cx.Ok (X : Cx) : Prop where
  mod : Mod X.K X.mg X.base
  kind : X.env.scope.kind = .function
  glob : X.env.globals = mainGlobals
  blt : X.env.builtins = builtinsNs
  above : X.s₀.heap.objs.size ≤ X.env.locals
  inj : ∀ x y c, X.env.cells.lookup x = some c → X.env.cells.lookup y = some c → x = y
  has : ∀ x, (X.env.kindOf x = some .cell ∨ X.env.kindOf x = some .free) → ∃ c, X.env.cells.lookup x = some c
  cab : ∀ x c, X.fn x = true → X.env.cells.lookup x = some c → X.s₀.heap.objs.size ≤ c
  hd : X.calm = true → X.A.handled = none
  frames : X.A.frames = some X.stack
  stk : X.stack = X.outer ∨ (X.stack = X.env :: X.outer ∧ X.env.frame = some X.env.locals)
  exf : ∀ b ∈ X.ex, b ≠ X.env.locals ∧ ∀ x c, X.env.cells.lookup x = some c → c ≠ b
  bs : ∀ b o, X.base.get? b = some o → X.s₀.heap.get? b = some o ∧ X.H₀ b = none
  bsz : X.base.objs.size ≤ X.s₀.heap.objs.size
  noex : ∀ b o, X.base.get? b = some o → b ∉ X.ex
  exfs : ∀ b ∈ X.ex, b ∉ X.fs
  funs : X.s₀.heap.FunFrames X.base X.outer
  frf : ∀ b ∈ X.fs, X.H₀ b = none

structure Inv (X : Cx) (pins : List (Addr × Obj)) (σ : List (Option V)) (H : Hp) (s : Shared) : Prop where
  ok : X.Ok
  os : s.os = X.s₀.os
  bare : AllBare s.gens
  base : Un X.fs X.ex X.H₀ H X.s₀.heap s.heap
  loc : ∃ m, s.heap.Ns X.env.locals m ∧ ∀ (i : Nat) (x : Str) (v : V), X.N[i]? = some x → σ[i]? = some (some v) → Vis X.env.scope x → ∃ u, RelV v u ∧ Look X.env s.heap m x u
  cell : ∀ x c, X.env.cells.lookup x = some c → ∃ v, s.heap.IsCell c v
  free : H X.env.locals = none
  freeC : ∀ x c, X.env.cells.lookup x = some c → H c = none
  pin : ∀ p ∈ X.pn ++ pins, s.heap.get? p.1 = some p.2 ∧ H p.1 = none ∧ p.1 ≠ X.env.locals ∧ p.1 ∉ X.fs ∧ ∀ v, p.2.data ≠ .cell v
  hok : HOk X.prog X.w H s.heap
  len : σ.length = X.N.length

section
variable {X : Cx} {pins : List (Addr × Obj)} {σ : List (Option V)} {H H' : Hp} {s : Shared} {h' : Heap}

theorem Cx.Ok.nofr (ok : X.Ok) {b : Addr} {o : Obj} (e : X.base.get? b = some o) : b ∉ X.fs := fun hb => by
  have := (ok.funs.mem hb).1
  rw [e] at this; cases this
theorem Inv.bs (I : Inv X pins σ H s) : ∀ b o, X.base.get? b = some o → s.heap.get? b = some o ∧ H b = none := fun b o e =>
  ⟨I.base.keep b o (I.ok.bs b o e).1 (I.ok.bs b o e).2 (I.ok.nofr e) (I.ok.noex b o e), I.base.free b o (I.ok.bs b o e).1 (I.ok.bs b o e).2 (I.ok.noex b o e)⟩
theorem Inv.bk (I : Inv X pins σ H s) : ∀ b o, X.base.get? b = some o → s.heap.get? b = some o := fun b o e => (I.bs b o e).1
theorem Inv.mod (I : Inv X pins σ H s) : Mod X.K X.mg X.base := I.ok.mod
theorem Inv.kIn (I : Inv X pins σ H s) : X.K.In s.heap := I.ok.mod.kin.keeps I.bk
theorem Inv.nolimit (I : Inv X pins σ H s) : s.heap.NoLimit := I.ok.mod.nolimit.keeps I.bk
/-- the frame over the base: for OpenK's rules (K.In X.base is I.mod.kin) -/
theorem Inv.fr (I : Inv X pins σ H s) : ∃ m, Fr X.base X.env.locals s.heap m :=
  let ⟨m, hn, _⟩ := I.loc
  ⟨m, hn, I.bk, Nat.le_trans I.ok.bsz I.ok.above⟩
theorem Inv.lt (I : Inv X pins σ H s) : X.env.locals < s.heap.objs.size := let ⟨_, hn, _⟩ := I.loc; hn.lt
theorem Inv.sz (I : Inv X pins σ H s) : X.s₀.heap.objs.size ≤ s.heap.objs.size := Nat.le_trans I.ok.above (Nat.le_of_lt I.lt)
theorem Inv.nofs (I : Inv X pins σ H s) {a : Addr} (h : s.heap.objs.size ≤ a) : a ∉ X.fs := fun hb => by
  obtain ⟨_, o, ho, _⟩ := I.ok.funs.mem hb
  exact absurd (Nat.lt_of_lt_of_le (Heap.lt_size ho) (Nat.le_trans I.sz h)) (Nat.lt_irrefl _)
theorem Inv.cne (I : Inv X pins σ H s) : ∀ x c, X.env.cells.lookup x = some c → c ≠ X.env.locals := fun x c e z => by
  obtain ⟨v, o, ho, hd⟩ := I.cell x c e
  obtain ⟨m, ⟨o', es, ep, ho', hd', _⟩, _⟩ := I.loc
  rw [z, ho'] at ho; cases ho; rw [hd'] at hd; cases hd
theorem Inv.funs (I : Inv X pins σ H s) : s.heap.FunFrames X.base X.outer := by
  have all : ∀ (l : List Env), (∀ b ∈ frs l, b ∈ X.fs) → X.s₀.heap.FunFrames X.base l → s.heap.FunFrames X.base l := by
    intro l
    induction l with
    | nil => intro _ _; trivial
    | cons env r ih =>
      intro hs hl
      obtain ⟨hk, ⟨L, o, hf, hn, ho, hd⟩, hr⟩ := hl
      have hL : L ∈ X.fs := hs L (by unfold frs; rw [List.filterMap_cons, hf]; exact List.mem_cons_self)
      obtain ⟨sl, e⟩ := I.base.slot L o ho (I.ok.frf L hL) hL fun z => I.ok.exfs L z hL
      exact ⟨hk, ⟨L, _, hf, hn, e, hd⟩, ih (fun b hb => hs b (by unfold frs; rw [List.filterMap_cons, hf]; exact List.mem_cons_of_mem _ hb)) hr⟩
  exact all X.outer (fun _ hb => hb) I.ok.funs

/-- the frames that run, for a call -/
theorem Inv.stack (I : Inv X pins σ H s) : s.heap.FunFrames X.base X.stack := by
  rcases I.ok.stk with e | ⟨e, hf⟩
  · rw [e]; exact I.funs
  · rw [e]
    obtain ⟨m, hn, _⟩ := I.loc
    refine .cons (by rw [I.ok.kind]; decide) hf hn ?_ I.funs
    exact Heap.get?_none_of_le (Nat.le_trans I.ok.bsz I.ok.above)
theorem Inv.stkSub (I : Inv X pins σ H s) : ∀ b ∈ frs X.stack, b ∈ X.env.locals :: X.fs := fun b hb => by
  rcases I.ok.stk with e | ⟨e, hf⟩
  · rw [e] at hb; exact List.mem_cons_of_mem _ hb
  · rw [e] at hb
    unfold frs at hb
    rw [List.filterMap_cons, hf] at hb
    exact hb
theorem Inv.stkFree (I : Inv X pins σ H s) : ∀ b ∈ frs X.stack, H b = none := fun b hb => by
  rcases List.mem_cons.mp (I.stkSub b hb) with e | hb
  · rw [e]; exact I.free
  · obtain ⟨_, o, ho, _⟩ := I.ok.funs.mem hb
    exact I.base.free b o ho (I.ok.frf b hb) fun z => I.ok.exfs b z hb

/-- THE STEP: the untracked objects but the frame and the records at ch are kept (the callers' frames up to slots), the frame's map is kept, the new abstract heap is held -/
theorem Inv.step {g' : Array GenState} {t' : Nat} {d' : Drawn} {ch : List Addr} (I : Inv X pins σ H s)
    (hch : ∀ b ∈ ch, (b ∈ X.ex ∨ X.s₀.heap.objs.size ≤ b) ∧ b ≠ X.env.locals ∧ (∀ x c, X.env.cells.lookup x = some c → c ≠ b) ∧ ∀ p ∈ X.pn ++ pins, p.1 ≠ b)
    (keep : ∀ b o, b ≠ X.env.locals → b ∉ X.fs → b ∉ ch → s.heap.get? b = some o → H b = none → h'.get? b = some o)
    (slot : ∀ b o, b ≠ X.env.locals → b ∈ X.fs → b ∉ ch → s.heap.get? b = some o → H b = none → ∃ sl, h'.get? b = some { o with slots := sl }) (free : ∀ b o, b ∉ ch → s.heap.get? b = some o → H b = none → H' b = none)
    (there : ∀ b o, b ∉ ch → s.heap.get? b = some o → ∃ o', h'.get? b = some o')
    (tups : ∀ b xs, H b = some (.tup xs) → H' b = some (.tup xs)) (frzs : ∀ b o u, H b = some (.frz o u) → H' b = some (.frz o u)) (tbls : ∀ b ps, H b = some (.tbl ps) → ∃ more, H' b = some (.tbl (ps ++ more)))
    (ns : ∀ m, s.heap.Ns X.env.locals m → h'.Ns X.env.locals m) (hok : HOk X.prog X.w H' h') (hg : AllBare g') :
    Inv X pins σ H' { s with heap := h', gens := g', drawn := d', toks := t' } := by
  have neL : ∀ b o, X.s₀.heap.get? b = some o → b ≠ X.env.locals := fun b o e => Nat.ne_of_lt (Nat.lt_of_lt_of_le (Heap.lt_size e) I.ok.above)
  have neC : ∀ b o, X.s₀.heap.get? b = some o → b ∉ X.ex → b ∉ ch := fun b o e hx hb => by
    rcases (hch b hb).1 with z | z
    · exact hx z
    · exact absurd (Nat.lt_of_lt_of_le (Heap.lt_size e) z) (Nat.lt_irrefl _)
  have cellK : ∀ x c, X.env.cells.lookup x = some c → ∀ v, s.heap.IsCell c v → h'.IsCell c v := fun x c e v ⟨o, ho, hd⟩ => by
    have nch : c ∉ ch := fun z => (hch c z).2.2.1 x c e rfl
    by_cases hc : c ∈ X.fs
    · obtain ⟨sl, q⟩ := slot c o (I.cne x c e) hc nch ho (I.freeC x c e)
      exact ⟨_, q, hd⟩
    · exact ⟨o, keep c o (I.cne x c e) hc nch ho (I.freeC x c e), hd⟩
  refine ⟨I.ok, I.os, hg, ⟨fun b o e n hb hx => ?_, fun b o e n hb hx => ?_, fun b o e n hx => ?_, fun b o e hx => ?_, fun b xs e => tups b xs (I.base.tups b xs e), fun b o xs e => frzs b o xs (I.base.frzs b o xs e), fun b ps e => ?_⟩, ?_, fun x c e => ?_, ?_, fun x c e => ?_, fun p hp => ?_, hok, I.len⟩
  · exact keep b o (neL b o e) hb (neC b o e hx) (I.base.keep b o e n hb hx) (I.base.free b o e n hx)
  · obtain ⟨sl, e1⟩ := I.base.slot b o e n hb hx
    obtain ⟨sl', e2⟩ := slot b _ (neL b o e) hb (neC b o e hx) e1 (I.base.free b o e n hx)
    exact ⟨sl', e2⟩
  · obtain ⟨o', e1⟩ := I.base.there b o e hx
    exact free b o' (neC b o e hx) e1 (I.base.free b o e n hx)
  · obtain ⟨o', e1⟩ := I.base.there b o e hx
    exact there b o' (neC b o e hx) e1
  · obtain ⟨m1, e1⟩ := I.base.tbls b ps e
    obtain ⟨m2, e2⟩ := tbls b _ e1
    exact ⟨m1 ++ m2, by rw [e2, Array.append_assoc]⟩
  · obtain ⟨m, hn, hl⟩ := I.loc
    refine ⟨m, ns m hn, fun i x v e1 e2 e3 => ?_⟩
    obtain ⟨u, r, l⟩ := hl i x v e1 e2 e3
    refine ⟨u, r, ?_⟩
    rcases l with l | ⟨k, c, e, z⟩
    · exact .inl l
    · exact .inr ⟨k, c, e, cellK x c e _ z⟩
  · obtain ⟨v, z⟩ := I.cell x c e
    exact ⟨v, cellK x c e v z⟩
  · obtain ⟨m, ⟨o, _, _, ho, _⟩, _⟩ := I.loc
    exact free _ o (fun z => (hch _ z).2.1 rfl) ho I.free
  · obtain ⟨v, o, ho, hd⟩ := I.cell x c e
    exact free c o (fun z => (hch c z).2.2.1 x c e rfl) ho (I.freeC x c e)
  · obtain ⟨e, n, ne, nf, d⟩ := I.pin p hp
    have nch : p.1 ∉ ch := fun z => (hch p.1 z).2.2.2 p hp rfl
    exact ⟨keep p.1 p.2 ne nf nch e n, free p.1 p.2 nch e n, ne, nf, d⟩
/-- .. where the frame's own object is kept too -/
theorem Inv.un {t' : Nat} (I : Inv X pins σ H s) (u : Un X.fs [] H H' s.heap h') (hok : HOk X.prog X.w H' h') : Inv X pins σ H' { s with heap := h', toks := t' } := by
  obtain ⟨m, ⟨o, es, ep, ho, r⟩, _⟩ := id I.loc
  obtain ⟨sl, hL⟩ := u.any ho I.free (by simp)
  exact I.step (g' := s.gens) (d' := s.drawn) (ch := []) (fun _ z => nomatch z) (fun b o _ hb _ e n => u.keep b o e n hb (by simp)) (fun b o _ hb _ e n => u.slot b o e n hb (by simp)) (fun b o _ e n => u.free b o e n (by simp)) (fun b o _ e => u.there b o e (by simp)) u.tups u.frzs u.tbls (fun m' hm => by
    obtain ⟨o', es', ep', ho', r'⟩ := hm
    rw [ho] at ho'; cases ho'
    exact ⟨_, es', ep', hL, r'⟩) hok I.bare
/-- behind a call (or a comprehension's block): the slots of this frame may have changed too, the records at ch may have turned -/
theorem Inv.call {g' : Array GenState} {t' : Nat} {d' : Drawn} {ch : List Addr} (I : Inv X pins σ H s) (u : Un (frs X.stack) ch H H' s.heap h') (hok : HOk X.prog X.w H' h') (hg : AllBare g')
    (hch : ∀ b ∈ ch, (b ∈ X.ex ∨ X.s₀.heap.objs.size ≤ b) ∧ b ≠ X.env.locals ∧ (∀ x c, X.env.cells.lookup x = some c → c ≠ b) ∧ ∀ p ∈ X.pn ++ pins, p.1 ≠ b) :
    Inv X pins σ H' { s with heap := h', gens := g', drawn := d', toks := t' } := by
  obtain ⟨m, ⟨o, es, ep, ho, r⟩, _⟩ := id I.loc
  obtain ⟨sl, hL⟩ := u.any ho I.free fun z => (hch _ z).2.1 rfl
  exact I.step (ch := ch) hch (fun b o hL hb hc e n => u.keep b o e n (fun z => (List.mem_cons.mp (I.stkSub b z)).elim hL hb) hc) (fun b o _ _ hc e n => u.any e n hc) (fun b o hc e n => u.free b o e n hc) (fun b o hc e => u.there b o e hc) u.tups u.frzs u.tbls (fun m' hm => by
    obtain ⟨o', es', ep', ho', r'⟩ := hm
    rw [ho] at ho'; cases ho'
    exact ⟨_, es', ep', hL, r'⟩) hok hg
/-- an untracked record of ours (an iterator) has turned -/
theorem Inv.turned {t' : Nat} {it : Addr} (I : Inv X pins σ H s) (k : ∀ b o, b ≠ it → s.heap.get? b = some o → h'.get? b = some o) (hn : H it = none) (hL : it ≠ X.env.locals)
    (h1 : it ∈ X.ex ∨ X.s₀.heap.objs.size ≤ it) (h2 : ∀ x c, X.env.cells.lookup x = some c → c ≠ it) (h3 : ∀ p ∈ X.pn ++ pins, p.1 ≠ it) : Inv X pins σ H { s with heap := h', toks := t' } := by
  have nit : ∀ b u, H b = some u → b ≠ it := fun b u e z => by rw [z, hn] at e; cases e
  refine I.step (g' := s.gens) (d' := s.drawn) (ch := [it]) (fun b hb => ?_) (fun b o _ _ hc e _ => k b o (fun z => hc (by simp [z])) e) (fun b o _ _ hc e _ => ⟨o.slots, k b o (fun z => hc (by simp [z])) e⟩) (fun _ _ _ _ n => n)
    (fun b o hc e => ⟨o, k b o (fun z => hc (by simp [z])) e⟩) (fun _ _ e => e) (fun _ _ _ e => e) (fun b ps e => ⟨#[], by rw [e]; simp⟩) (fun m hm => ?_) (fun b u e => ?_) I.bare
  · have e : b = it := by simpa using hb
    subst e
    exact ⟨h1, hL, h2, h3⟩
  · obtain ⟨o, es, ep, ho, r⟩ := hm
    exact ⟨o, es, ep, k _ o (Ne.symm hL) ho, r⟩
  · refine (I.hok b u e).stay (fun c v hc q => k c v ?_ q) (fun _ q => q) fun _ _ q => q
    rcases hc with z | z
    · rw [z]; exact nit b u e
    · exact nit c _ z
theorem Inv.tok (I : Inv X pins σ H s) (t : Nat) : Inv X pins σ H { s with toks := t } := I.un (h' := s.heap) (t' := t) Un.refl I.hok
/-- all objects kept -/
theorem Inv.kept {t' : Nat} (I : Inv X pins σ H s) (k : ∀ b u, s.heap.get? b = some u → h'.get? b = some u) : Inv X pins σ H { s with heap := h', toks := t' } := I.un (Un.kept k) (I.hok.kept k)
/-- a new object laid and tracked -/
theorem Inv.laid {a : Addr} {o : HO} {t' : Nat} (I : Inv X pins σ H s) (k : ∀ b u, s.heap.get? b = some u → h'.get? b = some u) (hp : s.heap.objs.size ≤ a) (new : ObjOk X.prog X.w (upd H a o) h' a o) :
    Inv X pins σ (upd H a o) { s with heap := h', toks := t' } := I.un (Un.laid k hp (I.hok.fresh hp)) (I.hok.laid k hp new)
/-- an object written -/
theorem Inv.write {x e : Addr} {o : HO} {t' : Nat} (I : Inv X pins σ H s) (mu : Mut (H x)) (he : e = x ∨ H e = some (.own x)) (k : ∀ b u, b ≠ e → s.heap.get? b = some u → h'.get? b = some u) (heo : ∃ u, h'.get? e = some u)
    (new : ObjOk X.prog X.w (upd H x o) h' x o) : Inv X pins σ (upd H x o) { s with heap := h', toks := t' } := I.un (Un.write mu he k heo) (I.hok.write mu he k heo new)
/-- forgetting slots, pins -/
theorem Inv.weak {σ' : List (Option V)} (I : Inv X pins σ H s) (hl : σ'.length = σ.length) (w : ∀ (i : Nat) v, σ'[i]? = some (some v) → σ[i]? = some (some v)) : Inv X pins σ' H s :=
  ⟨I.ok, I.os, I.bare, I.base, let ⟨m, hn, hl'⟩ := I.loc; ⟨m, hn, fun i x v e1 e2 e3 => hl' i x v e1 (w i v e2) e3⟩, I.cell, I.free, I.freeC, I.pin, I.hok, hl.trans I.len⟩
theorem Inv.pins_of {pins' : List (Addr × Obj)} (I : Inv X pins σ H s) (h : ∀ p ∈ pins', s.heap.get? p.1 = some p.2 ∧ H p.1 = none ∧ p.1 ≠ X.env.locals ∧ p.1 ∉ X.fs ∧ ∀ v, p.2.data ≠ .cell v) : Inv X pins' σ H s :=
  ⟨I.ok, I.os, I.bare, I.base, I.loc, I.cell, I.free, I.freeC, fun p hp => (List.mem_append.mp hp).elim (fun z => I.pin p (List.mem_append_left _ z)) (h p), I.hok, I.len⟩

theorem nodup_ix {N : List Str} (hN : N.Nodup) {i j : Nat} {x : Str} (a : N[i]? = some x) (b : N[j]? = some x) : i = j := by
  obtain ⟨h1, e1⟩ := List.getElem?_eq_some_iff.mp a
  obtain ⟨h2, e2⟩ := List.getElem?_eq_some_iff.mp b
  exact (List.getElem_inj hN).mp (e1.trans e2.symm)

/-- a name is stored; what changed -/
theorem store_ok2 {M : Model} {A : Around} {E : Value → Shared → Prop} {i : Nat} {x : Str} {v : V} {u : Value} {Q : Unit → Shared → Prop} (I : Inv X pins σ H s) (hN : X.N.Nodup) (hi : X.N[i]? = some x) (hx : Loc X.env.scope x) (r : RelV v u)
    (h : ∀ s', Inv X pins (σ.set i (some v)) H s' → (∃ a, Heap.SameBut a s.heap s'.heap ∧ (a = X.env.locals ∨ X.env.cells.lookup x = some a)) → Q () s') (hf : X.fn x = true ∨ X.env.scope.names.lookup x = some .local := by first | exact .inl rfl | exact .inr rfl | assumption) : wpAny M A (storeName X.env x u) Q E s := by
  obtain ⟨m, hn, hl⟩ := id I.loc
  have hcls : (X.env.scope.kind == .class || (X.env.scope.kind == .module && X.env.locals != X.env.globals)) = false := by rw [I.ok.kind]; rfl
  have hiσ : i < σ.length := by rw [I.len]; exact (List.getElem?_eq_some_iff.mp hi).1
  have cne := I.cne
  have tracked : ∀ {a : Addr} {h' : Heap}, (∃ o, s.heap.get? a = some o ∧ H a = none) → Heap.SameBut a s.heap h' → HOk X.prog X.w H h' := fun {a h'} ha hs b ob e => by
    obtain ⟨_, _, hfree⟩ := ha
    refine (I.hok b ob e).stay (fun c w' hc q => (hs.2 c ?_).trans q) (fun _ q => q) fun _ _ q => q
    rintro rfl
    rcases hc with rfl | hc
    · rw [hfree] at e; cases e
    · rw [hfree] at hc; cases hc
  rcases hx with hk | hk
  · refine wpAny_storeName_local hk hn (fun h' hn' hs => ?_) hcls
    obtain ⟨oL, _, _, hoL, _⟩ := id hn
    refine h _ ⟨I.ok, I.os, I.bare, ⟨fun b o e n hb hx => ?_, fun b o e n hb hx => ?_, I.base.free, fun b o e hx => ?_, I.base.tups, I.base.frzs, I.base.tbls⟩, ⟨_, hn', fun j y v' e1 e2 e3 => ?_⟩, fun y c e => ?_, I.free, I.freeC, fun p hp => ?_, tracked ⟨oL, hoL, I.free⟩ hs, by simpa using I.len⟩ ⟨_, hs, .inl rfl⟩
    · exact (hs.2 b (Nat.ne_of_lt (Nat.lt_of_lt_of_le (Heap.lt_size e) I.ok.above))).trans (I.base.keep b o e n hb hx)
    · obtain ⟨sl, e1⟩ := I.base.slot b o e n hb hx
      exact ⟨sl, (hs.2 b (Nat.ne_of_lt (Nat.lt_of_lt_of_le (Heap.lt_size e) I.ok.above))).trans e1⟩
    · obtain ⟨o', e1⟩ := I.base.there b o e hx
      exact ⟨o', (hs.2 b (Nat.ne_of_lt (Nat.lt_of_lt_of_le (Heap.lt_size e) I.ok.above))).trans e1⟩
    · by_cases hj : j = i
      · subst hj
        rw [hi] at e1; cases e1
        rw [List.getElem?_set_self hiσ] at e2
        cases e2
        exact ⟨u, r, .inl ⟨hk, by simp⟩⟩
      · rw [List.getElem?_set_ne (Ne.symm hj)] at e2
        obtain ⟨u', r', q⟩ := hl j y v' e1 e2 e3
        refine ⟨u', r', ?_⟩
        rcases q with ⟨k, e⟩ | ⟨k, c, e, z⟩
        · refine .inl ⟨k, ?_⟩
          have : y ≠ x := fun e => hj (nodup_ix hN e1 (e ▸ hi))
          simp [this, e]
        · exact .inr ⟨k, c, e, z.sameBut hs (cne y c e)⟩
    · obtain ⟨w', z⟩ := I.cell y c e
      exact ⟨w', z.sameBut hs (cne y c e)⟩
    · obtain ⟨e, n, ne, nf, d⟩ := I.pin p hp
      exact ⟨(hs.2 p.1 ne).trans e, n, ne, nf, d⟩
  · have hfn : X.fn x = true := by
      rcases hf with z | z
      · exact z
      · rw [z] at hk; cases hk
    obtain ⟨c, hc⟩ := I.ok.has x (.inl hk)
    obtain ⟨w', z⟩ := I.cell x c hc
    refine wpAny_storeName_cell I.ok.kind hk hc z (fun h' hc' hs => ?_)
    obtain ⟨oc, hoc, hocd⟩ := id z
    refine h { s with heap := h' } ⟨I.ok, I.os, I.bare, ⟨fun b o e n hb hx => ?_, fun b o e n hb hx => ?_, I.base.free, fun b o e hx => ?_, I.base.tups, I.base.frzs, I.base.tbls⟩, ⟨m, hn.sameBut hs (Ne.symm (cne x c hc)), fun j y v' e1 e2 e3 => ?_⟩, fun y c' e => ?_, I.free, I.freeC, fun p hp => ?_, tracked ⟨oc, hoc, I.freeC x c hc⟩ hs, by simpa using I.len⟩ ⟨c, hs, .inr hc⟩
    · exact (hs.2 b (Nat.ne_of_lt (Nat.lt_of_lt_of_le (Heap.lt_size e) (I.ok.cab x c hfn hc)))).trans (I.base.keep b o e n hb hx)
    · obtain ⟨sl, e1⟩ := I.base.slot b o e n hb hx
      exact ⟨sl, (hs.2 b (Nat.ne_of_lt (Nat.lt_of_lt_of_le (Heap.lt_size e) (I.ok.cab x c hfn hc)))).trans e1⟩
    · obtain ⟨o', e1⟩ := I.base.there b o e hx
      exact ⟨o', (hs.2 b (Nat.ne_of_lt (Nat.lt_of_lt_of_le (Heap.lt_size e) (I.ok.cab x c hfn hc)))).trans e1⟩
    · by_cases hj : j = i
      · subst hj
        rw [hi] at e1; cases e1
        rw [List.getElem?_set_self hiσ] at e2
        cases e2
        exact ⟨u, r, .inr ⟨.inl hk, c, hc, hc'⟩⟩
      · rw [List.getElem?_set_ne (Ne.symm hj)] at e2
        obtain ⟨u', r', q⟩ := hl j y v' e1 e2 e3
        refine ⟨u', r', ?_⟩
        rcases q with q | ⟨k, c', e, z'⟩
        · exact .inl q
        · refine .inr ⟨k, c', e, z'.sameBut hs ?_⟩
          rintro rfl
          exact hj (nodup_ix hN e1 (I.ok.inj _ _ _ e hc ▸ hi))
    · by_cases hcc : c' = c
      · subst hcc; exact ⟨_, hc'⟩
      · obtain ⟨w2, z2⟩ := I.cell y c' e
        exact ⟨w2, z2.sameBut hs hcc⟩
    · obtain ⟨e, n, ne, nf, d⟩ := I.pin p hp
      refine ⟨(hs.2 p.1 ?_).trans e, n, ne, nf, d⟩
      intro q
      rw [q, hoc] at e
      have q' : oc = p.2 := Option.some.inj e
      exact d w' (by rw [← q']; exact hocd)
theorem store_ok {M : Model} {A : Around} {E : Value → Shared → Prop} {i : Nat} {x : Str} {v : V} {u : Value} {Q : Unit → Shared → Prop} (I : Inv X pins σ H s) (hN : X.N.Nodup) (hi : X.N[i]? = some x) (hx : Loc X.env.scope x) (r : RelV v u)
    (h : ∀ s', Inv X pins (σ.set i (some v)) H s' → Q () s') (hf : X.fn x = true ∨ X.env.scope.names.lookup x = some .local := by first | exact .inl rfl | exact .inr rfl | assumption) : wpAny M A (storeName X.env x u) Q E s :=
  store_ok2 I hN hi hx r (fun s' I' _ => h s' I') hf
/-- behind a call or a block, the state as it is -/
theorem Inv.call' {s' : Shared} {ch : List Addr} (I : Inv X pins σ H s) (ho : s'.os = s.os) (u : Un (frs X.stack) ch H H' s.heap s'.heap) (hok : HOk X.prog X.w H' s'.heap) (hg : AllBare s'.gens)
    (hch : ∀ b ∈ ch, (b ∈ X.ex ∨ X.s₀.heap.objs.size ≤ b) ∧ b ≠ X.env.locals ∧ (∀ x c, X.env.cells.lookup x = some c → c ≠ b) ∧ ∀ p ∈ X.pn ++ pins, p.1 ≠ b) : Inv X pins σ H' s' := by
  obtain ⟨h', g', d', t', o'⟩ := s'
  have e : o' = s.os := ho
  subst e
  exact I.call (g' := g') (t' := t') (d' := d') u hok hg hch
end

/-! ### the judgements -/
/-- an exception: its class, its own dict's address (where it has one), the abstract heap behind it -/
abbrev XK := Value → Option Addr → Hp → Prop
abbrev St := List (Option V)
abbrev VK := V → Hp → Prop
/-- an expression's reading; a test's; an argument list's -/
abbrev TE := St → Hp → VK → Prop
abbrev TT := St → Hp → (Bool → Hp → Prop) → Prop
abbrev TA := St → Hp → (List V → Hp → Prop) → Prop
/-- what is wanted behind a statement -/
structure Ends where
  nx : St → Hp → Prop
  rt : VK
  bk : St → Hp → Prop := fun _ _ => False
  ct : St → Hp → Prop := fun _ _ => False
abbrev TS := Ends → St → Hp → Prop

def EP (X : Cx) (pins : List (Addr × Obj)) (σ : St) (Q : VK) (u : Value) (s' : Shared) : Prop := ∃ v H', Inv X pins σ H' s' ∧ RelV v u ∧ Q v H'
def TP (X : Cx) (pins : List (Addr × Obj)) (σ : St) (Q : Bool → Hp → Prop) (b : Bool) (s' : Shared) : Prop := ∃ H', Inv X pins σ H' s' ∧ Q b H'
def AP (X : Cx) (pins : List (Addr × Obj)) (σ : St) (Q : List V → Hp → Prop) (us : List Value) (s' : Shared) : Prop := ∃ vs H', Inv X pins σ H' s' ∧ Vals vs us ∧ Q vs H'
def SP (X : Cx) (pins : List (Addr × Obj)) (D : Ends) (f : Flow) (s' : Shared) : Prop :=
  match f with
  | .next => ∃ σ' H', Inv X pins σ' H' s' ∧ D.nx σ' H'
  | .brk => ∃ σ' H', Inv X pins σ' H' s' ∧ D.bk σ' H'
  | .cont => ∃ σ' H', Inv X pins σ' H' s' ∧ D.ct σ' H'
  | .ret u => ∃ v σ' H', Inv X pins σ' H' s' ∧ RelV v u ∧ D.rt v H'

def PE (X : Cx) (e : Expr) (t : TE) : Prop :=
  ∀ (pins : List (Addr × Obj)) (s : Shared) (σ : St) (H : Hp) (Q : VK), Inv X pins σ H s → t σ H Q → wpAny (model X.prog X.w) X.A (eval e X.env) (EP X pins σ Q) X.xe s
def PT (X : Cx) (e : Expr) (t : TT) : Prop :=
  ∀ (pins : List (Addr × Obj)) (s : Shared) (σ : St) (H : Hp) (Q : Bool → Hp → Prop), Inv X pins σ H s → t σ H Q → wpAny (model X.prog X.w) X.A (isTrue e X.env (eval e X.env)) (TP X pins σ Q) X.xe s
/-- a test whatever its 'whole' is (and, or) -/
def PW (X : Cx) (e : Expr) (t : TT) : Prop :=
  ∀ (whole : Sem Value) (pins : List (Addr × Obj)) (s : Shared) (σ : St) (H : Hp) (Q : Bool → Hp → Prop), Inv X pins σ H s → t σ H Q → wpAny (model X.prog X.w) X.A (isTrue e X.env whole) (TP X pins σ Q) X.xe s
theorem PW.pt {X : Cx} {e : Expr} {t : TT} (h : PW X e t) : PT X e t := h _
/-- an argument list (no star), from the left -/
def PA (X : Cx) (es : List Expr) (t : TA) : Prop :=
  ∀ (pos : Pos) (pins : List (Addr × Obj)) (s : Shared) (σ : St) (H : Hp) (Q : List V → Hp → Prop), Inv X pins σ H s → t σ H Q → wpAny (model X.prog X.w) X.A (spliced (backTo pos (starEach es X.env))) (AP X pins σ Q) X.xe s
def PS (X : Cx) (st : Stmt) (t : TS) : Prop :=
  ∀ (pins : List (Addr × Obj)) (s : Shared) (σ : St) (H : Hp) (D : Ends), Inv X pins σ H s → t D σ H → wpAny (model X.prog X.w) X.A (exec st X.env) (SP X pins D) X.xe s
def PSs (X : Cx) (st : List Stmt) (t : TS) : Prop :=
  ∀ (pins : List (Addr × Obj)) (s : Shared) (σ : St) (H : Hp) (D : Ends), Inv X pins σ H s → t D σ H → wpAny (model X.prog X.w) X.A (execs st X.env) (SP X pins D) X.xe s
/-- weaken the end -/
theorem thn {α : Type} {t : Sem α} {Q Q' : α → Shared → Prop} {M : Model} {A : Around} {E : Value → Shared → Prop} {s : Shared} (h : wpAny M A t Q E s) (hQ : ∀ a s, Q a s → Q' a s) : wpAny M A t Q' E s := wpAny_mono h hQ fun _ _ x => x
end L2

namespace L2
open PySem PySem.Spec PyProof.Rows
section
variable {X : Cx}

/-- two expressions in a row -/
theorem bin {a b : Expr} {ta tb : TE} (ha : PE X a ta) (hb : PE X b tb) {pins : List (Addr × Obj)} {s : Shared} {σ : St} {H : Hp} {R : V → V → Hp → Prop} (I : Inv X pins σ H s) (h : ta σ H fun x H1 => tb σ H1 fun y H2 => R x y H2)
    {α : Type} {Q : α → Shared → Prop} {f : Value → Value → Sem α}
    (hf : ∀ v u s2 x y H2, Inv X pins σ H2 s2 → RelV x v → RelV y u → R x y H2 → wpAny (model X.prog X.w) X.A (f v u) Q X.xe s2) :
    wpAny (model X.prog X.w) X.A (eval a X.env) (fun v s₁ => wpAny (model X.prog X.w) X.A (eval b X.env) (fun u s₂ => wpAny (model X.prog X.w) X.A (f v u) Q X.xe s₂) X.xe s₁) X.xe s := by
  refine thn (ha pins s σ H _ I h) fun v s1 ⟨x, H1, I1, r1, q1⟩ => ?_
  refine thn (hb pins s1 σ H1 _ I1 q1) fun u s2 ⟨y, H2, I2, r2, q2⟩ => ?_
  exact hf v u s2 x y H2 I2 r1 r2 q2

/-! ### names and constants -/
def tVar (i : Nat) : TE := fun σ H Q => ∃ v, σ[i]? = some (some v) ∧ Q v H
def tC (v : V) : TE := fun _ H Q => Q v H
theorem pe_var {i : Nat} {x : Str} {pos : Pos} (hN : X.N[i]? = some x) (hv : Vis X.env.scope x) (hd : (x == ("__debug__" : Str)) = false := by decide) (hcd : (x == ("__classdict__" : Str)) = false := by decide) : PE X (.Name x pos) (tVar i) := by
  intro pins s σ H Q I h
  obtain ⟨v, e, h⟩ := h
  obtain ⟨m, hn, hl⟩ := I.loc
  obtain ⟨u, r, l⟩ := hl i x v hN e hv
  have fin : EP X pins σ Q u s := ⟨v, H, I, r, h⟩
  rcases l with ⟨hk, hm⟩ | ⟨hk, c, hc, hcell⟩
  · exact wpAny_Name (wpAny_loadName_local I.ok.kind hk hn hm fin) hd
  · rcases hk with hk | hk
    · exact wpAny_Name (wpAny_loadName_cell I.ok.kind hk hc hcell fin) hd
    · exact wpAny_Name (wpAny_loadName_free I.ok.kind hk hc hcell fin hcd) hd
theorem pe_int {i j pos} : PE X (.Constant (.int i) j pos) (tC (.int i)) := fun _ _ _ H _ I h => wpAny_Constant_int ⟨.int i, H, I.tok _, ⟨_, rfl⟩, h⟩
theorem pe_bl {b j pos} : PE X (.Constant (.bool b) j pos) (tC (.bl b)) := fun _ _ _ H _ I h => Constant_bool ⟨.bl b, H, I, rfl, h⟩
theorem pe_non {j pos} : PE X (.Constant .none j pos) (tC .non) := fun _ _ _ H _ I h => Constant_none ⟨.non, H, I, rfl, h⟩
theorem pe_str {x j pos} : PE X (.Constant (.str x) j pos) (tC (.str x)) := fun _ _ _ H _ I h => Calls.Constant_str ⟨.str x, H, I.tok _, ⟨_, rfl⟩, h⟩

/-- a global name of the def -/
def Gl (X : Cx) (x : Str) : Prop := X.env.kindOf x = some .globalImplicit
theorem ld_glob {E : Value → Shared → Prop} {pins : List (Addr × Obj)} {s : Shared} {σ : St} {H : Hp} {x : Str} {u : Value} {pos : Pos} {Q : Value → Shared → Prop} (I : Inv X pins σ H s) (hg : Gl X x) (hm : X.mg x = some u) (h : Q u s)
    (hd : (x == ("__debug__" : Str)) = false := by decide) : wpAny (model X.prog X.w) X.A (eval (.Name x pos) X.env) Q E s :=
  Calls.Name_function_global I.ok.kind hg (Calls.loadGlobal_global (by rw [I.ok.glob]; exact I.mod.glob.keeps I.bk) hm h) hd
theorem ld_blt {E : Value → Shared → Prop} {pins : List (Addr × Obj)} {s : Shared} {σ : St} {H : Hp} {x : Str} {u : Value} {pos : Pos} {Q : Value → Shared → Prop} (I : Inv X pins σ H s) (hg : Gl X x) (hm : X.mg x = none) (hv : bootBuiltins x = some u) (h : Q u s)
    (hn : x ≠ "__name__" := by decide) (hd : (x == ("__debug__" : Str)) = false := by decide) : wpAny (model X.prog X.w) X.A (eval (.Name x pos) X.env) Q E s := by
  obtain ⟨mb, h1, h2⟩ := I.mod.blt
  exact Calls.Name_function_global I.ok.kind hg (Calls.loadGlobal_builtin (by rw [I.ok.glob]; exact I.mod.glob.keeps I.bk) hm (by rw [I.ok.blt]; exact h1.keeps I.bk) ((h2 x hn).trans hv) h) hd
/-- a module's constant, a class, a function, as a value -/
theorem pe_glob {x : Str} {v : V} {u : Value} {pos : Pos} (hg : Gl X x) (hm : X.mg x = some u) (r : RelV v u) (hd : (x == ("__debug__" : Str)) = false := by decide) : PE X (.Name x pos) (tC v) :=
  fun _ _ _ H _ I h => ld_glob I hg hm ⟨v, H, I, r, h⟩ hd
theorem pe_bltn {x : Str} {v : V} {u : Value} {pos : Pos} (hg : Gl X x) (hm : X.mg x = none) (hv : bootBuiltins x = some u) (r : RelV v u) (hn : x ≠ "__name__" := by decide) (hd : (x == ("__debug__" : Str)) = false := by decide) : PE X (.Name x pos) (tC v) :=
  fun _ _ _ H _ I h => ld_blt I hg hm hv ⟨v, H, I, r, h⟩ hn hd

/-! ### arithmetic -/
/-- two ints -/
def t2I (ta tb : TE) (k : Int → Int → Hp → Prop) : St → Hp → Prop := fun σ H => ta σ H fun x H1 => tb σ H1 fun y H2 => ∃ i j, x = .int i ∧ y = .int j ∧ k i j H2
def tAdd (ta tb : TE) : TE := fun σ H Q => t2I ta tb (fun i j H2 => Q (.int (i + j)) H2) σ H
def tSub (ta tb : TE) : TE := fun σ H Q => t2I ta tb (fun i j H2 => Q (.int (i - j)) H2) σ H
/-- the left factor below 2^64 -/
def tMul (ta tb : TE) : TE := fun σ H Q => t2I ta tb (fun i j H2 => (-(2 ^ 64) < i ∧ i < 2 ^ 64) ∧ Q (.int (i * j)) H2) σ H
variable {a b : Expr} {ta tb : TE} {pos : Pos}
theorem pe_add (ha : PE X a ta) (hb : PE X b tb) : PE X (.BinOp a .Add b pos) (tAdd ta tb) := by
  intro pins s σ H Q I h
  refine wpAny_BinOp (bin ha hb I h fun v u s2 x y H2 I2 rx ry q => ?_)
  obtain ⟨i, j, rfl, rfl, q⟩ := q
  obtain ⟨t, rfl⟩ := rx
  obtain ⟨t', rfl⟩ := ry
  exact add_int ⟨.int _, H2, I2.tok _, ⟨_, rfl⟩, q⟩
theorem pe_sub (ha : PE X a ta) (hb : PE X b tb) : PE X (.BinOp a .Sub b pos) (tSub ta tb) := by
  intro pins s σ H Q I h
  refine wpAny_BinOp (bin ha hb I h fun v u s2 x y H2 I2 rx ry q => ?_)
  obtain ⟨i, j, rfl, rfl, q⟩ := q
  obtain ⟨t, rfl⟩ := rx
  obtain ⟨t', rfl⟩ := ry
  exact sub_int ⟨.int _, H2, I2.tok _, ⟨_, rfl⟩, q⟩
theorem pe_mul (ha : PE X a ta) (hb : PE X b tb) : PE X (.BinOp a .Mult b pos) (tMul ta tb) := by
  intro pins s σ H Q I h
  refine wpAny_BinOp (bin ha hb I h fun v u s2 x y H2 I2 rx ry q => ?_)
  obtain ⟨i, j, rfl, rfl, ⟨q1, q2⟩, q⟩ := q
  obtain ⟨t, rfl⟩ := rx
  obtain ⟨t', rfl⟩ := ry
  exact mul_int ⟨.int _, H2, I2.tok _, ⟨_, rfl⟩, q⟩ (.of_left (intBits_le_64 q1 q2))

/-! ### comparisons -/
def PC (X : Cx) (op : CmpOp) (a b : Expr) (t : TE) : Prop :=
  ∀ (pins : List (Addr × Obj)) (s : Shared) (σ : St) (H : Hp) (Q : VK), Inv X pins σ H s → t σ H Q →
    wpAny (model X.prog X.w) X.A (eval a X.env) (fun v s₁ => wpAny (model X.prog X.w) X.A (eval b X.env) (fun u s₂ => wpAny (model X.prog X.w) X.A (compareOp op v u) (EP X pins σ Q) X.xe s₂) X.xe s₁) X.xe s
theorem nobehind (b : Expr) {op : CmpOp} (h : op ≠ .In) (h2 : op ≠ .NotIn) : behindInMarks op b = false := by
  have e1 : (op == CmpOp.In) = false := by cases op <;> first | rfl | exact absurd rfl h
  have e2 : (op == CmpOp.NotIn) = false := by cases op <;> first | rfl | exact absurd rfl h2
  cases b <;> simp [behindInMarks, e1, e2]
def tCmp (p : Int → Int → Bool) (ta tb : TE) : TE := fun σ H Q => t2I ta tb (fun i j H2 => Q (.bl (p i j)) H2) σ H
abbrev tLt : TE → TE → TE := tCmp fun i j => decide (i < j)
abbrev tLe : TE → TE → TE := tCmp fun i j => decide (i ≤ j)
abbrev tGt : TE → TE → TE := tCmp fun i j => decide (j < i)
abbrev tGe : TE → TE → TE := tCmp fun i j => decide (j ≤ i)
abbrev tEqI : TE → TE → TE := tCmp fun i j => decide (i = j)
abbrev tNeI : TE → TE → TE := tCmp fun i j => !decide (i = j)
/-- a comparison of two ints, by its rule -/
theorem pc_int {op : CmpOp} {p : Int → Int → Bool} (ha : PE X a ta) (hb : PE X b tb)
    (rule : ∀ (i j : Int) (t u : Tok) (Q : Value → Shared → Prop) (s : Shared), Q (.bool (p i j)) s → wpAny (model X.prog X.w) X.A (compareOp op (.int i t) (.int j u)) Q X.xe s) : PC X op a b (tCmp p ta tb) := by
  intro pins s σ H Q I h
  refine bin ha hb I h fun v u s2 x y H2 I2 rx ry q => ?_
  obtain ⟨i, j, rfl, rfl, q⟩ := q
  obtain ⟨t, rfl⟩ := rx
  obtain ⟨t', rfl⟩ := ry
  exact rule i j t t' _ s2 ⟨.bl _, H2, I2, rfl, q⟩
theorem pc_lt (ha : PE X a ta) (hb : PE X b tb) : PC X .Lt a b (tLt ta tb) := pc_int ha hb fun _ _ _ _ _ _ h => lt_int h
theorem pc_le (ha : PE X a ta) (hb : PE X b tb) : PC X .LtE a b (tLe ta tb) := pc_int ha hb fun _ _ _ _ _ _ h => le_int h
theorem pc_gt (ha : PE X a ta) (hb : PE X b tb) : PC X .Gt a b (tGt ta tb) := pc_int ha hb fun _ _ _ _ _ _ h => gt_int h
theorem pc_ge (ha : PE X a ta) (hb : PE X b tb) : PC X .GtE a b (tGe ta tb) := pc_int ha hb fun _ _ _ _ _ _ h => ge_int h
theorem pc_eqI (ha : PE X a ta) (hb : PE X b tb) : PC X .Eq a b (tEqI ta tb) := pc_int ha hb fun _ _ _ _ _ _ h => eq_int (by rw [Bool.beq_eq_decide_eq]; exact h)
theorem pc_neI (ha : PE X a ta) (hb : PE X b tb) : PC X .NotEq a b (tNeI ta tb) := pc_int ha hb fun _ _ _ _ _ _ h => ne_int (by rw [bne, Bool.beq_eq_decide_eq]; exact h)
/-- is None -/
def tIsN (ta : TE) : TE := fun σ H Q => ta σ H fun x H1 => Q (.bl (decide (x = .non))) H1
def tNotN (ta : TE) : TE := fun σ H Q => ta σ H fun x H1 => Q (.bl (!decide (x = .non))) H1
theorem RelV.none_iff {x : V} {v : Value} (r : RelV x v) : (v == Value.none) = decide (x = .non) := by
  cases x with
  | non => cases r; rfl
  | bl _ => cases r; rfl
  | int _ => obtain ⟨t, rfl⟩ := r; rfl
  | str _ => obtain ⟨t, rfl⟩ := r; rfl
  | byt _ => obtain ⟨t, rfl⟩ := r; rfl
  | flt _ => obtain ⟨t, rfl⟩ := r; rfl
  | ref _ => cases r; rfl
  | ty _ => cases r; rfl
theorem pc_isN {j pos'} (ha : PE X a ta) : PC X .Is a (.Constant .none j pos') (tIsN ta) := by
  intro pins s σ H Q I h
  refine thn (ha pins s σ H _ I h) fun v s1 ⟨x, H1, I1, r1, q1⟩ => ?_
  exact Constant_none (is_none_gen ⟨.bl _, H1, I1, by rw [r1.none_iff]; rfl, q1⟩)
theorem pc_notN {j pos'} (ha : PE X a ta) : PC X .IsNot a (.Constant .none j pos') (tNotN ta) := by
  intro pins s σ H Q I h
  refine thn (ha pins s σ H _ I h) fun v s1 ⟨x, H1, I1, r1, q1⟩ => ?_
  exact Constant_none (isnot_none_gen ⟨.bl _, H1, I1, by rw [r1.none_iff]; rfl, q1⟩)
/-- a comparison as a value, as a test -/
def tB (t : TE) : TT := fun σ H Q => t σ H fun x H1 => ∃ c, x = .bl c ∧ Q c H1
theorem pe_cmp {op : CmpOp} {t : TE} (h : PC X op a b t) (h1 : behindInMarks op b = false := by first | exact nobehind _ (by decide) (by decide) | rfl) : PE X (.Compare a [op] [b] pos) t := fun pins s σ H Q I hw => wpAny_Compare1 (h pins s σ H Q I hw) h1
theorem pt_cmp {op : CmpOp} {t : TE} (h : PC X op a b t) (h1 : behindInMarks op b = false := by first | exact nobehind _ (by decide) (by decide) | rfl) : PT X (.Compare a [op] [b] pos) (tB t) := by
  intro pins s σ H Q I hw
  refine wpAny_isTrue_Compare1 (thn (h pins s σ H _ I hw) fun v s1 h1 => thn h1 fun u s2 h2 => thn h2 fun c s3 ⟨x, H1, I1, r1, q1⟩ => ?_) h1
  obtain ⟨d, rfl, q⟩ := q1
  cases r1
  exact wpAny_truthy_bool ⟨H1, I1, q⟩
/-- an expression whose value is a bool, as a test -/
theorem pt_val {e : Expr} {t : TE} (h : PE X e t) (he : ∀ whole, isTrue e X.env whole = (do let v ← whole; standAt e.pos; holding [v] (truthy v)) := by intro _; rfl) : PT X e (tB t) := by
  intro pins s σ H Q I hw
  refine isTrue_plain (thn (h pins s σ H _ I hw) fun v s1 ⟨x, H1, I1, r1, q1⟩ => ?_) (he _)
  obtain ⟨d, rfl, q⟩ := q1
  cases r1
  exact wpAny_truthy_bool ⟨H1, I1, q⟩

/-! ### and, or, not -/
variable {tA tB' : TT} {rest : List Expr}
def tAnd (t u : TT) : TT := fun σ H Q => t σ H fun c H1 => if c = true then u σ H1 Q else Q false H1
def tOr (t u : TT) : TT := fun σ H Q => t σ H fun c H1 => if c = true then Q true H1 else u σ H1 Q
def tNot (t : TT) : TT := fun σ H Q => t σ H fun c H1 => Q (!c) H1
theorem pw_and1 (ha : PT X a tA) : PW X (.BoolOp .And [a] pos) tA := by
  intro wh pins s σ H Q I h
  refine isTrue_and (thn (ha pins s σ H Q I h) fun c s1 e => ?_)
  cases c with
  | true => exact isTrue_and_nil e
  | false => exact e
theorem pw_or1 (ha : PT X a tA) : PW X (.BoolOp .Or [a] pos) tA := by
  intro wh pins s σ H Q I h
  refine isTrue_or (thn (ha pins s σ H Q I h) fun c s1 e => ?_)
  cases c with
  | false => exact isTrue_or_nil e
  | true => exact e
theorem pw_and (ha : PT X a tA) (hb : PW X (.BoolOp .And (b :: rest) pos) tB') : PW X (.BoolOp .And (a :: b :: rest) pos) (tAnd tA tB') := by
  intro wh pins s σ H Q I h
  refine isTrue_and (thn (ha pins s σ H _ I h) fun c s1 ⟨H1, I1, q1⟩ => ?_)
  cases c with
  | true => exact hb wh pins s1 σ H1 Q I1 q1
  | false => exact ⟨H1, I1, q1⟩
theorem pw_or (ha : PT X a tA) (hb : PW X (.BoolOp .Or (b :: rest) pos) tB') : PW X (.BoolOp .Or (a :: b :: rest) pos) (tOr tA tB') := by
  intro wh pins s σ H Q I h
  refine isTrue_or (thn (ha pins s σ H _ I h) fun c s1 ⟨H1, I1, q1⟩ => ?_)
  cases c with
  | true => exact ⟨H1, I1, q1⟩
  | false => exact hb wh pins s1 σ H1 Q I1 q1
theorem pt_not (ha : PT X a tA) : PT X (.UnaryOp .Not a pos) (tNot tA) := by
  intro pins s σ H Q I h
  exact isTrue_not (ha pins s σ H (fun c H1 => Q (!c) H1) I h)
/-- .. as values (bools) -/
def tAndV (ta tb : TE) : TE := fun σ H Q => ta σ H fun x H1 => ∃ c, x = .bl c ∧ if c = true then tb σ H1 Q else Q (.bl false) H1
def tOrV (ta tb : TE) : TE := fun σ H Q => ta σ H fun x H1 => ∃ c, x = .bl c ∧ if c = true then Q (.bl true) H1 else tb σ H1 Q
def tNotV (ta : TE) : TE := fun σ H Q => ta σ H fun x H1 => ∃ c, x = .bl c ∧ Q (.bl (!c)) H1
theorem pe_one {op} {t : TE} (h : PE X a t) : PE X (.BoolOp op [a] pos) t := fun pins s σ H Q I hw => BoolOp_one (h pins s σ H Q I hw)
theorem pe_and (ha : PE X a ta) (hb : PE X (.BoolOp .And (b :: rest) pos) tb) : PE X (.BoolOp .And (a :: b :: rest) pos) (tAndV ta tb) := by
  intro pins s σ H Q I h
  refine BoolOp_and (thn (ha pins s σ H _ I h) fun v s1 ⟨x, H1, I1, r1, q1⟩ => ?_)
  obtain ⟨c, rfl, q1⟩ := q1
  cases r1
  refine wpAny_truthy_bool ?_
  cases c with
  | true => exact hb pins s1 σ H1 Q I1 q1
  | false => exact ⟨.bl false, H1, I1, rfl, q1⟩
theorem pe_or (ha : PE X a ta) (hb : PE X (.BoolOp .Or (b :: rest) pos) tb) : PE X (.BoolOp .Or (a :: b :: rest) pos) (tOrV ta tb) := by
  intro pins s σ H Q I h
  refine BoolOp_or (thn (ha pins s σ H _ I h) fun v s1 ⟨x, H1, I1, r1, q1⟩ => ?_)
  obtain ⟨c, rfl, q1⟩ := q1
  cases r1
  refine wpAny_truthy_bool ?_
  cases c with
  | false => exact hb pins s1 σ H1 Q I1 q1
  | true => exact ⟨.bl true, H1, I1, rfl, q1⟩
theorem pe_not (ha : PE X a ta) : PE X (.UnaryOp .Not a pos) (tNotV ta) := by
  intro pins s σ H Q I h
  refine UnaryOp_ (thn (ha pins s σ H _ I h) fun v s1 ⟨x, H1, I1, r1, q1⟩ => ?_)
  obtain ⟨c, rfl, q1⟩ := q1
  cases r1
  exact not_of (wpAny_truthy_bool ⟨.bl (!c), H1, I1, rfl, q1⟩)
/-- a if t else b -/
def tIf (t : TT) (ta tb : TE) : TE := fun σ H Q => t σ H fun c H1 => if c = true then ta σ H1 Q else tb σ H1 Q
theorem pe_ifExp {c : Expr} (hc : PT X c tA) (ha : PE X a ta) (hb : PE X b tb) : PE X (.IfExp c a b pos) (tIf tA ta tb) := by
  intro pins s σ H Q I h
  refine wpAny_IfExp (thn (hc pins s σ H _ I h) fun d s1 ⟨H1, I1, q1⟩ => ?_)
  cases d with
  | true => exact ha pins s1 σ H1 Q I1 q1
  | false => exact hb pins s1 σ H1 Q I1 q1
end
end L2

namespace L2
open PySem PySem.Spec PyProof.Rows

/-! ### a list, a tuple that is read: tracked, frozen, or an object of the module -/
def SqL (K : PySem.W.Frag) (H : Hp) (a : Addr) (xs : List V) : Prop :=
  Rd H a (.lst xs) ∨
    ∃ (o : Obj) (its : Array Value) (n : Nat), K.lookup a = some o ∧ o.cls = .type "list" ∧ o.dict = none ∧ o.data = .seq its n ∧ its.size ≤ sizeLine ∧ Vals xs its.toList
def SqT (K : PySem.W.Frag) (H : Hp) (a : Addr) (xs : List V) : Prop :=
  Rd H a (.tup xs) ∨
    ∃ (o : Obj) (its : Array Value) (n : Nat), K.lookup a = some o ∧ o.cls = .type "tuple" ∧ o.data = .seq its n ∧ its.size ≤ sizeLine ∧ Vals xs its.toList
def absV : Value → Option V
  | .none => some .non
  | .bool b => some (.bl b)
  | .int i _ => some (.int i)
  | .str x _ => some (.str x)
  | .bytes b _ => some (.byt b)
  | .float b _ => some (.flt b)
  | .ref a => some (.ref a)
  | .type n => some (.ty n)
  | _ => none
theorem RelV.abs {x : V} {u : Value} (r : RelV x u) : absV u = some x := by
  cases x with
  | non => cases r; rfl
  | bl _ => cases r; rfl
  | int _ => obtain ⟨t, rfl⟩ := r; rfl
  | str _ => obtain ⟨t, rfl⟩ := r; rfl
  | byt _ => obtain ⟨t, rfl⟩ := r; rfl
  | flt _ => obtain ⟨t, rfl⟩ := r; rfl
  | ref _ => cases r; rfl
  | ty _ => cases r; rfl
theorem RelV.inj {x y : V} {u : Value} (r : RelV x u) (q : RelV y u) : x = y := Option.some.inj (r.abs.symm.trans q.abs)
theorem Vals.inj : ∀ {xs ys : List V} {us : List Value}, Vals xs us → Vals ys us → xs = ys
  | _, _, _, .nil, .nil => rfl
  | _, _, _, .cons r t, .cons r' t' => by rw [r.inj r', Vals.inj t t']
section
variable {X : Cx} {pins : List (Addr × Obj)} {σ : St} {H : Hp} {s : Shared} {a : Addr} {xs ys : List V}
theorem SqL.of {K : PySem.W.Frag} (h : H a = some (.lst xs)) : SqL K H a xs := .inl (.inl h)
theorem SqT.of {K : PySem.W.Frag} (h : H a = some (.tup xs)) : SqT K H a xs := .inl (.inl h)
theorem Inv.list (I : Inv X pins σ H s) (h : SqL X.K H a xs) : ∃ its : List Value, Vals xs its ∧ PlainL s.heap a its.toArray ∧ xs.length ≤ sizeLine := by
  rcases h with h | ⟨o, its, n, hk, hc, hd, hs, hz, r⟩
  · obtain ⟨z, its, n, r, e⟩ := h.ok I.hok
    exact ⟨its, r, ⟨_, n, e, rfl, rfl, rfl⟩, z⟩
  · refine ⟨its.toList, r, ⟨o, n, I.kIn a o hk, hc, hd, by simpa using hs⟩, ?_⟩
    have e := r.length
    simp only [Array.length_toList] at e
    omega
theorem Inv.tuple (I : Inv X pins σ H s) (h : SqT X.K H a xs) : ∃ its : List Value, Vals xs its ∧ IsTup s.heap a its.toArray ∧ xs.length ≤ sizeLine := by
  rcases h with h | ⟨o, its, n, hk, hc, hs, hz, r⟩
  · obtain ⟨z, its, r, p⟩ := h.ok I.hok
    exact ⟨its, r, p, z⟩
  · refine ⟨its.toList, r, ⟨o, I.kIn a o hk, hc, n, by simpa using hs⟩, ?_⟩
    have e := r.length
    simp only [Array.length_toList] at e
    omega
theorem Inv.list_inj (I : Inv X pins σ H s) (h : SqL X.K H a xs) (h' : SqL X.K H a ys) : xs = ys := by
  obtain ⟨its, r, ⟨o, n, e, _, _, d⟩, _⟩ := I.list h
  obtain ⟨its', r', ⟨o', n', e', _, _, d'⟩, _⟩ := I.list h'
  rw [e] at e'; cases e'
  rw [d] at d'
  injection d' with d1 _
  have : its = its' := by simpa using congrArg Array.toList d1
  subst this
  exact r.inj r'
theorem Inv.tuple_inj (I : Inv X pins σ H s) (h : SqT X.K H a xs) (h' : SqT X.K H a ys) : xs = ys := by
  obtain ⟨its, r, ⟨o, e, _, n, d⟩, _⟩ := I.tuple h
  obtain ⟨its', r', ⟨o', e', _, n', d'⟩, _⟩ := I.tuple h'
  rw [e] at e'; cases e'
  rw [d] at d'
  injection d' with d1 _
  have : its = its' := by simpa using congrArg Array.toList d1
  subst this
  exact r.inj r'
end

/-! ### another wish about exceptions -/
abbrev Cx.wish (X : Cx) (E : Value → Shared → Prop) : Cx := { X with xe := E }
/-- no exception leaves -/
abbrev Cx.nox (X : Cx) : Cx := X.wish fun _ _ => False
theorem Cx.Ok.wish {X : Cx} (ok : X.Ok) (E : Value → Shared → Prop) : (X.wish E).Ok :=
  ⟨ok.mod, ok.kind, ok.glob, ok.blt, ok.above, ok.inj, ok.has, ok.cab, ok.hd, ok.frames, ok.stk, ok.exf, ok.bs, ok.bsz, ok.noex, ok.exfs, ok.funs, ok.frf⟩
theorem Cx.Ok.unwish {X : Cx} {E : Value → Shared → Prop} (ok : (X.wish E).Ok) : X.Ok :=
  ⟨ok.mod, ok.kind, ok.glob, ok.blt, ok.above, ok.inj, ok.has, ok.cab, ok.hd, ok.frames, ok.stk, ok.exf, ok.bs, ok.bsz, ok.noex, ok.exfs, ok.funs, ok.frf⟩
section
variable {X : Cx} {pins : List (Addr × Obj)} {σ : St} {H : Hp} {s : Shared} {E : Value → Shared → Prop}
theorem Inv.wish (I : Inv X pins σ H s) (E : Value → Shared → Prop) : Inv (X.wish E) pins σ H s := ⟨I.ok.wish E, I.os, I.bare, I.base, I.loc, I.cell, I.free, I.freeC, I.pin, I.hok, I.len⟩
theorem Inv.unwish (I : Inv (X.wish E) pins σ H s) : Inv X pins σ H s := ⟨I.ok.unwish, I.os, I.bare, I.base, I.loc, I.cell, I.free, I.freeC, I.pin, I.hok, I.len⟩
theorem SP.unwish {D : Ends} {f : Flow} {s' : Shared} (h : SP (X.wish E) pins D f s') : SP X pins D f s' := by
  cases f with
  | next => obtain ⟨σ', H', I, q⟩ := h; exact ⟨σ', H', I.unwish, q⟩
  | brk => obtain ⟨σ', H', I, q⟩ := h; exact ⟨σ', H', I.unwish, q⟩
  | cont => obtain ⟨σ', H', I, q⟩ := h; exact ⟨σ', H', I.unwish, q⟩
  | ret u => obtain ⟨v, σ', H', I, r, q⟩ := h; exact ⟨v, σ', H', I.unwish, r, q⟩
theorem PE.nox {e : Expr} {t : TE} (h : PE X.nox e t) : PE X e t := fun pins s σ H Q I hw =>
  wpAny_mono (h pins s σ H Q (I.wish _) hw) (fun _ _ ⟨v, H', I', r, q⟩ => ⟨v, H', I'.unwish, r, q⟩) fun _ _ z => False.elim z
theorem PT.nox {e : Expr} {t : TT} (h : PT X.nox e t) : PT X e t := fun pins s σ H Q I hw =>
  wpAny_mono (h pins s σ H Q (I.wish _) hw) (fun _ _ ⟨H', I', q⟩ => ⟨H', I'.unwish, q⟩) fun _ _ z => False.elim z
theorem PSs.nox {st : List Stmt} {t : TS} (h : PSs X.nox st t) : PSs X st t := fun pins s σ H D I hw =>
  wpAny_mono (h pins s σ H D (I.wish _) hw) (fun _ _ q => q.unwish) fun _ _ z => False.elim z
end

/-! ### blocks and small statements -/
section
variable {X : Cx} {st : Stmt} {rest : List Stmt} {t u : TS} {e : Expr} {te : TE} {pos : Pos}
def tNext : TS := fun D σ H => D.nx σ H
def tSeq (t u : TS) : TS := fun D σ H => t { D with nx := u D } σ H
theorem pss_nil : PSs X [] tNext := fun _ _ σ H _ I h => wpAny_execs_nil ⟨σ, H, I, h⟩
theorem pss_cons (h1 : PS X st t) (h2 : PSs X rest u) : PSs X (st :: rest) (tSeq t u) := by
  intro pins s σ H D I h
  refine wpAny_execs_cons (thn (h1 pins s σ H { D with nx := u D } I h) fun f s1 q => ?_)
  cases f with
  | next =>
    obtain ⟨σ', H', I', q⟩ := q
    exact h2 pins s1 σ' H' D I' q
  | ret v => exact q
  | brk => exact q
  | cont => exact q
theorem pss_one (h1 : PS X st t) : PSs X [st] t := by
  intro pins s σ H D I h
  refine wpAny_execs_cons (thn (h1 pins s σ H D I h) fun f s1 q => ?_)
  cases f with
  | next => exact wpAny_execs_nil q
  | ret v => exact q
  | brk => exact q
  | cont => exact q
def tBreak : TS := fun D σ H => D.bk σ H
def tCont : TS := fun D σ H => D.ct σ H
theorem ps_pass : PS X (.Pass pos) tNext := fun _ _ σ H _ I h => wpAny_Pass ⟨σ, H, I, h⟩
theorem ps_break : PS X (.Break pos) tBreak := fun _ _ σ H _ I h => wpAny_Break ⟨σ, H, I, h⟩
theorem ps_continue : PS X (.Continue pos) tCont := fun _ _ σ H _ I h => wpAny_Continue ⟨σ, H, I, h⟩
/-- in a def's body nothing is shown -/
theorem Inv.quiet {pins : List (Addr × Obj)} {σ : St} {H : Hp} {s : Shared} (I : Inv X pins σ H s) : interactive X.env = false := by simp [interactive, I.ok.kind]
/-- a docstring -/
theorem ps_doc {x j pos pos'} : PS X (.Expr (.Constant (.str x) j pos) pos') tNext := fun _ s σ H _ I h => wpAny_Expr (Calls.Constant_str (show SP X _ _ .next { s with toks := s.toks + 1 } from ⟨σ, H, I.tok _, h⟩)) I.quiet
/-- an expression whose value is dropped -/
def tDrop (te : TE) : TS := fun D σ H => te σ H fun _ H1 => D.nx σ H1
theorem ps_expr (he : PE X e te) (hs : swapsWith e none pos.line X.env = pure false := by rfl) : PS X (.Expr e pos) (tDrop te) := by
  intro pins s σ H D I h
  exact wpAny_Expr_any (thn (he pins s σ H _ I h) fun v s1 ⟨x, H1, I1, r1, q1⟩ => ⟨σ, H1, I1, q1⟩) I.quiet hs
def tRet (te : TE) : TS := fun D σ H => te σ H D.rt
theorem ps_ret (he : PE X e te) : PS X (.Return (some e) pos) (tRet te) := by
  intro pins s σ H D I h
  exact wpAny_Return_some (thn (he pins s σ H _ I h) fun v s1 ⟨x, H1, I1, r1, q1⟩ => ⟨x, σ, H1, I1, r1, q1⟩)
def tRetN : TS := fun D _ H => D.rt .non H
theorem ps_retN : PS X (.Return none pos) tRetN := fun _ _ σ H _ I h => wpAny_Return_none ⟨.non, σ, H, I, rfl, h⟩
def tIfS (c : TT) (t u : TS) : TS := fun D σ H => c σ H fun b H1 => if b = true then t D σ H1 else u D σ H1
theorem ps_if {c : Expr} {a b : List Stmt} {tc : TT} (hc : PT X c tc) (ha : PSs X a t) (hb : PSs X b u) : PS X (.If c a b pos) (tIfS tc t u) := by
  intro pins s σ H D I h
  refine wpAny_If (thn (hc pins s σ H _ I h) fun d s1 ⟨H1, I1, q1⟩ => ?_)
  cases d with
  | true => exact ha pins s1 σ H1 D I1 q1
  | false => exact hb pins s1 σ H1 D I1 q1
/-- code that the proof never comes to -/
def tNever : TS := fun _ _ _ => False
theorem ps_never : PS X st tNever := fun _ _ _ _ _ _ h => h.elim
theorem pss_never {sts : List Stmt} : PSs X sts tNever := fun _ _ _ _ _ _ h => h.elim
end

/-! ### targets -/
abbrev TG := V → St → Hp → (St → Hp → Prop) → Prop
abbrev TGs := List V → St → Hp → (St → Hp → Prop) → Prop
def PG (X : Cx) (target : Expr) (t : TG) : Prop :=
  ∀ (pins : List (Addr × Obj)) (s : Shared) (σ : St) (H : Hp) (v : V) (u : Value) (Q : St → Hp → Prop), Inv X pins σ H s → RelV v u → t v σ H Q →
    wpAny (model X.prog X.w) X.A (assign target X.env u) (fun _ s' => ∃ σ' H', Inv X pins σ' H' s' ∧ Q σ' H') X.xe s
/-- several targets, one after another -/
def PGs (X : Cx) (ts : List Expr) (t : TGs) : Prop :=
  ∀ (pins : List (Addr × Obj)) (s : Shared) (σ : St) (H : Hp) (vs : List V) (us : List Value) (Q : St → Hp → Prop), Inv X pins σ H s → Vals vs us → t vs σ H Q →
    wpAny (model X.prog X.w) X.A (assignInOrder ((assignEach ts X.env).map (·.2)) us) (fun _ s' => ∃ σ' H', Inv X pins σ' H' s' ∧ Q σ' H') X.xe s
/-- o[i] = v, by values -/
abbrev TSet := V → V → V → Hp → (Hp → Prop) → Prop
def PSet (X : Cx) (t : TSet) : Prop :=
  ∀ (pins : List (Addr × Obj)) (s : Shared) (σ : St) (H : Hp) (o i v : V) (ov iv u : Value) (Q : Hp → Prop), Inv X pins σ H s → RelV o ov → RelV i iv → RelV v u → t o i v H Q →
    wpAny (model X.prog X.w) X.A (setItem ov iv u) (fun _ s' => ∃ H', Inv X pins σ H' s' ∧ Q H') X.xe s
/-- a op= b, by values -/
abbrev TIp := V → V → Hp → VK → Prop
def PIp (X : Cx) (op : Operator) (t : TIp) : Prop :=
  ∀ (pins : List (Addr × Obj)) (s : Shared) (σ : St) (H : Hp) (x y : V) (v u : Value) (Q : VK), Inv X pins σ H s → RelV x v → RelV y u → t x y H Q →
    wpAny (model X.prog X.w) X.A (inplaceOp op v u) (EP X pins σ Q) X.xe s
section
variable {X : Cx} {pos : Pos}
def gName (i : Nat) : TG := fun v σ H Q => Q (σ.set i (some v)) H
theorem pg_name {i : Nat} {x : Str} (hN : X.N.Nodup) (hi : X.N[i]? = some x) (hx : Loc X.env.scope x) (hf : X.fn x = true ∨ X.env.scope.names.lookup x = some .local := by first | exact .inl rfl | exact .inr rfl | assumption) : PG X (.Name x pos) (gName i) := by
  intro pins s σ H v u Q I r h
  exact wpAny_assign_Name (store_ok I hN hi hx r (fun s' I' => ⟨_, H, I', h⟩) hf)
def gNil : TGs := fun vs σ H Q => vs = [] ∧ Q σ H
def gCons (t : TG) (u : TGs) : TGs := fun vs σ H Q => ∃ v r, vs = v :: r ∧ t v σ H fun σ' H' => u r σ' H' Q
theorem pgs_nil : PGs X [] gNil := by
  intro pins s σ H vs us Q I r h
  obtain ⟨e, h⟩ := h
  subst e
  cases r
  exact assignInOrder_nil ⟨σ, H, I, h⟩
theorem pgs_cons {e : Expr} {es : List Expr} {t : TG} {u : TGs} (h1 : PG X e t) (h2 : PGs X es u)
    (hs : (assignEach (e :: es) X.env).map (·.2) = assign e X.env :: (assignEach es X.env).map (·.2) := by rfl) : PGs X (e :: es) (gCons t u) := by
  intro pins s σ H vs us Q I r h
  obtain ⟨v, vr, e1, h⟩ := h
  subst e1
  cases r with
  | cons r rr =>
    rw [hs]
    refine assignInOrder_cons (thn (h1 pins s σ H _ _ _ I r h) fun _ s1 ⟨σ1, H1, I1, q1⟩ => ?_)
    exact h2 pins s1 σ1 H1 _ _ Q I1 rr q1
/-- (a, b, ..) = a tuple of that length -/
def gTup (K : PySem.W.Frag) (n : Nat) (t : TGs) : TG := fun v σ H Q => ∃ a xs, v = .ref a ∧ SqT K H a xs ∧ xs.length = n ∧ t xs σ H Q
theorem pg_tup {es : List Expr} {k : Nat} {t : TGs} {n : Nat} (hc : X.calm = true) (h : PGs X es t)
    (hn : (assignEach es X.env).length = n := by rfl) (hst : (assignEach es X.env).findIdx? (·.1) = none := by rfl) : PG X (.Tuple es k pos) (gTup X.K n t) := by
  intro pins s σ H v u Q I r hw
  obtain ⟨a, xs, e1, hq, hl, hw⟩ := hw
  subst e1
  cases r
  obtain ⟨its, rv, ht, hz⟩ := I.tuple hq
  refine assign_Tuple_tuple (I.ok.hd hc) ht (by simp [hn, ← hl, rv.length]) hst fun h' hx => ?_
  have I1 : Inv X pins σ H { s with heap := h' } := I.kept (t' := s.toks) fun b o e => hx b o (Nat.ne_of_lt (Heap.lt_size e)) e
  exact h pins _ σ H xs _ Q I1 (by simpa using rv) hw
/-- o[i] = .. -/
def gSub (to ti : TE) (t : TSet) : TG := fun v σ H Q => to σ H fun o H1 => ti σ H1 fun i H2 => t o i v H2 fun H3 => Q σ H3
theorem pg_sub {o i : Expr} {to ti : TE} {t : TSet} (ho : PE X o to) (hi : PE X i ti) (hs : PSet X t)
    (ha : ∀ v, assign (.Subscript o i pos) X.env v = (do
      let ov ← holding [v] (eval o X.env)
      let iv ← holding [v, ov] (eval i X.env)
      standAt pos
      holding [v, ov, iv] (setItem ov iv v)
      release [v, ov, iv] []) := by intro _; rfl) : PG X (.Subscript o i pos) (gSub to ti t) := by
  intro pins s σ H v u Q I r h
  rw [ha]
  refine wpAny_bind (wpAny_holding (thn (ho pins s σ H _ I h) fun ov s1 ⟨x, H1, I1, r1, q1⟩ => ?_))
  refine wpAny_bind (wpAny_holding (thn (hi pins s1 σ H1 _ I1 q1) fun iv s2 ⟨y, H2, I2, r2, q2⟩ => ?_))
  refine wpAny_bind (wpAny_standAt (wpAny_bind (wpAny_holding (thn (hs pins s2 σ H2 x y v ov iv u _ I2 r1 r2 r q2) fun _ s3 ⟨H3, I3, q3⟩ => ?_))))
  exact wpAny_release ⟨σ, H3, I3, q3⟩
/-- target = value -/
def tAsg (te : TE) (g : TG) : TS := fun D σ H => te σ H fun x H1 => g x σ H1 D.nx
theorem ps_asg {tg e : Expr} {te : TE} {g : TG} (he : PE X e te) (hg : PG X tg g) (hs : swapsWithSole [tg] e pos.line X.env = pure false := by rfl) (hw : swappedStores [tg] e X.env = pure none := by rfl)
    (h1 : (assignEach [tg] X.env).map (·.2) = [assign tg X.env] := by rfl) : PS X (.Assign [tg] e pos) (tAsg te g) := by
  intro pins s σ H D I h
  refine wpAny_Assign_stores (thn (he pins s σ H _ I h) fun v s1 ⟨x, H1, I1, r1, q1⟩ => ?_) hs hw
  rw [h1]
  exact thn (hg pins s1 σ H1 x v _ I1 r1 q1) fun _ s2 q => q
/-- name = value -/
theorem ps_set {i : Nat} {x : Str} {e : Expr} {te : TE} {pos' : Pos} (hN : X.N.Nodup) (hi : X.N[i]? = some x) (hx : Loc X.env.scope x) (he : PE X e te) (hs : swapsWith e (some (.Name x pos')) pos.line X.env = pure false := by rfl) (hf : X.fn x = true ∨ X.env.scope.names.lookup x = some .local := by first | exact .inl rfl | exact .inr rfl | assumption) :
    PS X (.Assign [.Name x pos'] e pos) (tAsg te (gName i)) := by
  intro pins s σ H D I h
  refine wpAny_Assign_Name (thn (he pins s σ H _ I h) fun v s1 ⟨y, H1, I1, r1, q1⟩ => ?_) hs
  exact store_ok I1 hN hi hx r1 (fun s2 I2 => ⟨_, H1, I2, q1⟩) hf
/-- a, b = x, y with plain local names: stored from the right; the pair itself is not tracked (the opening rows as in PyProof/Rows/TupAssign.lean:23) -/
def tPar (i j : Nat) (ta : TA) : TS := fun D σ H => ta σ H fun vs H1 => ∃ v w, vs = [v, w] ∧ D.nx ((σ.set i (some v)).set j (some w)) H1
theorem ps_par {i j : Nat} {x y : Str} {a b : Expr} {ta : TA} {px py pt : Pos} {kt k2 pt2} (hc : X.calm = true) (hN : X.N.Nodup) (hi : X.N[i]? = some x) (hj : X.N[j]? = some y) (hij : i ≠ j)
    (hx : X.env.scope.names.lookup x = some .local) (hy : X.env.scope.names.lookup y = some .local) (ha : PA X [a, b] ta)
    (hw : swappedStores [.Tuple [.Name x px, .Name y py] kt pt] (.Tuple [a, b] k2 pt2) X.env = pure (some [x, y]))
    (hs : swapsWithSole [.Tuple [.Name x px, .Name y py] kt pt] (.Tuple [a, b] k2 pt2) pos.line X.env = pure false := by rfl) :
    PS X (.Assign [.Tuple [.Name x px, .Name y py] kt pt] (.Tuple [a, b] k2 pt2) pos) (tPar i j ta) := by
  intro pins s σ H D I h
  rw [exec_Assign_arm]
  refine wpAny_bind (wpAny_standAt ?_)
  rw [hs]
  refine wpAny_bind (wpAny_pure ?_)
  rw [if_neg (by decide)]
  refine wpAny_bind (Tuple_ (thn (ha _ pins s σ H _ I h) fun us s1 ⟨vs, H1, I1, r1, q1⟩ => ?_))
  obtain ⟨v, w, e1, q1⟩ := q1
  subst e1
  obtain ⟨u1, u2, rfl, rv, rw'⟩ : ∃ u1 u2, us = [u1, u2] ∧ RelV v u1 ∧ RelV w u2 := by
    cases r1 with
    | cons p q =>
      cases q with
      | cons p' q' =>
        cases q'
        exact ⟨_, _, rfl, p, p'⟩
  refine wpAny_newObj_type ?_ (by show 2 ≤ sizeLine; decide)
  have I2 : Inv X pins σ H1 { s1 with heap := s1.heap.push { cls := .type "tuple", data := .seq [u1, u2].toArray } } := I1.kept (t' := s1.toks) fun b o e => Heap.get?_push_of_some _ e
  rw [hw]
  refine wpAny_bind (wpAny_pure ?_)
  show wpAny (model X.prog X.w) X.A (do rule "assign.swapped-stores"; let items ← unpackItems (.ref s1.heap.objs.size) 2 none; assignInOrder [fun v => bindName X.env y v, fun v => bindName X.env x v] items.reverse; pure Flow.next) _ _ _
  refine wpAny_bind (wpAny_rule (wpAny_bind (unpackItems_tuple (items := #[u1, u2]) (I.ok.hd hc) (IsTup.new s1.heap _) fun h' hx' => ?_)))
  have I3 := I2.kept (h' := h') (t' := s1.toks) fun b o e => hx' b o (Nat.ne_of_lt (Heap.lt_size e)) e
  show wpAny _ _ (assignInOrder [fun v => bindName X.env y v, fun v => bindName X.env x v] [u2, u1] >>= fun _ => pure Flow.next) _ _ _
  refine wpAny_bind (assignInOrder_cons (wpAny_bindName (store_ok I3 hN hj (.inl hy) rw' (fun s2 I4 => ?_) (.inr hy))))
  refine assignInOrder_cons (wpAny_bindName (store_ok I4 hN hi (.inl hx) rv (fun s3 I5 => assignInOrder_nil (wpAny_pure ?_)) (.inr hx)))
  rw [List.set_comm _ _ (Ne.symm hij)] at I5
  exact ⟨_, H1, I5, q1⟩
/-- name op= e -/
def tAug (i : Nat) (te : TE) (ti : TIp) : TS := fun D σ H => ∃ x, σ[i]? = some (some x) ∧ te σ H fun y H1 => ti x y H1 fun z H2 => D.nx (σ.set i (some z)) H2
theorem ps_aug {i : Nat} {x : Str} {e : Expr} {te : TE} {op : Operator} {ti : TIp} {pos' : Pos} (hN : X.N.Nodup) (hi : X.N[i]? = some x) (hx : Loc X.env.scope x) (he : PE X e te) (ho : PIp X op ti) (hf : X.fn x = true ∨ X.env.scope.names.lookup x = some .local := by first | exact .inl rfl | exact .inr rfl | assumption) :
    PS X (.AugAssign (.Name x pos') op e pos) (tAug i te ti) := by
  intro pins s σ H D I h
  obtain ⟨v, e1, h⟩ := h
  obtain ⟨m, hn, hl⟩ := I.loc
  have vis : Vis X.env.scope x := by rcases hx with k | k; exact .inl k; exact .inr (.inl k)
  obtain ⟨u, r, l⟩ := hl i x v hi e1 vis
  refine wpAny_AugAssign_Name ?_
  have go : wpAny (model X.prog X.w) X.A (eval e X.env) (fun w s₂ => wpAny (model X.prog X.w) X.A (inplaceOp op u w) (fun r s₃ => wpAny (model X.prog X.w) X.A (storeName X.env x r) (fun _ => SP X pins D .next) X.xe s₃) X.xe s₂) X.xe s := by
    refine thn (he pins s σ H _ I h) fun w s1 ⟨y, H1, I1, r1, q1⟩ => ?_
    refine thn (ho pins s1 σ H1 v y u w _ I1 r r1 q1) fun z s2 ⟨zv, H2, I2, r2, q2⟩ => ?_
    exact store_ok I2 hN hi hx r2 (fun s3 I3 => ⟨_, H2, I3, q2⟩) hf
  rcases l with ⟨hk, hm⟩ | ⟨hk, c, hc, hcell⟩
  · exact wpAny_loadName_local I.ok.kind hk hn hm go
  · rcases hk with hk | hk
    · exact wpAny_loadName_cell I.ok.kind hk hc hcell go
    · rcases hx with k | k
      · have : X.env.scope.names.lookup x = some .free := hk
        rw [k] at this; cases this
      · have : X.env.scope.names.lookup x = some .free := hk
        rw [k] at this; cases this
/-- o[i] op= e -/
def tAugS (to ti te : TE) (tget : V → V → Hp → VK → Prop) (tip : TIp) (tset : TSet) : TS := fun D σ H => to σ H fun o H1 => ti σ H1 fun i H2 => tget o i H2 fun x H3 => te σ H3 fun y H4 => tip x y H4 fun z H5 => tset o i z H5 fun H6 => D.nx σ H6
/-- o[i], by values -/
def PGet (X : Cx) (t : V → V → Hp → VK → Prop) : Prop :=
  ∀ (pins : List (Addr × Obj)) (s : Shared) (σ : St) (H : Hp) (o i : V) (ov iv : Value) (Q : VK), Inv X pins σ H s → RelV o ov → RelV i iv → t o i H Q →
    wpAny (model X.prog X.w) X.A (getItem ov iv) (EP X pins σ Q) X.xe s
theorem ps_augS {o i e : Expr} {to ti te : TE} {tget : V → V → Hp → VK → Prop} {tip : TIp} {tset : TSet} {op : Operator} {tpos : Pos} (ho : PE X o to) (hi : PE X i ti) (hg : PGet X tget) (he : PE X e te) (hp : PIp X op tip) (hs : PSet X tset)
    (ha : ∀ ov iv new, augStore i ov iv new = (do holding [new, ov, iv] (setItem ov iv new); release [new, ov, iv] []; pure .next) := by intros; rfl) : PS X (.AugAssign (.Subscript o i tpos) op e pos) (tAugS to ti te tget tip tset) := by
  intro pins s σ H D I h
  refine wpAny_AugAssign_SubscriptAny (thn (ho pins s σ H _ I h) fun ov s1 ⟨x1, H1, I1, r1, q1⟩ => ?_) ha
  refine thn (hi pins s1 σ H1 _ I1 q1) fun iv s2 ⟨x2, H2, I2, r2, q2⟩ => ?_
  refine thn (hg pins s2 σ H2 x1 x2 ov iv _ I2 r1 r2 q2) fun old s3 ⟨x3, H3, I3, r3, q3⟩ => ?_
  refine thn (he pins s3 σ H3 _ I3 q3) fun v s4 ⟨x4, H4, I4, r4, q4⟩ => ?_
  refine thn (hp pins s4 σ H4 x3 x4 old v _ I4 r3 r4 q4) fun new s5 ⟨x5, H5, I5, r5, q5⟩ => ?_
  exact thn (hs pins s5 σ H5 x1 x2 x5 ov iv new _ I5 r1 r2 r5 q5) fun _ s6 ⟨H6, I6, q6⟩ => ⟨σ, H6, I6, q6⟩
/-- ints -/
def ipI (f : Int → Int → Int) : TIp := fun x y H Q => ∃ i j, x = .int i ∧ y = .int j ∧ Q (.int (f i j)) H
theorem ip_add : PIp X .Add (ipI fun i j => i + j) := by
  intro pins s σ H x y v u Q I r1 r2 h
  obtain ⟨i, j, e1, e2, q⟩ := h
  subst e1; subst e2
  obtain ⟨t, rfl⟩ := r1
  obtain ⟨t', rfl⟩ := r2
  exact iadd_int ⟨.int _, H, I.tok _, ⟨_, rfl⟩, q⟩
theorem ip_sub : PIp X .Sub (ipI fun i j => i - j) := by
  intro pins s σ H x y v u Q I r1 r2 h
  obtain ⟨i, j, e1, e2, q⟩ := h
  subst e1; subst e2
  obtain ⟨t, rfl⟩ := r1
  obtain ⟨t', rfl⟩ := r2
  exact isub_int ⟨.int _, H, I.tok _, ⟨_, rfl⟩, q⟩
end

/-! ### while -/
section
variable {X : Cx} {pos : Pos}
/-- the invariant W with its measure -/
def tWhile (c : TT) (tb : TS) : TS := fun D σ H => ∃ W : Nat → St → Hp → Prop, (∃ m, W m σ H) ∧ ∀ m σ H, W m σ H →
  c σ H fun b H1 => if b = true then ∃ N : St → Hp → Prop, (∀ σ' H', N σ' H' → ∃ m', m' < m ∧ W m' σ' H') ∧ tb { D with nx := N, ct := N, bk := D.nx } σ H1 else D.nx σ H1
theorem ps_while {c : Expr} {body : List Stmt} {tc : TT} {tb : TS} (hp : PassesOwn (model X.prog X.w) X.A X.env X.xe) (hc : PT X c tc) (hb : PSs X body tb) : PS X (.While c body [] pos) (tWhile tc tb) := by
  intro pins s σ H D I h
  obtain ⟨W, ⟨m0, w0⟩, turn⟩ := h
  refine wpAny_While (codeAny_whileLoop (fun n s' => ∃ σ' H', Inv X pins σ' H' s' ∧ W n σ' H') ?_ m0 ⟨σ, H, I, w0⟩)
  rintro n s1 ⟨σ1, H1, I1, w1⟩
  refine wpAny_passesOwn hp (thn (hc pins s1 σ1 H1 _ I1 (turn n σ1 H1 w1)) fun b s2 ⟨H2, I2, q2⟩ => ?_)
  cases b with
  | true =>
    obtain ⟨N, hN, q2⟩ := q2
    rw [if_pos rfl]
    refine wpAny_passesOwn hp (thn (hb pins s2 σ1 H2 _ I2 q2) fun f s3 q3 => ?_)
    cases f with
    | next =>
      obtain ⟨σ3, H3, I3, n3⟩ := q3
      obtain ⟨m', hm, w3⟩ := hN σ3 H3 n3
      exact ⟨m', hm, σ3, H3, I3, w3⟩
    | cont =>
      obtain ⟨σ3, H3, I3, n3⟩ := q3
      obtain ⟨m', hm, w3⟩ := hN σ3 H3 n3
      exact ⟨m', hm, σ3, H3, I3, w3⟩
    | brk => exact q3
    | ret v => exact q3
  | false =>
    rw [if_neg Bool.false_ne_true]
    exact wpAny_execs_nil ⟨σ1, H2, I2, q2⟩
end

/-! ### what a loop or a comprehension walks -/
/-- at turn i: it yields x (the heap may grow), or it stops -/
structure It where
  go : Nat → Hp → Prop
  yld : Nat → Hp → V → Hp → Prop
  stop : Nat → Hp → Prop
/-- the iterator's own objects may turn: they are not the frame's, not pinned, younger than the entry (or a comprehension's own) -/
def FpOk (X : Cx) (pins : List (Addr × Obj)) (H : Hp) (b : Addr) : Prop :=
  H b = none ∧ b ≠ X.env.locals ∧ b ∉ X.fs ∧ (b ∈ X.ex ∨ X.s₀.heap.objs.size ≤ b) ∧ (∀ x c, X.env.cells.lookup x = some c → c ≠ b) ∧ ∀ p ∈ X.pn ++ pins, p.1 ≠ b
theorem Inv.fpOk {X : Cx} {pins : List (Addr × Obj)} {σ : St} {H H' : Hp} {s : Shared} {b : Addr} (I : Inv X pins σ H s) (hb : s.heap.objs.size ≤ b) (hn : H' b = none) : FpOk X pins H' b := by
  refine ⟨hn, Nat.ne_of_gt (Nat.lt_of_lt_of_le I.lt hb), I.nofs hb, .inr (Nat.le_trans I.sz hb), fun x c e z => ?_, fun p hp z => ?_⟩
  · obtain ⟨v, q⟩ := I.cell x c e
    exact absurd (Nat.lt_of_lt_of_le q.lt (by rw [z]; exact hb)) (Nat.lt_irrefl _)
  · exact absurd (Nat.lt_of_lt_of_le (Heap.lt_size (I.pin p hp).1) (by rw [z]; exact hb)) (Nat.lt_irrefl _)
structure Turn (P : Program) (w : World) (K : PySem.W.Frag) (tg : Expr) (J : It) (fp : List Addr) (it : Addr) (tn : Nat → Heap → Prop) : Prop where
  mem : it ∈ fp
  obj : ∀ i h, tn i h → ∀ b ∈ fp, ∃ o, h.get? b = some o ∧ ∀ v, o.data ≠ .cell v
  keep : ∀ i h h', tn i h → (∀ b ∈ fp, ∀ o, h.get? b = some o → h'.get? b = some o) → tn i h'
  item : ∀ (X : Cx), X.prog = P → X.w = w → X.K = K → X.calm = true → ∀ (i : Nat) (pins : List (Addr × Obj)) (s : Shared) (σ : St) (H : Hp) (E : Value → Shared → Prop), Inv X pins σ H s → (∀ b ∈ fp, FpOk X pins H b) → tn i s.heap → J.go i H →
    wpAny (model P w) X.A (pyNext (.ref it)) (fun r s1 => ∃ u, r = some u ∧
      wpAny (model P w) X.A (letOwnedTupleGo tg (.ref it) u) (fun _ s2 => ∃ x H', Inv X pins σ H' s2 ∧ RelV x u ∧ J.yld i H x H' ∧ tn (i + 1) s2.heap ∧ ∀ b ∈ fp, H' b = none) E s1) E s
  done : ∀ (X : Cx), X.prog = P → X.w = w → X.K = K → X.calm = true → ∀ (i : Nat) (pins : List (Addr × Obj)) (s : Shared) (σ : St) (H : Hp) (E : Value → Shared → Prop), Inv X pins σ H s → (∀ b ∈ fp, FpOk X pins H b) → tn i s.heap → J.stop i H →
    wpAny (model P w) X.A (pyNext (.ref it)) (fun r s1 => r = none ∧ Inv X pins σ H s1) E s
  self : ∀ (A : Around) (i : Nat) (s : Shared) (Q : Value → Shared → Prop) (E : Value → Shared → Prop), tn i s.heap → Q (.ref it) s → wpAny (model P w) A (pyIter (.ref it)) Q E s
abbrev TI := St → Hp → (It → Hp → Prop) → Prop
/-- an iterator has come -/
def PIE (X : Cx) (pins : List (Addr × Obj)) (σ : St) (tg : Expr) (R : It → Hp → Prop) (itv : Value) (s2 : Shared) : Prop :=
  ∃ (it : Addr) (fp : List Addr) (tn : Nat → Heap → Prop) (J : It) (H' : Hp), itv = .ref it ∧ Inv X pins σ H' s2 ∧ Turn X.prog X.w X.K tg J fp it tn ∧ tn 0 s2.heap ∧ (∀ b ∈ fp, FpOk X pins H' b) ∧ R J H'
def PI (X : Cx) (tg iter : Expr) (wi : TI) : Prop :=
  ∀ (pins : List (Addr × Obj)) (s : Shared) (σ : St) (H : Hp) (R : It → Hp → Prop), Inv X pins σ H s → wi σ H R →
    wpAny (model X.prog X.w) X.A (eval iter X.env) (fun v s1 => wpAny (model X.prog X.w) X.A (pyIter v) (PIE X pins σ tg R) X.xe s1) X.xe s

/-- the step ahead of the store is nothing for an iterator that keeps no tuple -/
theorem go_of {M : Model} {A : Around} {E : Value → Shared → Prop} {s : Shared} {tg : Expr} {it : Addr} {u : Value} {o : Obj} {n : String} {vs : Array Value} {Q : Unit → Shared → Prop} (ho : s.heap.get? it = some o) (hc : o.cls = .type n) (hd : o.data = .fields vs)
    (hn : ["enumerate", "zip", "dict_itemiterator", "dict_reverseitemiterator", "odict_iterator", "itertools.zip_longest", "itertools.pairwise"].contains n = false) (hQ : Q () s) : wpAny M A (letOwnedTupleGo tg (.ref it) u) Q E s := by
  unfold letOwnedTupleGo
  cases tg <;> first
    | exact wpAny_pure hQ
    | (cases u <;> first
        | exact wpAny_pure hQ
        | (refine wpAny_bind (wpAny_load ho ?_)
           rw [hc, hd]
           show wpAny M A (if (["enumerate", "zip", "dict_itemiterator", "dict_reverseitemiterator", "odict_iterator", "itertools.zip_longest", "itertools.pairwise"].contains n && vs[0]? == some (rawInt _)) = true then _ else _) Q E s
           rw [if_neg (by intro h; rw [hn, Bool.false_and] at h; cases h)]
           exact wpAny_pure hQ))

/-- the list at a, as it stands at each turn (a loop may append to it) -/
def Itl (K : PySem.W.Frag) (a : Addr) : It :=
  ⟨fun i H => ∃ xs x, SqL K H a xs ∧ xs[i]? = some x, fun i H x H' => H' = H ∧ ∀ xs, SqL K H a xs → xs[i]? = some x, fun i H => ∃ xs, SqL K H a xs ∧ xs.length ≤ i⟩
def Itt (K : PySem.W.Frag) (a : Addr) : It :=
  ⟨fun i H => ∃ xs x, SqT K H a xs ∧ xs[i]? = some x, fun i H x H' => H' = H ∧ ∀ xs, SqT K H a xs → xs[i]? = some x, fun i H => ∃ xs, SqT K H a xs ∧ xs.length ≤ i⟩
/-- lo, lo + 1, .. (n of them) -/
def Itr (lo : Int) (n : Nat) : It := ⟨fun i _ => i < n, fun i H x H' => H' = H ∧ x = .int (lo + i), fun i _ => n ≤ i⟩
theorem turn_list {P : Program} {w : World} {K : PySem.W.Frag} {tg : Expr} (a it : Addr) : Turn P w K tg (Itl K a) [it] it (fun i h => h.IsListIter it a i) where
  mem := by simp
  obj := fun i h st b hb => by
    have e : b = it := by simpa using hb
    subst e
    obtain ⟨o, e, c, d⟩ := st
    exact ⟨o, e, fun v z => by rw [d] at z; cases z⟩
  keep := fun i h h' st k => st.at fun o e => k it (by simp) o e
  item := by
    intro X hP hw hK hc i pins s σ H E I hf st hg
    subst hP hw hK
    obtain ⟨xs, x, hq, hx⟩ := hg
    obtain ⟨its, rv, p, hz⟩ := I.list hq
    obtain ⟨u, hu, ru⟩ := rv.get hx
    obtain ⟨f0, f1, f2, f3, f4, f5⟩ := hf it (by simp)
    refine wpAny_pyNext_list_item st p.isList (x := u) (by simpa using hu) fun h' st' sb => ?_
    have I1 : Inv X pins σ H { s with heap := h' } := I.turned (t' := s.toks) (fun b o hb e => (sb.2 b hb).trans e) f0 f1 f3 f4 f5
    obtain ⟨o, e, c, d⟩ := id st'
    exact ⟨u, rfl, go_of (s := { s with heap := h' }) e c d (by decide) ⟨x, H, I1, ru, ⟨rfl, fun ys hy => by rw [I.list_inj hy hq]; exact hx⟩, st', fun b hb => (hf b hb).1⟩⟩
  done := by
    intro X hP hw hK hc i pins s σ H E I hf st hg
    subst hP hw hK
    obtain ⟨xs, hq, hx⟩ := hg
    obtain ⟨its, rv, p, hz⟩ := I.list hq
    obtain ⟨f0, f1, f2, f3, f4, f5⟩ := hf it (by simp)
    have hl := rv.length
    exact wpAny_pyNext_list_end (I.ok.hd hc) st p.isList (by simp; omega) fun h' eb => ⟨rfl, I.turned (t' := s.toks) (fun b o hb e => eb b o hb e) f0 f1 f3 f4 f5⟩
  self := fun _ _ _ _ _ st h => wpAny_pyIter_listiter st h
theorem turn_tuple {P : Program} {w : World} {K : PySem.W.Frag} {tg : Expr} (a it : Addr) : Turn P w K tg (Itt K a) [it] it (fun i h => h.IsTupleIter it a i) where
  mem := by simp
  obj := fun i h st b hb => by
    have e : b = it := by simpa using hb
    subst e
    obtain ⟨o, e, c, d⟩ := st
    exact ⟨o, e, fun v z => by rw [d] at z; cases z⟩
  keep := fun i h h' st k => st.at fun o e => k it (by simp) o e
  item := by
    intro X hP hw hK hc i pins s σ H E I hf st hg
    subst hP hw hK
    obtain ⟨xs, x, hq, hx⟩ := hg
    obtain ⟨its, rv, p, hz⟩ := I.tuple hq
    obtain ⟨u, hu, ru⟩ := rv.get hx
    obtain ⟨f0, f1, f2, f3, f4, f5⟩ := hf it (by simp)
    refine wpAny_pyNext_tuple_item st (show s.heap.IsTuple a its.toArray from p) (x := u) (by simpa using hu) fun h' st' sb => ?_
    have I1 : Inv X pins σ H { s with heap := h' } := I.turned (t' := s.toks) (fun b o hb e => (sb.2 b hb).trans e) f0 f1 f3 f4 f5
    obtain ⟨o, e, c, d⟩ := id st'
    exact ⟨u, rfl, go_of (s := { s with heap := h' }) e c d (by decide) ⟨x, H, I1, ru, ⟨rfl, fun ys hy => by rw [I.tuple_inj hy hq]; exact hx⟩, st', fun b hb => (hf b hb).1⟩⟩
  done := by
    intro X hP hw hK hc i pins s σ H E I hf st hg
    subst hP hw hK
    obtain ⟨xs, hq, hx⟩ := hg
    obtain ⟨its, rv, p, hz⟩ := I.tuple hq
    obtain ⟨f0, f1, f2, f3, f4, f5⟩ := hf it (by simp)
    have hl := rv.length
    exact wpAny_pyNext_tuple_end (I.ok.hd hc) st (show s.heap.IsTuple a its.toArray from p) (by simp; omega) fun h' eb => ⟨rfl, I.turned (t' := s.toks) (fun b o hb e => eb b o hb e) f0 f1 f3 f4 f5⟩
  self := fun _ _ _ _ _ st h => wpAny_pyIter_tupleiter st h
theorem turn_range {P : Program} {w : World} {K : PySem.W.Frag} {tg : Expr} (it : Addr) (lo : Int) (n : Nat) : Turn P w K tg (Itr lo n) [it] it (fun i h => IsRangeIter h it (lo + (i : Nat) * 1) ((n : Int) - (i : Nat)) 1) where
  mem := by simp
  obj := fun i h st b hb => by
    have e : b = it := by simpa using hb
    subst e
    exact ⟨_, st, fun v z => by
      have z' : Data.fields _ = Data.cell v := z
      cases z'⟩
  keep := fun i h h' st k => k it (by simp) _ st
  item := by
    intro X hP hw hK hc i pins s σ H E I hf st hg
    subst hP hw hK
    obtain ⟨f0, f1, f2, f3, f4, f5⟩ := hf it (by simp)
    have W := Walks.range (prog := X.prog) (w := X.w) (I.ok.hd hc) it lo 1 n
    refine W.item i s _ _ hg st fun v h' tk hv st' kk => ?_
    obtain ⟨t, rfl⟩ := hv
    have I1 : Inv X pins σ H { s with heap := h', toks := tk } := I.turned (fun b o hb e => kk b o (by simpa using hb) e) f0 f1 f3 f4 f5
    refine ⟨_, rfl, go_of (s := { s with heap := h', toks := tk }) (n := "range_iterator") st' rfl rfl (by decide) ⟨.int (lo + i), H, I1, ⟨t, ?_⟩, ⟨rfl, rfl⟩, st', fun b hb => (hf b hb).1⟩⟩
    rw [Int.mul_one]
  done := by
    intro X hP hw hK hc i pins s σ H E I hf st hg
    subst hP hw hK
    obtain ⟨f0, f1, f2, f3, f4, f5⟩ := hf it (by simp)
    exact wpAny_pyNext_range_end (I.ok.hd hc) st (by have : n ≤ i := hg; omega) fun h' eb => ⟨rfl, I.turned (t' := s.toks) (fun b o hb e => eb b o hb e) f0 f1 f3 f4 f5⟩
  self := fun _ _ _ _ _ st h => wpAny_pyIter_rangeiter st h
end L2

namespace L2
open PySem PySem.Spec PyProof.Rows
section
variable {X : Cx} {tg : Expr}
def iList (K : PySem.W.Frag) (tl : TE) : TI := fun σ H R => tl σ H fun x H1 => ∃ a, x = .ref a ∧ (∃ xs, SqL K H1 a xs) ∧ R (Itl K a) H1
def iTup (K : PySem.W.Frag) (tl : TE) : TI := fun σ H R => tl σ H fun x H1 => ∃ a, x = .ref a ∧ (∃ xs, SqT K H1 a xs) ∧ R (Itt K a) H1
theorem pi_list {l : Expr} {tl : TE} (hl : PE X l tl) : PI X tg l (iList X.K tl) := by
  intro pins s σ H R I h
  refine thn (hl pins s σ H _ I h) fun v s1 ⟨x, H1, I1, r1, q1⟩ => ?_
  obtain ⟨a, e, ⟨xs, hq⟩, q⟩ := q1
  subst e
  cases r1
  obtain ⟨its, rv, p, hz⟩ := I1.list hq
  refine wpAny_pyIter_list p.isList ?_
  refine ⟨s1.heap.objs.size, [s1.heap.objs.size], _, _, H1, rfl, I1.kept (t' := s1.toks) fun b o e => Heap.get?_push_of_some _ e, turn_list a _, ⟨_, Heap.get?_push_size _ rfl, rfl, rfl⟩, fun b hb => ?_, q⟩
  have e : b = s1.heap.objs.size := by simpa using hb
  subst e
  exact I1.fpOk (Nat.le_refl _) (I1.hok.fresh (Nat.le_refl _))
theorem pi_tup {l : Expr} {tl : TE} (hl : PE X l tl) : PI X tg l (iTup X.K tl) := by
  intro pins s σ H R I h
  refine thn (hl pins s σ H _ I h) fun v s1 ⟨x, H1, I1, r1, q1⟩ => ?_
  obtain ⟨a, e, ⟨xs, hq⟩, q⟩ := q1
  subst e
  cases r1
  obtain ⟨its, rv, p, hz⟩ := I1.tuple hq
  refine wpAny_pyIter_tuple (show s1.heap.IsTuple a its.toArray from p) ?_
  refine ⟨s1.heap.objs.size, [s1.heap.objs.size], _, _, H1, rfl, I1.kept (t' := s1.toks) fun b o e => Heap.get?_push_of_some _ e, turn_tuple a _, ⟨_, Heap.get?_push_size _ rfl, rfl, rfl⟩, fun b hb => ?_, q⟩
  have e : b = s1.heap.objs.size := by simpa using hb
  subst e
  exact I1.fpOk (Nat.le_refl _) (I1.hok.fresh (Nat.le_refl _))
/-- a range object just made, walked -/
theorem range_it {pins : List (Addr × Obj)} {σ : St} {H : Hp} {s : Shared} {R : It → Hp → Prop} {E : Value → Shared → Prop} {lo hi : Int} {t u v : Tok} {tk : Nat} (I : Inv X pins σ H s) (h1 : -(2 ^ 62) ≤ lo) (h2 : lo < 2 ^ 62) (h3 : -(2 ^ 62) ≤ hi) (h4 : hi < 2 ^ 62)
    (q : R (Itr lo (hi - lo).toNat) H) : wpAny (model X.prog X.w) X.A (pyIter (.ref s.heap.objs.size)) (PIE X pins σ tg R) E { s with heap := s.heap.push { cls := .type "range", data := .fields #[.int lo t, .int hi u, .int 1 v] }, toks := tk } := by
  refine wpAny_pyIter_range (IsRange.new ..) (small_one h1 h2 h3 h4) ?_
  have I1 : Inv X pins σ H { s with heap := s.heap.push { cls := .type "range", data := .fields #[.int lo t, .int hi u, .int 1 v] }, toks := tk } := I.kept fun b o e => Heap.get?_push_of_some _ e
  refine ⟨(s.heap.push { cls := .type "range", data := .fields #[.int lo t, .int hi u, .int 1 v] }).objs.size, [(s.heap.push { cls := .type "range", data := .fields #[.int lo t, .int hi u, .int 1 v] }).objs.size], _, _, H, rfl,
    I1.kept (t' := tk) fun b o e => Heap.get?_push_of_some _ e, turn_range _ lo (hi - lo).toNat, ?_, fun b hb => ?_, q⟩
  · have e1 : lo + ((0 : Nat) : Int) * 1 = lo := by simp
    have e2 : (((hi - lo).toNat : Nat) : Int) - ((0 : Nat) : Int) = Builtin.Range.rangeSize lo hi 1 := by rw [rangeSize_one]; split <;> omega
    show IsRangeIter _ _ (lo + ((0 : Nat) : Int) * 1) ((((hi - lo).toNat : Nat) : Int) - ((0 : Nat) : Int)) 1
    rw [e1, e2]
    exact Heap.get?_push_size _ rfl
  · have e : b = (s.heap.push { cls := .type "range", data := .fields #[.int lo t, .int hi u, .int 1 v] }).objs.size := by simpa using hb
    subst e
    exact I1.fpOk (Nat.le_refl _) (I1.hok.fresh (Nat.le_refl _))
def iRng1 (ta : TA) : TI := fun σ H R => ta σ H fun vs H1 => ∃ j : Int, vs = [.int j] ∧ -(2 ^ 62) ≤ j ∧ j < 2 ^ 62 ∧ R (Itr 0 j.toNat) H1
def iRng2 (ta : TA) : TI := fun σ H R => ta σ H fun vs H1 => ∃ i j : Int, vs = [.int i, .int j] ∧ (-(2 ^ 62) ≤ i ∧ i < 2 ^ 62 ∧ -(2 ^ 62) ≤ j ∧ j < 2 ^ 62) ∧ R (Itr i (j - i).toNat) H1
theorem pi_range1 {a : Expr} {ta : TA} {p pos : Pos} (hg : Gl X "range") (hm : X.mg "range" = none) (ha : PA X [a] ta) (hs : starEach [a] X.env = [(false, eval a X.env)] := by rfl) : PI X tg (.Call (.Name "range" p) [a] [] pos) (iRng1 ta) := by
  intro pins s σ H R I h
  refine Call_ (ld_blt I hg hm boot_range (PyProof.Rows.callWith_type1 (thn (ha pos pins s σ H _ I h) fun us s1 ⟨vs, H1, I1, r1, q1⟩ => ?_) hs rfl))
  obtain ⟨j, e, q1, q2, q⟩ := q1
  subst e
  cases r1 with
  | cons r rr =>
    cases rr
    obtain ⟨t, rfl⟩ := r
    exact call_range_1 (range_it I1 (by omega) (by omega) q1 q2 (by simpa using q))
theorem pi_range2 {a b : Expr} {ta : TA} {p pos : Pos} (hg : Gl X "range") (hm : X.mg "range" = none) (ha : PA X [a, b] ta) (hs : starEach [a, b] X.env = [(false, eval a X.env), (false, eval b X.env)] := by rfl) (hs2 : starEach [b] X.env = [(false, eval b X.env)] := by rfl) :
    PI X tg (.Call (.Name "range" p) [a, b] [] pos) (iRng2 ta) := by
  intro pins s σ H R I h
  refine Call_ (ld_blt I hg hm boot_range (PyProof.Rows.callWith_type1 (thn (ha pos pins s σ H _ I h) fun us s1 ⟨vs, H1, I1, r1, q1⟩ => ?_) (by rw [hs, hs2]) (by rw [hs2]; rfl)))
  obtain ⟨i, j, e, ⟨q1, q2, q3, q4⟩, q⟩ := q1
  subst e
  cases r1 with
  | cons r rr =>
    cases rr with
    | cons r' rr =>
      cases rr
      obtain ⟨t, rfl⟩ := r
      obtain ⟨t', rfl⟩ := r'
      exact call_range_2 (range_it I1 q1 q2 q3 q4 q)

/-! ### for -/
/-- W: the invariant by the turn and a measure; N: what the body is to reach -/
def tFor (wi : TI) (g : TG) (tb : TS) : TS := fun D σ H => wi σ H fun J H1 => ∃ W : Nat → Nat → St → Hp → Prop, (∃ m, W 0 m σ H1) ∧ ∀ i m σ H, W i m σ H →
  (J.stop i H ∧ D.nx σ H) ∨ (J.go i H ∧ ∃ N : St → Hp → Prop, (∀ σ' H', N σ' H' → ∃ m', m' < m ∧ W (i + 1) m' σ' H') ∧ ∀ x H', J.yld i H x H' → g x σ H' fun σ2 H2 => tb { D with nx := N, ct := N, bk := D.nx } σ2 H2)
/-- the records at fp as they stand -/
def pinsAt (fp : List Addr) (h : Heap) : List (Addr × Obj) := fp.filterMap fun b => (h.get? b).map fun o => (b, o)
theorem mem_pinsAt {fp : List Addr} {h : Heap} {b : Addr} {o : Obj} (hb : b ∈ fp) (e : h.get? b = some o) : (b, o) ∈ pinsAt fp h := List.mem_filterMap.mpr ⟨b, hb, by rw [e]; rfl⟩
theorem of_pinsAt {fp : List Addr} {h : Heap} {p : Addr × Obj} (hp : p ∈ pinsAt fp h) : p.1 ∈ fp ∧ h.get? p.1 = some p.2 := by
  obtain ⟨b, hb, e⟩ := List.mem_filterMap.mp hp
  cases q : h.get? b with
  | none => rw [q] at e; cases e
  | some o =>
    rw [q] at e
    have e' : (b, o) = p := Option.some.inj e
    subst e'
    exact ⟨hb, q⟩
theorem Inv.pinned {pins : List (Addr × Obj)} {σ : St} {H : Hp} {s : Shared} {fp : List Addr} (I : Inv X pins σ H s) (hf : ∀ b ∈ fp, FpOk X pins H b) (ho : ∀ b ∈ fp, ∃ o, s.heap.get? b = some o ∧ ∀ v, o.data ≠ .cell v) : Inv X (pins ++ pinsAt fp s.heap) σ H s :=
  I.pins_of fun p hp => (List.mem_append.mp hp).elim (fun z => I.pin p (List.mem_append_right _ z)) fun z => by
    obtain ⟨hb, e⟩ := of_pinsAt z
    obtain ⟨f0, f1, f2, _⟩ := hf p.1 hb
    obtain ⟨o, e', d⟩ := ho p.1 hb
    rw [e] at e'; cases e'
    exact ⟨e, f0, f1, f2, d⟩
theorem Inv.unpinned {pins pl : List (Addr × Obj)} {σ : St} {H : Hp} {s : Shared} (I : Inv X (pins ++ pl) σ H s) : Inv X pins σ H s := I.pins_of fun p hp => I.pin p (List.mem_append_right _ (List.mem_append_left _ hp))
theorem ps_for {iter : Expr} {body : List Stmt} {wi : TI} {g : TG} {tb : TS} {pos : Pos} (hp : PassesOwn (model X.prog X.w) X.A X.env X.xe) (hc : X.calm = true) (hi : PI X tg iter wi) (hg : PG X tg g) (hb : PSs X body tb)
    (hs : ∀ x, foldedSetIterable iter X.env x = pure x := by intro _; rfl) : PS X (.For tg iter body [] pos) (tFor wi g tb) := by
  intro pins s σ H D I h
  refine wpAny_For (thn (hi pins s σ H _ I h) fun v s1 h1 => thn h1 fun itv s2 h2 => ?_) hs
  obtain ⟨it, fp, tn, J, H2, e, I2, T, st2, f2, W, ⟨m0, w0⟩, turn⟩ := h2
  subst e
  -- what stays true of the iterator's objects through the loop
  have stat : ∀ {H' : Hp}, (∀ b ∈ fp, H' b = none) → ∀ b ∈ fp, FpOk X pins H' b := fun hn b hb => ⟨hn b hb, (f2 b hb).2⟩
  refine codeAny_forLoop_any (fun n s' => ∃ i σ' H', Inv X pins σ' H' s' ∧ tn i s'.heap ∧ (∀ b ∈ fp, H' b = none) ∧ W i n σ' H') ?_ m0 ⟨0, σ, H2, I2, st2, fun b hb => (f2 b hb).1, w0⟩
  rintro n s3 ⟨i, σ3, H3, I3, st3, fr3, w3⟩
  rcases turn i n σ3 H3 w3 with ⟨stop, qn⟩ | ⟨go, N, hN, step⟩
  · refine wpAny_passesOwn hp (thn (T.done X rfl rfl rfl hc i pins s3 σ3 H3 X.xe I3 (stat fr3) st3 stop) fun r s4 ⟨hr, I4⟩ => ?_)
    subst hr
    exact wpAny_execs_nil ⟨σ3, H3, I4, qn⟩
  · refine wpAny_passesOwn hp (thn (T.item X rfl rfl rfl hc i pins s3 σ3 H3 X.xe I3 (stat fr3) st3 go) fun r s4 ⟨u, hr, h4⟩ => ?_)
    subst hr
    refine wpAny_passesOwn hp (thn h4 fun _ s5 ⟨x, H5, I5, r5, y5, st5, fr5⟩ => ?_)
    have I5' := I5.pinned (stat fr5) (T.obj _ _ st5)
    refine wpAny_passesOwn hp (thn (hg _ s5 σ3 H5 x u _ I5' r5 (step x H5 y5)) fun _ s6 ⟨σ6, H6, I6, q6⟩ => ?_)
    refine wpAny_passesOwn hp (thn (hb _ s6 σ6 H6 _ I6 q6) fun f s7 q7 => ?_)
    have again : ∀ {σ7 : St} {H7 : Hp}, Inv X (pins ++ pinsAt fp s5.heap) σ7 H7 s7 → N σ7 H7 → ∃ m, m < n ∧ ∃ i σ' H', Inv X pins σ' H' s7 ∧ tn i s7.heap ∧ (∀ b ∈ fp, H' b = none) ∧ W i m σ' H' := fun {σ7 H7} I7 n7 => by
      obtain ⟨m', hm, w7⟩ := hN σ7 H7 n7
      refine ⟨m', hm, i + 1, σ7, H7, I7.unpinned, T.keep _ _ _ st5 fun b hb o e => (I7.pin (b, o) (List.mem_append_right _ (List.mem_append_right _ (mem_pinsAt hb e)))).1, fun b hb => ?_, w7⟩
      obtain ⟨o, e, d⟩ := T.obj _ _ st5 b hb
      exact (I7.pin (b, o) (List.mem_append_right _ (List.mem_append_right _ (mem_pinsAt hb e)))).2.1
    cases f with
    | next => obtain ⟨σ7, H7, I7, n7⟩ := q7; exact again I7 n7
    | cont => obtain ⟨σ7, H7, I7, n7⟩ := q7; exact again I7 n7
    | brk => obtain ⟨σ7, H7, I7, q7⟩ := q7; exact ⟨σ7, H7, I7.unpinned, q7⟩
    | ret v => obtain ⟨x7, σ7, H7, I7, r7, q7⟩ := q7; exact ⟨x7, σ7, H7, I7.unpinned, r7, q7⟩
end

/-! ### the forms one uses -/
/-- over a list that the body leaves as it is -/
theorem for_list {K : PySem.W.Frag} {a : Addr} {xs : List V} {g : TG} {tb : TS} {D : Ends} {σ : St} {H : Hp} (Pv : Nat → St → Hp → Prop) (h0 : Pv 0 σ H) (hl : ∀ i σ H, i ≤ xs.length → Pv i σ H → SqL K H a xs)
    (hs : ∀ i x σ H, xs[i]? = some x → Pv i σ H → g x σ H fun σ2 H2 => tb { D with nx := Pv (i + 1), ct := Pv (i + 1), bk := D.nx } σ2 H2) (hd : ∀ σ H, Pv xs.length σ H → D.nx σ H) :
    ∃ W : Nat → Nat → St → Hp → Prop, (∃ m, W 0 m σ H) ∧ ∀ i m σ H, W i m σ H →
      ((Itl K a).stop i H ∧ D.nx σ H) ∨ ((Itl K a).go i H ∧ ∃ N : St → Hp → Prop, (∀ σ' H', N σ' H' → ∃ m', m' < m ∧ W (i + 1) m' σ' H') ∧ ∀ x H', (Itl K a).yld i H x H' → g x σ H' fun σ2 H2 => tb { D with nx := N, ct := N, bk := D.nx } σ2 H2) := by
  refine ⟨fun i m σ H => m = xs.length - i ∧ i ≤ xs.length ∧ Pv i σ H, ⟨xs.length, by simp, Nat.zero_le _, h0⟩, ?_⟩
  rintro i m σ H ⟨rfl, hi, p⟩
  have q := hl i σ H hi p
  by_cases hlt : i < xs.length
  · refine .inr ⟨⟨xs, xs[i], q, by simp [hlt]⟩, Pv (i + 1), fun σ' H' p' => ⟨xs.length - (i + 1), by omega, rfl, hlt, p'⟩, fun x H' y => ?_⟩
    obtain ⟨e, y⟩ := y
    subst e
    exact hs i x σ _ (y xs q) p
  · have e : i = xs.length := by omega
    subst e
    exact .inl ⟨⟨xs, q, Nat.le_refl _⟩, hd σ H p⟩
theorem for_tup {K : PySem.W.Frag} {a : Addr} {xs : List V} {g : TG} {tb : TS} {D : Ends} {σ : St} {H : Hp} (Pv : Nat → St → Hp → Prop) (h0 : Pv 0 σ H) (hl : ∀ i σ H, i ≤ xs.length → Pv i σ H → SqT K H a xs)
    (hs : ∀ i x σ H, xs[i]? = some x → Pv i σ H → g x σ H fun σ2 H2 => tb { D with nx := Pv (i + 1), ct := Pv (i + 1), bk := D.nx } σ2 H2) (hd : ∀ σ H, Pv xs.length σ H → D.nx σ H) :
    ∃ W : Nat → Nat → St → Hp → Prop, (∃ m, W 0 m σ H) ∧ ∀ i m σ H, W i m σ H →
      ((Itt K a).stop i H ∧ D.nx σ H) ∨ ((Itt K a).go i H ∧ ∃ N : St → Hp → Prop, (∀ σ' H', N σ' H' → ∃ m', m' < m ∧ W (i + 1) m' σ' H') ∧ ∀ x H', (Itt K a).yld i H x H' → g x σ H' fun σ2 H2 => tb { D with nx := N, ct := N, bk := D.nx } σ2 H2) := by
  refine ⟨fun i m σ H => m = xs.length - i ∧ i ≤ xs.length ∧ Pv i σ H, ⟨xs.length, by simp, Nat.zero_le _, h0⟩, ?_⟩
  rintro i m σ H ⟨rfl, hi, p⟩
  have q := hl i σ H hi p
  by_cases hlt : i < xs.length
  · refine .inr ⟨⟨xs, xs[i], q, by simp [hlt]⟩, Pv (i + 1), fun σ' H' p' => ⟨xs.length - (i + 1), by omega, rfl, hlt, p'⟩, fun x H' y => ?_⟩
    obtain ⟨e, y⟩ := y
    subst e
    exact hs i x σ _ (y xs q) p
  · have e : i = xs.length := by omega
    subst e
    exact .inl ⟨⟨xs, q, Nat.le_refl _⟩, hd σ H p⟩
theorem for_range {lo : Int} {n : Nat} {g : TG} {tb : TS} {D : Ends} {σ : St} {H : Hp} (Pv : Nat → St → Hp → Prop) (h0 : Pv 0 σ H)
    (hs : ∀ i σ H, i < n → Pv i σ H → g (.int (lo + i)) σ H fun σ2 H2 => tb { D with nx := Pv (i + 1), ct := Pv (i + 1), bk := D.nx } σ2 H2) (hd : ∀ σ H, Pv n σ H → D.nx σ H) :
    ∃ W : Nat → Nat → St → Hp → Prop, (∃ m, W 0 m σ H) ∧ ∀ i m σ H, W i m σ H →
      ((Itr lo n).stop i H ∧ D.nx σ H) ∨ ((Itr lo n).go i H ∧ ∃ N : St → Hp → Prop, (∀ σ' H', N σ' H' → ∃ m', m' < m ∧ W (i + 1) m' σ' H') ∧ ∀ x H', (Itr lo n).yld i H x H' → g x σ H' fun σ2 H2 => tb { D with nx := N, ct := N, bk := D.nx } σ2 H2) := by
  refine ⟨fun i m σ H => m = n - i ∧ i ≤ n ∧ Pv i σ H, ⟨n, by simp, Nat.zero_le _, h0⟩, ?_⟩
  rintro i m σ H ⟨rfl, hi, p⟩
  by_cases hlt : i < n
  · refine .inr ⟨hlt, Pv (i + 1), fun σ' H' p' => ⟨n - (i + 1), by omega, rfl, hlt, p'⟩, fun x H' y => ?_⟩
    obtain ⟨e, y⟩ := y
    subst e y
    exact hs i σ _ hlt p
  · have e : i = n := by omega
    subst e
    exact .inl ⟨Nat.le_refl _, hd σ H p⟩
/-- while, by a word and a measure of the state -/
theorem while_by {c : TT} {tb : TS} {D : Ends} {σ : St} {H : Hp} (Pv : St → Hp → Prop) (μ : St → Hp → Nat) (h0 : Pv σ H)
    (hs : ∀ σ H, Pv σ H → c σ H fun b H1 => if b = true then tb { D with nx := fun σ' H' => Pv σ' H' ∧ μ σ' H' < μ σ H, ct := fun σ' H' => Pv σ' H' ∧ μ σ' H' < μ σ H, bk := D.nx } σ H1 else D.nx σ H1)
    (mono : ∀ σ H Q Q', (∀ b H1, Q b H1 → Q' b H1) → c σ H Q → c σ H Q') : tWhile c tb D σ H := by
  refine ⟨fun m σ H => m = μ σ H ∧ Pv σ H, ⟨_, rfl, h0⟩, ?_⟩
  rintro m σ H ⟨rfl, p⟩
  refine mono σ H _ _ (fun b H1 q => ?_) (hs σ H p)
  cases b with
  | true => exact ⟨_, fun σ' H' ⟨p', l⟩ => ⟨_, l, rfl, p'⟩, q⟩
  | false => exact q
end L2

namespace L2
open PySem PySem.Spec PyProof.Rows

abbrev R2 := V → V → Hp → VK → Prop
/-- a two-place operation on values: f is binaryOp op, inplaceOp op or compareOp op -/
def OpR (X : Cx) (f : Value → Value → Sem Value) (r : R2) : Prop :=
  ∀ (pins : List (Addr × Obj)) (s : Shared) (σ : St) (H : Hp) (x y : V) (v u : Value) (Q : VK), Inv X pins σ H s → RelV x v → RelV y u → r x y H Q →
    wpAny (model X.prog X.w) X.A (f v u) (EP X pins σ Q) X.xe s
/-- a one-place operation -/
def UnR (X : Cx) (f : Value → Sem Value) (r : V → Hp → VK → Prop) : Prop :=
  ∀ (pins : List (Addr × Obj)) (s : Shared) (σ : St) (H : Hp) (x : V) (v : Value) (Q : VK), Inv X pins σ H s → RelV x v → r x H Q →
    wpAny (model X.prog X.w) X.A (f v) (EP X pins σ Q) X.xe s
/-- a call of a value that is known (a builtin, a type) with values -/
def CallR (X : Cx) (f : Value) (r : List V → Hp → VK → Prop) : Prop :=
  ∀ (pins : List (Addr × Obj)) (s : Shared) (σ : St) (H : Hp) (xs : List V) (us : List Value) (Q : VK), Inv X pins σ H s → Vals xs us → r xs H Q →
    wpAny (model X.prog X.w) X.A (call f us) (EP X pins σ Q) X.xe s
/-- a value's truth -/
def TruR (X : Cx) (r : V → Hp → (Bool → Hp → Prop) → Prop) : Prop :=
  ∀ (pins : List (Addr × Obj)) (s : Shared) (σ : St) (H : Hp) (x : V) (v : Value) (Q : Bool → Hp → Prop), Inv X pins σ H s → RelV x v → r x H Q →
    wpAny (model X.prog X.w) X.A (truthy v) (TP X pins σ Q) X.xe s

def tOp (r : R2) (ta tb : TE) : TE := fun σ H Q => ta σ H fun x H1 => tb σ H1 fun y H2 => r x y H2 Q
def tUn (r : V → Hp → VK → Prop) (ta : TE) : TE := fun σ H Q => ta σ H fun x H1 => r x H1 Q
/-- ints in, under C, and a value out -/
def rI (C : Int → Int → Prop) (g : Int → Int → V) : R2 := fun x y H Q => ∃ i j, x = .int i ∧ y = .int j ∧ C i j ∧ Q (g i j) H
def rI0 (g : Int → Int → V) : R2 := fun x y H Q => ∃ i j, x = .int i ∧ y = .int j ∧ Q (g i j) H
def rU (g : Int → V) : V → Hp → VK → Prop := fun x H Q => ∃ i, x = .int i ∧ Q (g i) H

section
variable {X : Cx} {a b c : Expr} {ta tb tc : TE} {pos : Pos}

theorem binT (ha : PE X a ta) (hb : PE X b tb) {pins : List (Addr × Obj)} {s : Shared} {σ : St} {H : Hp} {R : V → V → Hp → Prop} (I : Inv X pins σ H s)
    (h : ta σ H fun x H1 => tb σ H1 fun y H2 => R x y H2) {Q : Value → Shared → Prop} {f : Value → Value → Sem Value}
    (hf : ∀ v u s2 x y H2, Inv X pins σ H2 s2 → RelV x v → RelV y u → R x y H2 → wpAny (model X.prog X.w) X.A (f v u) Q X.xe s2) :
    wpAny (model X.prog X.w) X.A (eval a X.env) (fun v s₁ => wpAny (model X.prog X.w) X.A (eval b X.env) (fun u s₂ => wpAny (model X.prog X.w) X.A (f v u) Q X.xe s₂) X.xe s₁) X.xe s := by
  refine thn (ha pins s σ H _ I h) fun v s1 ⟨x, H1, I1, r1, q1⟩ => ?_
  refine thn (hb pins s1 σ H1 _ I1 q1) fun u s2 ⟨y, H2, I2, r2, q2⟩ => ?_
  exact hf v u s2 x y H2 I2 r1 r2 q2

theorem pe_op {op : Operator} {r : R2} (ho : OpR X (binaryOp op) r) (ha : PE X a ta) (hb : PE X b tb) : PE X (.BinOp a op b pos) (tOp r ta tb) := by
  intro pins s σ H Q I h
  exact wpAny_BinOp (binT ha hb I h fun v u s2 x y H2 I2 rx ry q => ho pins s2 σ H2 x y v u Q I2 rx ry q)
theorem pe_un {op : UnaryOp} {r : V → Hp → VK → Prop} (ho : UnR X (unaryOp op) r) (ha : PE X a ta) : PE X (.UnaryOp op a pos) (tUn r ta) := by
  intro pins s σ H Q I h
  exact UnaryOp_ (thn (ha pins s σ H _ I h) fun v s1 ⟨x, H1, I1, r1, q1⟩ => ho pins s1 σ H1 x v Q I1 r1 q1)
/-- a op= e at a name: the name's slot i -/
theorem augR {op : Operator} {r : R2} (ho : OpR X (inplaceOp op) r) {pins : List (Addr × Obj)} {s : Shared} {σ : St} {H : Hp} {x y : V} {v u : Value} {Q : VK} (I : Inv X pins σ H s)
    (rx : RelV x v) (ry : RelV y u) (q : r x y H Q) : wpAny (model X.prog X.w) X.A (inplaceOp op v u) (EP X pins σ Q) X.xe s := ho pins s σ H x y v u Q I rx ry q

/-! ### ints -/
theorem opI {f : Value → Value → Sem Value} {C : Int → Int → Prop} {g : Int → Int → Int}
    (rule : ∀ (i j : Int) (t u : Tok) (s : Shared) (Q : Value → Shared → Prop) (E : Value → Shared → Prop), C i j → Q (.int (g i j) s.toks) { s with toks := s.toks + 1 } → wpAny (model X.prog X.w) X.A (f (.int i t) (.int j u)) Q E s) :
    OpR X f (rI C fun i j => .int (g i j)) := by
  intro pins s σ H x y v u Q I rx ry h
  obtain ⟨i, j, rfl, rfl, hc, q⟩ := h
  obtain ⟨t, rfl⟩ := rx
  obtain ⟨t', rfl⟩ := ry
  exact rule i j t t' s _ _ hc ⟨.int (g i j), H, I.tok _, ⟨_, rfl⟩, q⟩
theorem opI0 {f : Value → Value → Sem Value} {g : Int → Int → Int}
    (rule : ∀ (i j : Int) (t u : Tok) (s : Shared) (Q : Value → Shared → Prop) (E : Value → Shared → Prop), Q (.int (g i j) s.toks) { s with toks := s.toks + 1 } → wpAny (model X.prog X.w) X.A (f (.int i t) (.int j u)) Q E s) :
    OpR X f (rI0 fun i j => .int (g i j)) := by
  intro pins s σ H x y v u Q I rx ry h
  obtain ⟨i, j, rfl, rfl, q⟩ := h
  obtain ⟨t, rfl⟩ := rx
  obtain ⟨t', rfl⟩ := ry
  exact rule i j t t' s _ _ ⟨.int (g i j), H, I.tok _, ⟨_, rfl⟩, q⟩
theorem opB0 {f : Value → Value → Sem Value} {g : Int → Int → Bool}
    (rule : ∀ (i j : Int) (t u : Tok) (s : Shared) (Q : Value → Shared → Prop) (E : Value → Shared → Prop), Q (.bool (g i j)) s → wpAny (model X.prog X.w) X.A (f (.int i t) (.int j u)) Q E s) :
    OpR X f (rI0 fun i j => .bl (g i j)) := by
  intro pins s σ H x y v u Q I rx ry h
  obtain ⟨i, j, rfl, rfl, q⟩ := h
  obtain ⟨t, rfl⟩ := rx
  obtain ⟨t', rfl⟩ := ry
  exact rule i j t t' s _ _ ⟨.bl (g i j), H, I, rfl, q⟩

def CDiv (i j : Int) : Prop := 0 < j ∧ j < 1073741824
def CDivN (i j : Int) : Prop := j ≠ 0 ∧ j.natAbs < 1073741824
def CPow (i j : Int) : Prop := 0 ≤ j ∧ j ≤ 1000000 ∧ i.natAbs < 2 ^ 64
def CMul (i j : Int) : Prop := (-(2 ^ 64) < i ∧ i < 2 ^ 64) ∨ (-(2 ^ 64) < j ∧ j < 2 ^ 64)
theorem CMul.ok {i j : Int} (h : CMul i j) : IntMulOk i j := by
  rcases h with ⟨h1, h2⟩ | ⟨h1, h2⟩
  · exact .of_left (intBits_le_64 h1 h2)
  · exact .of_right (intBits_le_64 h1 h2)
theorem two_pow_nn (k : Nat) : (0 : Int) ≤ 2 ^ k := by
  rw [two_pow_cast]
  exact Int.natCast_nonneg _

theorem op_add : OpR X (binaryOp .Add) (rI0 fun i j => .int (i + j)) := opI0 fun _ _ _ _ _ _ _ q => add_int q
theorem op_sub : OpR X (binaryOp .Sub) (rI0 fun i j => .int (i - j)) := opI0 fun _ _ _ _ _ _ _ q => sub_int q
theorem op_mul : OpR X (binaryOp .Mult) (rI CMul fun i j => .int (i * j)) := opI fun _ _ _ _ _ _ _ hc q => mul_int q hc.ok
/-- // by a positive divisor -/
theorem op_fdiv : OpR X (binaryOp .FloorDiv) (rI CDiv fun i j => .int (i / j)) := opI fun i j _ _ _ _ _ hc q => by
  have h1 : (0 : Int) < j := hc.1
  have h2 : j < 1073741824 := hc.2
  exact floordiv_int (by omega) (by rw [Int.fdiv_eq_ediv_of_nonneg i (by omega)]; exact q) (.inl (PyProof.noPylong_small (by omega)))
theorem op_fdivN : OpR X (binaryOp .FloorDiv) (rI CDivN fun i j => .int (i.fdiv j)) := opI fun _ _ _ _ _ _ _ hc q => floordiv_int hc.1 q (.inl (PyProof.noPylong_small hc.2))
/-- % by a positive divisor of any size -/
theorem op_mod : OpR X (binaryOp .Mod) (rI (fun _ j => 0 < j) fun i j => .int (i % j)) := opI fun i j _ _ _ _ _ hc q => by
  have h1 : (0 : Int) < j := hc
  exact mod_int' (by omega) (by rw [Int.fmod_eq_emod_of_nonneg i (by omega)]; exact q)
theorem op_modN : OpR X (binaryOp .Mod) (rI (fun _ j => j ≠ 0) fun i j => .int (i.fmod j)) := opI fun _ _ _ _ _ _ _ hc q => mod_int' hc q
theorem op_pow : OpR X (binaryOp .Pow) (rI CPow fun i j => .int (i ^ j.toNat)) := opI fun _ _ _ _ _ _ _ hc q => pow_int_small hc.1 hc.2.1 hc.2.2 q
theorem op_shl : OpR X (binaryOp .LShift) (rI CPow fun i j => .int (i * 2 ^ j.toNat)) := opI fun _ _ _ _ _ _ _ hc q => lshift_int_small hc.1 hc.2.1 hc.2.2 q
theorem op_shr : OpR X (binaryOp .RShift) (rI (fun _ j => 0 ≤ j) fun i j => .int (i / 2 ^ j.toNat)) := opI fun i j _ _ _ _ _ hc q =>
  rshift_int hc (by rw [Int.fdiv_eq_ediv_of_nonneg i (two_pow_nn _)]; exact q)
theorem op_and : OpR X (binaryOp .BitAnd) (rI0 fun i j => .int (Builtin.bitAnd i j)) := opI0 fun _ _ _ _ _ _ _ q => and_int q
theorem op_or : OpR X (binaryOp .BitOr) (rI0 fun i j => .int (Builtin.bitOr i j)) := opI0 fun _ _ _ _ _ _ _ q => or_int q
theorem op_xor : OpR X (binaryOp .BitXor) (rI0 fun i j => .int (Builtin.bitXor i j)) := opI0 fun _ _ _ _ _ _ _ q => xor_int q

theorem iop_add : OpR X (inplaceOp .Add) (rI0 fun i j => .int (i + j)) := opI0 fun _ _ _ _ _ _ _ q => iadd_int q
theorem iop_sub : OpR X (inplaceOp .Sub) (rI0 fun i j => .int (i - j)) := opI0 fun _ _ _ _ _ _ _ q => isub_int q
theorem iop_mul : OpR X (inplaceOp .Mult) (rI CMul fun i j => .int (i * j)) := opI fun _ _ _ _ _ _ _ hc q => imul_int q hc.ok
theorem iop_fdiv : OpR X (inplaceOp .FloorDiv) (rI CDiv fun i j => .int (i / j)) := opI fun i j _ _ _ _ _ hc q => by
  have h1 : (0 : Int) < j := hc.1
  have h2 : j < 1073741824 := hc.2
  exact ifloordiv_int (by omega) (by rw [Int.fdiv_eq_ediv_of_nonneg i (by omega)]; exact q) (.inl (PyProof.noPylong_small (by omega)))
theorem iop_mod : OpR X (inplaceOp .Mod) (rI (fun _ j => 0 < j) fun i j => .int (i % j)) := opI fun i j _ _ _ _ _ hc q => by
  have h1 : (0 : Int) < j := hc
  exact imod_int (by omega) (by rw [Int.fmod_eq_emod_of_nonneg i (by omega)]; exact q)
theorem iop_shl : OpR X (inplaceOp .LShift) (rI CPow fun i j => .int (i * 2 ^ j.toNat)) := opI fun _ _ _ _ _ _ _ hc q => ilshift_int_small hc.1 hc.2.1 hc.2.2 q
theorem iop_shr : OpR X (inplaceOp .RShift) (rI (fun _ j => 0 ≤ j) fun i j => .int (i / 2 ^ j.toNat)) := opI fun i j _ _ _ _ _ hc q =>
  irshift_int hc (by rw [Int.fdiv_eq_ediv_of_nonneg i (two_pow_nn _)]; exact q)
theorem iop_and : OpR X (inplaceOp .BitAnd) (rI0 fun i j => .int (Builtin.bitAnd i j)) := opI0 fun _ _ _ _ _ _ _ q => iand_int q
theorem iop_or : OpR X (inplaceOp .BitOr) (rI0 fun i j => .int (Builtin.bitOr i j)) := opI0 fun _ _ _ _ _ _ _ q => ior_int q
theorem iop_xor : OpR X (inplaceOp .BitXor) (rI0 fun i j => .int (Builtin.bitXor i j)) := opI0 fun _ _ _ _ _ _ _ q => ixor_int q

theorem unI {f : Value → Sem Value} {g : Int → Int}
    (rule : ∀ (i : Int) (t : Tok) (s : Shared) (Q : Value → Shared → Prop) (E : Value → Shared → Prop), Q (.int (g i) s.toks) { s with toks := s.toks + 1 } → wpAny (model X.prog X.w) X.A (f (.int i t)) Q E s) :
    UnR X f (rU fun i => .int (g i)) := by
  intro pins s σ H x v Q I rx h
  obtain ⟨i, rfl, q⟩ := h
  obtain ⟨t, rfl⟩ := rx
  exact rule i t s _ _ ⟨.int (g i), H, I.tok _, ⟨_, rfl⟩, q⟩
theorem un_neg : UnR X (unaryOp .USub) (rU fun i => .int (-i)) := unI fun _ _ _ _ _ q => neg_int q
theorem un_inv : UnR X (unaryOp .Invert) (rU fun i => .int (Builtin.bitNot i)) := unI fun _ _ _ _ _ q => invert_int q

/-! ### bools among ints: n += (a < b) -/
theorem op_add_ib : OpR X (binaryOp .Add) (fun x y H Q => ∃ i k, x = .int i ∧ y = .bl k ∧ Q (.int (i + b2i k)) H) := by
  intro pins s σ H x y v u Q I rx ry h
  obtain ⟨i, k, rfl, rfl, q⟩ := h
  obtain ⟨t, rfl⟩ := rx
  cases ry
  exact add_int_bool ⟨.int (i + b2i k), H, I.tok _, ⟨_, rfl⟩, q⟩
end

/-! ### comparisons -/
/-- the scalars that == tells apart as data does -/
def scal : V → V → Bool
  | .non, .non => true | .non, .int _ => true | .int _, .non => true | .non, .bl _ => true | .bl _, .non => true | .non, .str _ => true | .str _, .non => true
  | .int _, .int _ => true | .bl _, .bl _ => true | .str _, .str _ => true | .byt _, .byt _ => true
  | .int _, .str _ => true | .str _, .int _ => true | .bl _, .str _ => true | .str _, .bl _ => true
  | _, _ => false
def rEq : R2 := fun x y H Q => scal x y = true ∧ Q (.bl (decide (x = y))) H
def rNe : R2 := fun x y H Q => scal x y = true ∧ Q (.bl (!decide (x = y))) H

theorem dec_int {i j : Int} : decide (V.int i = V.int j) = (i == j) := by
  rw [Bool.eq_iff_iff]
  simp
theorem dec_bl {i j : Bool} : decide (V.bl i = V.bl j) = (i == j) := by
  rw [Bool.eq_iff_iff]
  simp
theorem dec_str {i j : Str} : decide (V.str i = V.str j) = (i == j) := by
  rw [Bool.eq_iff_iff]
  simp
theorem dec_byt {i j : Array UInt8} : decide (V.byt i = V.byt j) = (i.toList == j.toList) := by
  rw [Bool.eq_iff_iff]
  cases i
  cases j
  simp

section
variable {X : Cx} {a b c : Expr} {ta tb tc : TE} {pos : Pos}
theorem fin_bl {pins : List (Addr × Obj)} {σ : St} {H : Hp} {s : Shared} {Q : VK} {k k' : Bool} (I : Inv X pins σ H s) (q : Q (.bl k) H) (e : k = k') : EP X pins σ Q (.bool k') s := by
  subst e
  exact ⟨.bl k, H, I, rfl, q⟩
theorem op_eq : OpR X (compareOp .Eq) rEq := by
  intro pins s σ H x y v u Q I rx ry h
  obtain ⟨hs, q⟩ := h
  cases x with
  | non =>
    cases rx
    cases y with
    | non => cases ry; exact PySem.EqNone.eq_none_none (fin_bl I q (by simp))
    | bl j => cases ry; exact PySem.EqNone.eq_none_bool (fin_bl I q (by simp))
    | int j => obtain ⟨t', rfl⟩ := ry; exact PySem.EqNone.eq_none_int (fin_bl I q (by simp))
    | str j => obtain ⟨t', rfl⟩ := ry; exact PySem.EqNone.eq_none_str (fin_bl I q (by simp))
    | _ => exact absurd (show false = true from hs) Bool.false_ne_true
  | bl i =>
    cases rx
    cases y with
    | non => cases ry; exact PySem.EqNone.eq_bool_none (fin_bl I q (by simp))
    | bl j => cases ry; exact eq_bool (fin_bl I q dec_bl)
    | str j => obtain ⟨t', rfl⟩ := ry; exact PySem.EqMixed.eq_bool_str (fin_bl I q (by simp))
    | _ => exact absurd (show false = true from hs) Bool.false_ne_true
  | int i =>
    obtain ⟨t, rfl⟩ := rx
    cases y with
    | non => cases ry; exact PySem.EqNone.eq_int_none (fin_bl I q (by simp))
    | int j => obtain ⟨t', rfl⟩ := ry; exact eq_int (fin_bl I q dec_int)
    | str j => obtain ⟨t', rfl⟩ := ry; exact PySem.EqMixed.eq_int_str (fin_bl I q (by simp))
    | _ => exact absurd (show false = true from hs) Bool.false_ne_true
  | str i =>
    obtain ⟨t, rfl⟩ := rx
    cases y with
    | non => cases ry; exact PySem.EqNone.eq_str_none (fin_bl I q (by simp))
    | bl j => cases ry; exact PySem.EqMixed.eq_str_bool (fin_bl I q (by simp))
    | int j => obtain ⟨t', rfl⟩ := ry; exact PySem.EqMixed.eq_str_int (fin_bl I q (by simp))
    | str j => obtain ⟨t', rfl⟩ := ry; exact eq_str (fin_bl I q dec_str)
    | _ => exact absurd (show false = true from hs) Bool.false_ne_true
  | byt i =>
    obtain ⟨t, rfl⟩ := rx
    cases y with
    | byt j => obtain ⟨t', rfl⟩ := ry; exact PySem.W.eq_bytes (fin_bl I q dec_byt)
    | _ => exact absurd (show false = true from hs) Bool.false_ne_true
  | _ => cases y <;> exact absurd (show false = true from hs) Bool.false_ne_true
theorem op_ne : OpR X (compareOp .NotEq) rNe := by
  intro pins s σ H x y v u Q I rx ry h
  obtain ⟨hs, q⟩ := h
  cases x with
  | non =>
    cases rx
    cases y with
    | non => cases ry; exact PySem.EqNone.ne_none_none (fin_bl I q (by simp))
    | bl j => cases ry; exact PySem.EqNone.ne_none_bool (fin_bl I q (by simp))
    | int j => obtain ⟨t', rfl⟩ := ry; exact PySem.EqNone.ne_none_int (fin_bl I q (by simp))
    | str j => obtain ⟨t', rfl⟩ := ry; exact PySem.EqNone.ne_none_str (fin_bl I q (by simp))
    | _ => exact absurd (show false = true from hs) Bool.false_ne_true
  | bl i =>
    cases rx
    cases y with
    | non => cases ry; exact PySem.EqNone.ne_bool_none (fin_bl I q (by simp))
    | bl j => cases ry; exact ne_bool (fin_bl I q (congrArg not dec_bl))
    | str j => obtain ⟨t', rfl⟩ := ry; exact PySem.EqMixed.ne_bool_str (fin_bl I q (by simp))
    | _ => exact absurd (show false = true from hs) Bool.false_ne_true
  | int i =>
    obtain ⟨t, rfl⟩ := rx
    cases y with
    | non => cases ry; exact PySem.EqNone.ne_int_none (fin_bl I q (by simp))
    | int j => obtain ⟨t', rfl⟩ := ry; exact ne_int (fin_bl I q (congrArg not dec_int))
    | str j => obtain ⟨t', rfl⟩ := ry; exact PySem.EqMixed.ne_int_str (fin_bl I q (by simp))
    | _ => exact absurd (show false = true from hs) Bool.false_ne_true
  | str i =>
    obtain ⟨t, rfl⟩ := rx
    cases y with
    | non => cases ry; exact PySem.EqNone.ne_str_none (fin_bl I q (by simp))
    | bl j => cases ry; exact PySem.EqMixed.ne_str_bool (fin_bl I q (by simp))
    | int j => obtain ⟨t', rfl⟩ := ry; exact PySem.EqMixed.ne_str_int (fin_bl I q (by simp))
    | str j => obtain ⟨t', rfl⟩ := ry; exact ne_str (fin_bl I q (congrArg not dec_str))
    | _ => exact absurd (show false = true from hs) Bool.false_ne_true
  | byt i =>
    obtain ⟨t, rfl⟩ := rx
    cases y with
    | byt j => obtain ⟨t', rfl⟩ := ry; exact PySem.W.ne_bytes (fin_bl I q (congrArg not dec_byt))
    | _ => exact absurd (show false = true from hs) Bool.false_ne_true
  | _ => cases y <;> exact absurd (show false = true from hs) Bool.false_ne_true

theorem op_lt : OpR X (compareOp .Lt) (rI0 fun i j => .bl (decide (i < j))) := opB0 fun _ _ _ _ _ _ _ q => lt_int q
theorem op_le : OpR X (compareOp .LtE) (rI0 fun i j => .bl (decide (i ≤ j))) := opB0 fun _ _ _ _ _ _ _ q => le_int q
theorem op_gt : OpR X (compareOp .Gt) (rI0 fun i j => .bl (decide (j < i))) := opB0 fun _ _ _ _ _ _ _ q => gt_int q
theorem op_ge : OpR X (compareOp .GtE) (rI0 fun i j => .bl (decide (j ≤ i))) := opB0 fun _ _ _ _ _ _ _ q => ge_int q
theorem op_lt_str : OpR X (compareOp .Lt) (fun x y H Q => ∃ i j, x = .str i ∧ y = .str j ∧ Q (.bl (decide (i.cps.toList < j.cps.toList))) H) := by
  intro pins s σ H x y v u Q I rx ry h
  obtain ⟨i, j, rfl, rfl, q⟩ := h
  obtain ⟨t, rfl⟩ := rx
  obtain ⟨t', rfl⟩ := ry
  exact lt_str (fin_bl I q rfl)
/-- the one string within the other -/
theorem op_in_str : OpR X (compareOp .In) (fun x y H Q => ∃ i j, x = .str i ∧ y = .str j ∧ Q (.bl (!(Builtin.Str.occurrences j i 0 j.length 1).isEmpty)) H) := by
  intro pins s σ H x y v u Q I rx ry h
  obtain ⟨i, j, rfl, rfl, q⟩ := h
  obtain ⟨t, rfl⟩ := rx
  obtain ⟨t', rfl⟩ := ry
  exact in_str (fin_bl I q rfl)

/-- is None, is not None: the right side a value none -/
theorem op_isN : OpR X (compareOp .Is) (fun x y H Q => y = .non ∧ Q (.bl (decide (x = .non))) H) := by
  intro pins s σ H x y v u Q I rx ry h
  obtain ⟨rfl, q⟩ := h
  cases ry
  refine is_none_gen (fin_bl I q ?_)
  cases x <;> first
    | (cases rx; rfl)
    | (obtain ⟨t, rfl⟩ := rx; rfl)
theorem op_notN : OpR X (compareOp .IsNot) (fun x y H Q => y = .non ∧ Q (.bl (!decide (x = .non))) H) := by
  intro pins s σ H x y v u Q I rx ry h
  obtain ⟨rfl, q⟩ := h
  cases ry
  refine isnot_none_gen (fin_bl I q ?_)
  cases x <;> first
    | (cases rx; rfl)
    | (obtain ⟨t, rfl⟩ := rx; rfl)

theorem op_notin_str : OpR X (compareOp .NotIn) (fun x y H Q => ∃ i j, x = .str i ∧ y = .str j ∧ Q (.bl (!(!(Builtin.Str.occurrences j i 0 j.length 1).isEmpty))) H) := by
  intro pins s σ H x y v u Q I rx ry h
  obtain ⟨i, j, rfl, rfl, q⟩ := h
  obtain ⟨t, rfl⟩ := rx
  obtain ⟨t', rfl⟩ := ry
  exact notIn_str (fin_bl I q rfl)
/-- is, is not of two objects that are tracked lists or instances -/
def isObj : HO → Bool
  | .lst _ => true
  | .ins _ _ _ => true
  | _ => false
theorem obj_there {pins : List (Addr × Obj)} {s : Shared} {σ : St} {H : Hp} {a : Addr} {o : HO} (I : Inv X pins σ H s) (h : H a = some o) (p : isObj o = true) : ∃ ob, s.heap.get? a = some ob ∧ ob.cls ≠ .type "tuple" := by
  cases o with
  | lst xs =>
    obtain ⟨_, its, n, _, e⟩ : xs.length ≤ sizeLine ∧ ∃ (its : List Value) (n : Nat), Vals xs its ∧ s.heap.get? a = some { cls := .type "list", data := .seq its.toArray n } := I.hok a _ h
    exact ⟨_, e, (by show Value.type "list" ≠ .type "tuple"; decide +kernel)⟩
  | ins C dx fs =>
    have x := I.hok a _ h
    obtain ⟨_, _, _, e, _⟩ := x
    exact ⟨_, e, (by show Value.ref C ≠ .type "tuple"; exact fun z => by cases z)⟩
  | _ => exact absurd (show false = true from p) Bool.false_ne_true
theorem op_is_ref : OpR X (compareOp .Is) (fun x y H Q => ∃ a b oa ob, x = .ref a ∧ y = .ref b ∧ H a = some oa ∧ isObj oa = true ∧ H b = some ob ∧ isObj ob = true ∧ Q (.bl (decide (a = b))) H) := by
  intro pins s σ H x y v u Q I rx ry h
  obtain ⟨a, b, oa, ob, rfl, rfl, ha, pa, hb, pb, q⟩ := h
  cases rx
  cases ry
  obtain ⟨o1, e1, n1⟩ := obj_there I ha pa
  obtain ⟨o2, e2, _⟩ := obj_there I hb pb
  by_cases z : a = b
  · subst z
    exact wpAny_is_ref_self (fin_bl I q (by simp))
  · exact wpAny_is_ref_other z e1 e2 n1 (fin_bl I q (by simp [z]))
theorem op_isnot_ref : OpR X (compareOp .IsNot) (fun x y H Q => ∃ a b oa ob, x = .ref a ∧ y = .ref b ∧ H a = some oa ∧ isObj oa = true ∧ H b = some ob ∧ isObj ob = true ∧ Q (.bl (!decide (a = b))) H) := by
  intro pins s σ H x y v u Q I rx ry h
  obtain ⟨a, b, oa, ob, rfl, rfl, ha, pa, hb, pb, q⟩ := h
  cases rx
  cases ry
  obtain ⟨o1, e1, n1⟩ := obj_there I ha pa
  obtain ⟨o2, e2, _⟩ := obj_there I hb pb
  by_cases z : a = b
  · subst z
    exact wpAny_isNot_ref_self (fin_bl I q (by simp))
  · exact wpAny_isNot_ref_other z e1 e2 n1 (fin_bl I q (by simp [z]))

/-- two rules for one operation: by cases -/
theorem OpR.or {f : Value → Value → Sem Value} {r r' : R2} (h : OpR X f r) (h' : OpR X f r') : OpR X f (fun x y H Q => r x y H Q ∨ r' x y H Q) := by
  intro pins s σ H x y v u Q I rx ry q
  rcases q with q | q
  · exact h pins s σ H x y v u Q I rx ry q
  · exact h' pins s σ H x y v u Q I rx ry q

theorem nomark (b : Expr) {op : CmpOp} (h : op ≠ .In := by decide) (h2 : op ≠ .NotIn := by decide) : behindInMarks op b = false := by
  have e1 : (op == CmpOp.In) = false := by cases op <;> first | rfl | exact absurd rfl h
  have e2 : (op == CmpOp.NotIn) = false := by cases op <;> first | rfl | exact absurd rfl h2
  cases b <;> simp [behindInMarks, e1, e2]
/-- a comparison as a value; hm: nomark b, or (for in, not in) by with_unfolding_all rfl -/
theorem pe_cmpR {op : CmpOp} {r : R2} (ho : OpR X (compareOp op) r) (ha : PE X a ta) (hb : PE X b tb) (hm : behindInMarks op b = false) : PE X (.Compare a [op] [b] pos) (tOp r ta tb) := by
  intro pins s σ H Q I h
  exact wpAny_Compare1 (binT ha hb I h fun v u s2 x y H2 I2 rx ry q => ho pins s2 σ H2 x y v u Q I2 rx ry q) hm
/-- a reading of a value as a test -/
def tTest (t : TE) : TT := fun σ H Q => t σ H fun x H' => ∃ k, x = .bl k ∧ Q k H'
theorem pt_cmpR {op : CmpOp} {r : R2} (ho : OpR X (compareOp op) r) (ha : PE X a ta) (hb : PE X b tb) (hm : behindInMarks op b = false) : PT X (.Compare a [op] [b] pos) (tTest (tOp r ta tb)) := by
  intro pins s σ H Q I h
  refine wpAny_isTrue_Compare1 (thn (ha pins s σ H _ I h) fun v s1 ⟨x, H1, I1, r1, q1⟩ => thn (hb pins s1 σ H1 _ I1 q1) fun u s2 ⟨y, H2, I2, r2, q2⟩ =>
    thn (ho pins s2 σ H2 x y v u _ I2 r1 r2 q2) fun c s3 ⟨z, H3, I3, r3, k, e, q3⟩ => ?_) hm
  subst e
  cases r3
  exact wpAny_truthy_bool ⟨H3, I3, q3⟩
/-- a op1 b op2 c -/
def tChain (r r' : R2) (ta tb tc : TE) : TE := fun σ H Q => ta σ H fun x H1 => tb σ H1 fun y H2 => r x y H2 fun z H3 => ∃ k, z = .bl k ∧
  (if k = true then tc σ H3 fun w' H4 => r' y w' H4 Q else Q (.bl false) H3)
theorem pe_chain {op op' : CmpOp} {r r' : R2} (ho : OpR X (compareOp op) r) (ho' : OpR X (compareOp op') r') (ha : PE X a ta) (hb : PE X b tb) (hc : PE X c tc)
    (hm : lastMarks [op, op'] [b, c] = false := by with_unfolding_all rfl) : PE X (.Compare a [op, op'] [b, c] pos) (tChain r r' ta tb tc) := by
  intro pins s σ H Q I h
  refine Compare_chain (thn (ha pins s σ H _ I h) fun v s1 ⟨x, H1, I1, r1, q1⟩ => chain_link (thn (hb pins s1 σ H1 _ I1 q1) fun u s2 ⟨y, H2, I2, r2, q2⟩ =>
    thn (ho pins s2 σ H2 x y v u _ I2 r1 r2 q2) fun d s3 ⟨z, H3, I3, r3, k, e, q3⟩ => ?_)) hm
  subst e
  cases r3
  refine wpAny_truthy_bool ?_
  cases k with
  | false => exact ite_ff ⟨.bl false, H3, I3, rfl, q3⟩
  | true => exact ite_tt (chain_last (thn (hc pins s3 σ H3 _ I3 q3) fun w' s4 ⟨z', H4, I4, r4, q4⟩ => ho' pins s4 σ H4 y z' u w' Q I4 r2 r4 q4))
theorem pt_chain {op op' : CmpOp} {r r' : R2} (ho : OpR X (compareOp op) r) (ho' : OpR X (compareOp op') r') (ha : PE X a ta) (hb : PE X b tb) (hc : PE X c tc)
    (hm : lastMarks [op, op'] [b, c] = false := by with_unfolding_all rfl) : PT X (.Compare a [op, op'] [b, c] pos) (tTest (tChain r r' ta tb tc)) := by
  intro pins s σ H Q I h
  refine isTrue_chain (thn (ha pins s σ H _ I h) fun v s1 ⟨x, H1, I1, r1, q1⟩ => test_link (thn (hb pins s1 σ H1 _ I1 q1) fun u s2 ⟨y, H2, I2, r2, q2⟩ =>
    thn (ho pins s2 σ H2 x y v u _ I2 r1 r2 q2) fun d s3 ⟨z, H3, I3, r3, k, e, q3⟩ => ?_)) hm
  subst e
  cases r3
  refine wpAny_truthy_bool ?_
  cases k with
  | false =>
    obtain ⟨k', e', q'⟩ := q3
    cases e'
    exact ite_ff ⟨H3, I3, q'⟩
  | true =>
    refine ite_tt (test_last (thn (hc pins s3 σ H3 _ I3 q3) fun w' s4 ⟨z', H4, I4, r4, q4⟩ => thn (ho' pins s4 σ H4 y z' u w' _ I4 r2 r4 q4) fun d' s5 ⟨z2, H5, I5, r5, k2, e2, q5⟩ => ?_))
    subst e2
    cases r5
    exact wpAny_truthy_bool ⟨H5, I5, q5⟩

/-! ### truth -/
/-- a value's truth by the abstract heap -/
def TruV (K : PySem.W.Frag) (x : V) (H : Hp) (k : Bool) : Prop :=
  match x with
  | .non => k = false
  | .bl b => k = b
  | .int i => k = (i != 0)
  | .str y => y.length ≤ sizeLine ∧ k = ((y.length : Int) != 0)
  | .byt y => y.size ≤ sizeLine ∧ k = ((y.size : Int) != 0)
  | .ref p => (∃ xs, SqL K H p xs ∧ k = !xs.isEmpty) ∨ (∃ xs, SqT K H p xs ∧ k = !xs.isEmpty) ∨ ∃ kvs, H p = some (.dK kvs) ∧ k = !kvs.isEmpty
  | _ => False
theorem isEmpty_kv {κ : Type} {kvs : List (κ × V)} {vs : List (κ × Value)} (r : KV kvs vs) : (!vs.isEmpty) = !kvs.isEmpty := by
  cases r <;> rfl
theorem isEmpty_of {xs : List V} {its : List Value} (r : Vals xs its) : (!its.toArray.isEmpty) = !xs.isEmpty := by
  cases r <;> simp
theorem line63 : (sizeLine : Nat) < 2 ^ 63 := by rw [sizeLine_eq]; decide
theorem tru_ok : TruR X (fun x H Q => ∃ k, TruV X.K x H k ∧ Q k H) := by
  intro pins s σ H x v Q I rx h
  obtain ⟨k, e, q⟩ := h
  have hl := line63
  have hs : sizeLine = 16777216 := sizeLine_eq
  cases x with
  | non =>
    cases rx
    have e' : k = false := e
    subst e'
    exact truthy_none ⟨H, I, q⟩
  | bl b =>
    cases rx
    have e' : k = b := e
    subst e'
    exact wpAny_truthy_bool ⟨H, I, q⟩
  | int i =>
    obtain ⟨t, rfl⟩ := rx
    have e' : k = (i != 0) := e
    subst e'
    exact PySem.P.truthy_int ⟨H, I, q⟩
  | str y =>
    obtain ⟨t, rfl⟩ := rx
    obtain ⟨hy, e'⟩ : y.length ≤ sizeLine ∧ k = ((y.length : Int) != 0) := e
    subst e'
    exact PySem.P.truthy_str (by omega) ⟨H, I.tok _, q⟩
  | byt y =>
    obtain ⟨t, rfl⟩ := rx
    obtain ⟨hy, e'⟩ : y.size ≤ sizeLine ∧ k = ((y.size : Int) != 0) := e
    subst e'
    exact PySem.W.truthy_bytes (by omega) ⟨H, I.tok _, q⟩
  | ref p =>
    cases rx
    have e' : (∃ xs, SqL X.K H p xs ∧ k = !xs.isEmpty) ∨ (∃ xs, SqT X.K H p xs ∧ k = !xs.isEmpty) ∨ ∃ kvs, H p = some (.dK kvs) ∧ k = !kvs.isEmpty := e
    rcases e' with ⟨xs, hx, e'⟩ | ⟨xs, hx, e'⟩ | ⟨kvs, hx, e'⟩
    · subst e'
      obtain ⟨its, r, pl, hz⟩ := I.list hx
      have hlen := r.length
      exact wpAny_truthy_list pl.isList (by simp only [List.size_toArray]; omega) ⟨H, I.tok _, by rw [isEmpty_of r]; exact q⟩
    · subst e'
      obtain ⟨its, r, pl, hz⟩ := I.tuple hx
      have hlen := r.length
      exact truthy_tuple pl (by simp only [List.size_toArray]; omega) ⟨H, I.tok _, by rw [isEmpty_of r]; exact q⟩
    · subst e'
      obtain ⟨hz, hS, vs, r, m⟩ : kvs.length ≤ sizeLine ∧ (p == sysModules) = false ∧ ∃ vs, KV kvs vs ∧ s.heap.DictOf (mixKind X.prog X.w) p vs := I.hok p _ hx
      have hlen : kvs.length = vs.length := Paired.length r
      exact wpAny_truthy_dict hS m (by omega) ⟨H, I.tok _, by rw [isEmpty_kv r]; exact q⟩
  | _ => exact (show False from e).elim
/-- any expression whose test is its value's truth (a name, a call, a subscript, a field ..: he by fun _ => rfl) -/
theorem pt_truth (ha : PE X a ta) (he : ∀ whole, isTrue a X.env whole = (do let v ← whole; standAt a.pos; holding [v] (truthy v))) :
    PT X a (fun σ H Q => ta σ H fun x H' => ∃ k, TruV X.K x H' k ∧ Q k H') := by
  intro pins s σ H Q I h
  exact isTrue_plain (thn (ha pins s σ H _ I h) fun v s1 ⟨x, H1, I1, r1, q1⟩ => tru_ok pins s1 σ H1 x v Q I1 r1 q1) (he _)

/-! ### strs and bytes -/
theorem pe_byt {x : List UInt8} {k : Nat} : PE X (.Constant (.bytes x) k pos) (fun _ H Q => Q (.byt x.toArray) H) := fun _ _ _ H _ I h => PySem.W.Constant_bytes ⟨.byt x.toArray, H, I.tok _, ⟨_, rfl⟩, h⟩
theorem op_add_str : OpR X (binaryOp .Add) (fun x y H Q => ∃ i j, x = .str i ∧ y = .str j ∧ i.length + j.length ≤ sizeLine ∧ Q (.str (i ++ j)) H) := by
  intro pins s σ H x y v u Q I rx ry h
  obtain ⟨i, j, rfl, rfl, hz, q⟩ := h
  obtain ⟨t, rfl⟩ := rx
  obtain ⟨t', rfl⟩ := ry
  exact add_str (fun t' tk => ⟨.str (i ++ j), H, I.tok _, ⟨_, rfl⟩, q⟩) hz
theorem iop_add_str : OpR X (inplaceOp .Add) (fun x y H Q => ∃ i j, x = .str i ∧ y = .str j ∧ i.length + j.length ≤ sizeLine ∧ Q (.str (i ++ j)) H) := by
  intro pins s σ H x y v u Q I rx ry h
  obtain ⟨i, j, rfl, rfl, hz, q⟩ := h
  obtain ⟨t, rfl⟩ := rx
  obtain ⟨t', rfl⟩ := ry
  exact iadd_str (fun t' tk => ⟨.str (i ++ j), H, I.tok _, ⟨_, rfl⟩, q⟩) hz
theorem op_add_byt : OpR X (binaryOp .Add) (fun x y H Q => ∃ i j, x = .byt i ∧ y = .byt j ∧ i.size + j.size ≤ 16777216 ∧ Q (.byt (i ++ j)) H) := by
  intro pins s σ H x y v u Q I rx ry h
  obtain ⟨i, j, rfl, rfl, hz, q⟩ := h
  obtain ⟨t, rfl⟩ := rx
  obtain ⟨t', rfl⟩ := ry
  exact PySem.W.KBy.add_bytes hz (fun t' tk => ⟨.byt (i ++ j), H, I.tok _, ⟨_, rfl⟩, q⟩)

def PlainIxT (b : Expr) : Prop := ∀ o i, subscripted b false o i = operate [o, i] (getItem o i)
/-- s[i], 0 ≤ i < len -/
theorem pe_item_str (ha : PE X a ta) (hb : PE X b tb) (hs : PlainIxT b) :
    PE X (.Subscript a b pos) (tOp (fun x y H Q => ∃ z i c, x = .str z ∧ y = .int i ∧ 0 ≤ i ∧ i < 2 ^ 63 ∧ i < z.length ∧ z.cps[i.toNat]? = some c ∧ Q (.str ⟨#[c]⟩) H) ta tb) := by
  intro pins s σ H Q I h
  refine Subscript_ (binT ha hb I h fun v u s2 x y H2 I2 rx ry q => ?_)
  obtain ⟨z, i, c, rfl, rfl, h0, h63, h1, hc, q⟩ := q
  obtain ⟨t, rfl⟩ := rx
  obtain ⟨t', rfl⟩ := ry
  have e : seqIndex? i z.length = some i.toNat := PySem.StrLaws.seqIndex_nonneg h0 h1
  exact tail_any (typeIs_str s2 z t) slot_str_getitem.lookup (getItem_str (c := c) (by
    have e1 : decide (i < -(2 ^ 63 : Int)) = false := decide_eq_false (by omega)
    have e2 : decide (i ≥ 2 ^ 63) = false := decide_eq_false (by omega)
    rw [e1, e2] <;> rfl) (by rw [e]; exact hc) ⟨.str ⟨#[c]⟩, H2, I2.tok _, ⟨_, rfl⟩, q⟩) (hs _ _)
/-- b[i], 0 ≤ i < len -/
theorem pe_item_byt (ha : PE X a ta) (hb : PE X b tb) (hs : PlainIxT b) :
    PE X (.Subscript a b pos) (tOp (fun x y H Q => ∃ (z : List UInt8) (i : Int), x = .byt z.toArray ∧ y = .int i ∧ z.length ≤ sizeLine ∧ 0 ≤ i ∧ i < z.length ∧ Q (.int ((z.getD i.toNat 0).toNat : Nat)) H) ta tb) := by
  intro pins s σ H Q I h
  refine Subscript_ (binT ha hb I h fun v u s2 x y H2 I2 rx ry q => ?_)
  obtain ⟨z, i, rfl, rfl, hz, h0, h1, q⟩ := q
  obtain ⟨t, rfl⟩ := rx
  obtain ⟨t', rfl⟩ := ry
  have hl : sizeLine = 16777216 := sizeLine_eq
  exact tail_any (PySem.W.typeIs_bytes s2 z.toArray t) PySem.W.FB.slot_bytes_getitem.lookup (PySem.W.getItem_bytes (by omega) h0 h1 ⟨.int ((z.getD i.toNat 0).toNat : Nat), H2, I2.tok _, ⟨_, rfl⟩, q⟩) (hs _ _)

/-! ### scalar builtins, by CallR -/
theorem vals1 {x : V} {us : List Value} (r : Vals [x] us) : ∃ u, us = [u] ∧ RelV x u := by
  cases r with
  | cons r1 r2 => cases r2; exact ⟨_, rfl, r1⟩
theorem vals2 {x y : V} {us : List Value} (r : Vals [x, y] us) : ∃ u w', us = [u, w'] ∧ RelV x u ∧ RelV y w' := by
  cases r with
  | cons r1 r2 =>
    cases r2 with
    | cons r3 r4 => cases r4; exact ⟨_, _, rfl, r1, r3⟩
theorem call_abs : CallR X (.builtin "abs") (fun xs H Q => ∃ i, xs = [.int i] ∧ Q (.int (if i < 0 then -i else i)) H) := by
  intro pins s σ H xs us Q I r h
  obtain ⟨i, rfl, q⟩ := h
  obtain ⟨u, rfl, t, rfl⟩ := vals1 r
  exact call_abs_int fun u tk => ⟨.int (if i < 0 then -i else i), H, I.tok _, ⟨_, rfl⟩, q⟩
theorem call_max2 (hc : X.calm = true) : CallR X (.builtin "max") (fun xs H Q => ∃ i j, xs = [.int i, .int j] ∧ Q (.int (if j > i then j else i)) H) := by
  intro pins s σ H xs us Q I r h
  obtain ⟨i, j, rfl, q⟩ := h
  obtain ⟨u, w', rfl, ⟨t, rfl⟩, ⟨t', rfl⟩⟩ := vals2 r
  refine max_two_ints (I.ok.hd hc) fun h' tk k => ⟨_, H, I.kept k, ?_, q⟩
  by_cases hj : j > i
  · rw [if_pos hj, if_pos hj]; exact ⟨_, rfl⟩
  · rw [if_neg hj, if_neg hj]; exact ⟨_, rfl⟩
theorem call_min2 (hc : X.calm = true) : CallR X (.builtin "min") (fun xs H Q => ∃ i j, xs = [.int i, .int j] ∧ Q (.int (if j < i then j else i)) H) := by
  intro pins s σ H xs us Q I r h
  obtain ⟨i, j, rfl, q⟩ := h
  obtain ⟨u, w', rfl, ⟨t, rfl⟩, ⟨t', rfl⟩⟩ := vals2 r
  refine min_two_ints (I.ok.hd hc) fun h' tk k => ⟨_, H, I.kept k, ?_, q⟩
  by_cases hj : j < i
  · rw [if_pos hj, if_pos hj]; exact ⟨_, rfl⟩
  · rw [if_neg hj, if_neg hj]; exact ⟨_, rfl⟩
theorem call_int1 : CallR X (.type "int") (fun xs H Q => (∃ i, xs = [.int i] ∧ Q (.int i) H) ∨ ∃ k, xs = [.bl k] ∧ Q (.int (if k then 1 else 0)) H) := by
  intro pins s σ H xs us Q I r h
  rcases h with ⟨i, rfl, q⟩ | ⟨k, rfl, q⟩
  · obtain ⟨u, rfl, t, rfl⟩ := vals1 r
    exact call_int_int ⟨.int i, H, I, ⟨_, rfl⟩, q⟩
  · obtain ⟨u, rfl, r1⟩ := vals1 r
    cases r1
    exact call_int_bool ⟨.int (if k then 1 else 0), H, I.tok _, ⟨_, rfl⟩, q⟩
theorem call_bool1 : CallR X (.type "bool") (fun xs H Q => (∃ i, xs = [.int i] ∧ Q (.bl (i != 0)) H) ∨ ∃ k, xs = [.bl k] ∧ Q (.bl k) H) := by
  intro pins s σ H xs us Q I r h
  rcases h with ⟨i, rfl, q⟩ | ⟨k, rfl, q⟩
  · obtain ⟨u, rfl, t, rfl⟩ := vals1 r
    exact call_bool_int ⟨.bl (i != 0), H, I, rfl, q⟩
  · obtain ⟨u, rfl, r1⟩ := vals1 r
    cases r1
    exact call_bool_bool ⟨.bl k, H, I, rfl, q⟩
theorem call_str_int : CallR X (.type "str") (fun xs H Q => ∃ i, xs = [.int i] ∧ i.natAbs.log2 < 1920 ∧ Q (.str (toString i)) H) := by
  intro pins s σ H xs us Q I r h
  obtain ⟨i, rfl, hz, q⟩ := h
  obtain ⟨u, rfl, t, rfl⟩ := vals1 r
  exact PySem.P.str_of_int hz ⟨.str _, H, I.tok _, ⟨_, rfl⟩, q⟩
theorem call_ord : CallR X (.builtin "ord") (fun xs H Q => ∃ x, xs = [.str x] ∧ x.length = 1 ∧ Q (.int (x.cps.getD 0 0 : Nat)) H) := by
  intro pins s σ H xs us Q I r h
  obtain ⟨x, rfl, hz, q⟩ := h
  obtain ⟨u, rfl, t, rfl⟩ := vals1 r
  exact ord_of_one hz ⟨.int _, H, I.tok _, ⟨_, rfl⟩, q⟩
theorem call_chr : CallR X (.builtin "chr") (fun xs H Q => ∃ i, xs = [.int i] ∧ 0 ≤ i ∧ i ≤ 1114111 ∧ Q (.str ⟨#[i.toNat]⟩) H) := by
  intro pins s σ H xs us Q I r h
  obtain ⟨i, rfl, h0, h1, q⟩ := h
  obtain ⟨u, rfl, t, rfl⟩ := vals1 r
  exact chr_of_range h0 h1 ⟨.str _, H, I.tok _, ⟨_, rfl⟩, q⟩
/-- len of a str, a bytes, a list, a tuple -/
def LenV (K : PySem.W.Frag) (x : V) (H : Hp) (n : Nat) : Prop :=
  match x with
  | .str y => y.length ≤ sizeLine ∧ n = y.length
  | .byt y => y.size ≤ sizeLine ∧ n = y.size
  | .ref p => (∃ xs, SqL K H p xs ∧ n = xs.length) ∨ ∃ xs, SqT K H p xs ∧ n = xs.length
  | _ => False
theorem call_len : CallR X (.builtin "len") (fun xs H Q => ∃ x n, xs = [x] ∧ LenV X.K x H n ∧ Q (.int n) H) := by
  intro pins s σ H xs us Q I r h
  obtain ⟨x, n, rfl, e, q⟩ := h
  obtain ⟨u, rfl, rx⟩ := vals1 r
  have hl := line63
  have hs : sizeLine = 16777216 := sizeLine_eq
  cases x with
  | str y =>
    obtain ⟨t, rfl⟩ := rx
    obtain ⟨hy, e'⟩ : y.length ≤ sizeLine ∧ n = y.length := e
    subst e'
    exact len_str (by omega) ⟨.int _, H, I.tok _, ⟨_, rfl⟩, q⟩
  | byt y =>
    obtain ⟨t, rfl⟩ := rx
    obtain ⟨hy, e'⟩ : y.size ≤ sizeLine ∧ n = y.size := e
    subst e'
    exact PySem.W.len_bytes (by omega) ⟨.int _, H, I.tok _, ⟨_, rfl⟩, q⟩
  | ref p =>
    cases rx
    have e' : (∃ xs, SqL X.K H p xs ∧ n = xs.length) ∨ ∃ xs, SqT X.K H p xs ∧ n = xs.length := e
    rcases e' with ⟨xs, hx, e'⟩ | ⟨xs, hx, e'⟩
    · subst e'
      obtain ⟨its, r', pl, hz⟩ := I.list hx
      have hlen := r'.length
      exact Calls.call_len_list pl.isList (by simp only [List.size_toArray]; omega) ⟨.int xs.length, H, I.tok _, ⟨_, by simp only [List.size_toArray]; rw [hlen]⟩, q⟩
    · subst e'
      obtain ⟨its, r', pl, hz⟩ := I.tuple hx
      have hlen := r'.length
      exact len_tuple pl (by simp only [List.size_toArray]; omega) ⟨.int xs.length, H, I.tok _, ⟨_, by simp only [List.size_toArray]; rw [hlen]⟩, q⟩
  | _ => exact (show False from e).elim
/-- divmod: a new tuple -/
theorem call_divmod : CallR X (.builtin "divmod") (fun xs H Q => ∃ i j, xs = [.int i, .int j] ∧ CDiv i j ∧ ∀ p, H p = none → Q (.ref p) (upd H p (.tup [.int (i / j), .int (i % j)]))) := by
  intro pins s σ H xs us Q I r h
  obtain ⟨i, j, rfl, ⟨h1, h2⟩, q⟩ := h
  obtain ⟨u, w', rfl, ⟨t, rfl⟩, ⟨t', rfl⟩⟩ := vals2 r
  refine divmod_int (by omega) ?_ (.inl (PyProof.noPylong_small (by omega)))
  rw [Int.fdiv_eq_ediv_of_nonneg i (by omega), Int.fmod_eq_emod_of_nonneg i (by omega)]
  have hn : H s.heap.objs.size = none := I.hok.fresh (Nat.le_refl _)
  refine ⟨.ref s.heap.objs.size, _, ?_, rfl, q _ hn⟩
  refine I.laid (fun b o e => Heap.get?_push_of_some _ e) (Nat.le_refl _) ⟨by simp only [List.length_cons, List.length_nil]; rw [sizeLine_eq]; decide, [.int (i / j) s.toks, .int (i % j) (s.toks + 1)], .cons ⟨_, rfl⟩ (.cons ⟨_, rfl⟩ .nil), ?_⟩
  exact ⟨_, Heap.get?_push_size s.heap rfl, rfl, 0, rfl⟩
end
end L2

namespace L2
open PySem PySem.Spec PyProof.Rows

/-! ### an instance, its attributes a map -/
structure ObjM (h : Heap) (x dx C : Addr) (mA : Str → Option Value) : Prop where
  obj : h.get? x = some (PySem.W.instObj C dx)
  ns : h.Ns1 dx mA
  ne : dx ≠ x

theorem lookIn_ns {h : Heap} {dx : Addr} {mA : Str → Option Value} (n : h.Ns1 dx mA) : ∃ od, h.get? dx = some od ∧ ∀ name, PySem.W.lookIn name od = some (mA name) := by
  obtain ⟨o, es, ep, ho, hd, hk, _, hm⟩ := n
  refine ⟨o, ho, fun name => ?_⟩
  have e := hm name
  unfold nsFind findBy at e
  rw [← Array.find?_toList] at e
  unfold PySem.W.lookIn
  rw [hd]
  dsimp only
  split
  · rename_i y q
    rw [q] at e
    exact congrArg some e
  · rename_i q
    rw [q] at e
    have a : es.toList.any (·.refKey) = false := by
      rw [List.any_eq_false]
      intro y hy
      obtain ⟨z, t, hkey⟩ := hk y (Array.mem_toList_iff.mp hy)
      simp [DictEntry.refKey, hkey]
    have a' : ¬ es.toList.any (·.refKey) = true := by rw [a]; exact Bool.false_ne_true
    rw [if_neg a']
    exact congrArg some e

theorem ObjM.look {h : Heap} {x dx C : Addr} {mA : Str → Option Value} (I : ObjM h x dx C mA) : ∃ od, PySem.W.InstAt h x (PySem.W.instObj C dx) C (some od) ∧ ∀ name, PySem.W.lookIn name od = some (mA name) :=
  let ⟨od, ho, hl⟩ := lookIn_ns I.ns
  ⟨od, ⟨I.obj, rfl, rfl, ho⟩, hl⟩

section
variable {prog : Program} {w : World} {A : Around} {E : Value → Shared → Prop} {s : Shared} {K : PySem.W.Frag} {x dx C f : Addr} {mA : Str → Option Value} {name : Str} {v : Value}

theorem get_map {expr : Bool} {Q : Value → Shared → Prop} (X : K.In s.heap) (I : ObjM s.heap x dx C mA) (hg : PySem.W.plainGet K C name = true) (hh : PySem.W.hasDictIn K C = true)
    (ha : PySem.W.findIn K (.ref C) name = some none) (hv : mA name = some v) (hv' : PySem.W.handedIn v = true) (h : Q v { s with toks := s.toks + 1 }) :
    wpAny (model prog w) A (getAttr (.ref x) name expr) Q E s := by
  obtain ⟨od, J, hl⟩ := I.look
  exact PySem.W.get_value X J (PySem.W.plainGet_of hg).1 (PySem.W.findObj_own hh ha rfl (by rw [hl, hv])) hv' h

theorem get_const {expr : Bool} {a : Value} {Q : Value → Shared → Prop} (X : K.In s.heap) (I : ObjM s.heap x dx C mA) (hg : PySem.W.plainGet K C name = true) (hh : PySem.W.hasDictIn K C = true)
    (ha : PySem.W.findIn K (.ref C) name = some (some a)) (hn : PySem.W.specialIn K a "__get__" = some none) (hc : PySem.W.copiedNames.contains name = false) (hv : mA name = none) (hv' : PySem.W.handedIn a = true)
    (h : Q a { s with toks := s.toks + 1 }) : wpAny (model prog w) A (getAttr (.ref x) name expr) Q E s := by
  obtain ⟨od, J, hl⟩ := I.look
  exact PySem.W.get_value X J (PySem.W.plainGet_of hg).1 (PySem.W.findObj_cls hh ha hn hv' hc (by rw [hl, hv])) hv' h

theorem get_meth {pl : Sem Bool} {Q : Value × List Value → Shared → Prop} (X : K.In s.heap) (I : ObjM s.heap x dx C mA) (hg : PySem.W.plainGet K C name = true)
    (hf : PySem.W.findIn K (.ref C) name = some (some (.ref f))) (ht : PySem.W.isFn K (.ref f) = true) (hv : mA name = none) (h : Q (.ref f, [.ref x]) s) :
    wpAny (model prog w) A (getMethod (.ref x) name pl) Q E s := by
  obtain ⟨od, J, hl⟩ := I.look
  exact PySem.W.method_fn X J (PySem.W.plainGet_of hg).1 (PySem.W.plainGet_of hg).2 hf (beq_iff_eq.mp ht) (by show (PySem.W.lookIn name od).map (·.isSome) = some false; rw [hl, hv]; rfl) h

theorem set_map {ns : List Str} {Q : Unit → Shared → Prop} (X : K.In s.heap) (I : ObjM s.heap x dx C mA)
    (hs : PySem.W.findIn K (.ref C) "__setattr__" = some (some (.builtin "object.__setattr__"))) (hp : PySem.W.plainOver K C = true) (ht : PySem.W.takerIn K C name = some none) (hh : PySem.W.hasDictIn K C = true)
    (hw : PySem.Within mA ns) (hsz : ns.length ≤ sizeLine)
    (h : ∀ h', ObjM h' x dx C (fun y => if y = name then some v else mA y) → Heap.SameBut dx s.heap h' → Q () { s with heap := h', toks := s.toks + 2 }) :
    wpAny (model prog w) A (setAttr (.ref x) name v) Q E s := by
  obtain ⟨od, J, hl⟩ := I.look
  refine PySem.W.set_plain X J hs (PySem.W.osa_open (s := { s with toks := s.toks + 1 }) (r := none) X J hp ht fun b => ?_)
  obtain ⟨cd, hc, hd'⟩ := PySem.W.any_some hh
  have hx : s.heap.get? x = some ⟨.ref C, some dx, .plain, #[]⟩ := I.obj
  refine wpAny_bind (wpAny_pure (wpAny_bind (wpAny_bind (wpAny_loadPart hx (wpAny_bind (PySem.W.Looks.here (s := { s with toks := s.toks + 1 }) (PySem.W.looks_clsIn X hc) ?_))))))
  rw [hd']
  refine wpAny_pure (a := some dx) (wpAny_bind (wpAny_pure (wpAny_bind ?_)))
  refine wpAny_nsSet1 (s := { s with toks := s.toks + 1 }) I.ns fun h' hn2 hs2 => ?_
  obtain ⟨oD, esD, epD, hoD, hdD, hcD⟩ := hn2.count (PySem.Within.cons name v hw)
  refine wpAny_bind (wpAny_lookBehind hoD (by rw [hdD]; exact pastItsLine_dict (Nat.le_trans hcD (by rw [List.length_cons]; omega))) ?_)
  exact wpAny_pure (h _ ⟨(hs2.2 _ (Ne.symm I.ne)).trans I.obj, hn2, I.ne⟩ hs2)

/-- C(..): the dict at the heap's end, the instance behind it; then its __init__ -/
theorem make_map {R : Result → Shared → Prop} {vs : List Value} {kw : List (Str × Value)} (X : K.In s.heap) (hm : PySem.W.makesIn K C = true)
    (hi : PySem.W.findIn K (.ref C) "__init__" = some (some (.ref f))) (hf : PySem.W.typeIn K (.ref f) = some (.type "function"))
    (h : codeAny (model prog w) (A.under (.builtin "type.__call__" ⟨.ref C :: vs, kw⟩)) (.call (.ref f) ⟨.ref (s.heap.objs.size + 1) :: vs, kw⟩) (PySem.W.InitBack (s.heap.objs.size + 1) R)
      { s with heap := (s.heap.push PySem.W.emptyDict).push (PySem.W.instObj C s.heap.objs.size) }) :
    codeAny (model prog w) A (.call (.ref C) ⟨vs, kw⟩) R s := by
  obtain ⟨hh, g, d, t, os⟩ := s
  exact PySem.W.make_core (PySem.W.makes_of X hm) (PySem.W.looks_findIn X hi) (fun self => PySem.W.bind_fn X self hf) (.inl rfl) h
/-- C() where there is no __init__ but object's -/
theorem make_map0 {R : Result → Shared → Prop} (X : K.In s.heap) (hm : PySem.W.makesIn K C = true)
    (hi : PySem.W.findIn K (.ref C) "__init__" = some (some (.builtin "object.__init__")))
    (hb : ∀ self, PySem.W.Looks (model prog w) s.heap (bindSpecial (.builtin "object.__init__") self) (.builtin "object.__init__", [self]))
    (h : codeAny (model prog w) (A.under (.builtin "type.__call__" ⟨[.ref C], []⟩)) (.call (.builtin "object.__init__") ⟨[.ref (s.heap.objs.size + 1)], []⟩) (PySem.W.InitBack (s.heap.objs.size + 1) R)
      { s with heap := (s.heap.push PySem.W.emptyDict).push (PySem.W.instObj C s.heap.objs.size) }) :
    codeAny (model prog w) A (.call (.ref C) ⟨[], []⟩) R s := by
  obtain ⟨hh, g, d, t, os⟩ := s
  exact PySem.W.make_core (PySem.W.makes_of X hm) (PySem.W.looks_findIn X hi) hb (.inr ⟨rfl, rfl⟩) h
end

/-! ### the attributes as a list of pairs -/
def putF (f : Str) (v : V) : List (Str × V) → List (Str × V)
  | [] => [(f, v)]
  | (g, x) :: r => if g = f then (g, v) :: r else (g, x) :: putF f v r
theorem lookup_putF (f g : Str) (v : V) : ∀ fs : List (Str × V), (putF f v fs).lookup g = if g = f then some v else fs.lookup g
  | [] => by
    show List.lookup g [(f, v)] = _
    by_cases h : g = f
    · have hb : (g == f) = true := beq_iff_eq.mpr h
      simp only [List.lookup, hb, if_pos h]
    · have hb : (g == f) = false := beq_eq_false_iff_ne.mpr h
      simp only [List.lookup, hb, if_neg h]
  | (k, x) :: r => by
    have ih := lookup_putF f g v r
    rw [show putF f v ((k, x) :: r) = (if k = f then (k, v) :: r else (k, x) :: putF f v r) from rfl]
    by_cases hk : k = f
    · rw [if_pos hk]
      by_cases h : g = k
      · have hb : (g == k) = true := beq_iff_eq.mpr h
        simp only [List.lookup, hb, if_pos (h.trans hk)]
      · have hb : (g == k) = false := beq_eq_false_iff_ne.mpr h
        simp only [List.lookup, hb, if_neg (fun e : g = f => h (e.trans hk.symm))]
    · rw [if_neg hk]
      by_cases h : g = k
      · have hb : (g == k) = true := beq_iff_eq.mpr h
        simp only [List.lookup, hb, if_neg (fun e : g = f => hk (h.symm.trans e))]
      · have hb : (g == k) = false := beq_eq_false_iff_ne.mpr h
        simp only [List.lookup, hb]
        exact ih
theorem keys_putF (f : Str) (v : V) : ∀ fs : List (Str × V), f ∈ (putF f v fs).map (·.1) ∧ ∀ g, g ∈ fs.map (·.1) → g ∈ (putF f v fs).map (·.1)
  | [] => ⟨by simp [putF], fun g h => by simp at h⟩
  | (k, x) :: r => by
    obtain ⟨i1, i2⟩ := keys_putF f v r
    rw [show putF f v ((k, x) :: r) = (if k = f then (k, v) :: r else (k, x) :: putF f v r) from rfl]
    by_cases hk : k = f
    · rw [if_pos hk]
      subst hk
      exact ⟨by simp, fun g h => by simpa using h⟩
    · rw [if_neg hk]
      refine ⟨?_, fun g h => ?_⟩
      · rw [List.map_cons]
        exact List.mem_cons_of_mem _ i1
      · rw [List.map_cons] at h ⊢
        rcases List.mem_cons.mp h with e | e
        · exact List.mem_cons.mpr (.inl e)
        · exact List.mem_cons_of_mem _ (i2 g e)
theorem length_putF (f : Str) (v : V) : ∀ fs : List (Str × V), (putF f v fs).length ≤ fs.length + 1
  | [] => by simp [putF]
  | (k, x) :: r => by
    have ih := length_putF f v r
    rw [show putF f v ((k, x) :: r) = (if k = f then (k, v) :: r else (k, x) :: putF f v r) from rfl]
    by_cases hk : k = f
    · rw [if_pos hk, List.length_cons, List.length_cons]; omega
    · rw [if_neg hk, List.length_cons, List.length_cons]; omega

theorem RelO.some_of {v : V} {o : Option Value} (r : RelO (some v) o) : ∃ u, o = some u ∧ RelV v u := by
  cases o with
  | none => exact (show False from r).elim
  | some u => exact ⟨u, rfl, r⟩
theorem RelO.none_of {o : Option Value} (r : RelO none o) : o = none := by
  cases o with
  | none => rfl
  | some u => exact (show False from r).elim
theorem handed_of {v : V} {u : Value} (r : RelV v u) : PySem.W.handedIn u = true := by
  cases v with
  | non => cases (show u = Value.none from r); rfl
  | bl b => cases (show u = Value.bool b from r); rfl
  | int i => obtain ⟨t, e⟩ := (show ∃ t, u = Value.int i t from r); cases e; rfl
  | str x => obtain ⟨t, e⟩ := (show ∃ t, u = Value.str x t from r); cases e; rfl
  | byt b => obtain ⟨t, e⟩ := (show ∃ t, u = Value.bytes b t from r); cases e; rfl
  | flt b => obtain ⟨t, e⟩ := (show ∃ t, u = Value.float b t from r); cases e; rfl
  | ref a => cases (show u = Value.ref a from r); rfl
  | ty n => cases (show u = Value.type n from r); rfl

section
variable {P : Program} {w : World} {H H' : Hp} {h h' : Heap} {a C dx : Addr} {fs fs' : List (Str × V)}
theorem ins_get (hok : HOk P w H h) (e : H a = some (.ins C dx fs)) : ∃ mA, ObjM h a dx C mA ∧ (∀ f, RelO (fs.lookup f) (mA f)) ∧ PySem.Within mA (fs.map (·.1)) ∧ fs.length ≤ 1000 ∧ H dx = some (.own a) := by
  obtain ⟨d, z, ne, ob, mA, n, r, q⟩ := (show ObjOk P w H h a (.ins C dx fs) from hok a _ e)
  exact ⟨mA, ⟨ob, n, ne⟩, r, q, z, d⟩
end

/-! ### what of the text a class must have -/
structure Cls (K : PySem.W.Frag) (C : Addr) : Prop where
  pg : PySem.W.plainGet K C Str.empty = true
  hd : PySem.W.hasDictIn K C = true
  po : PySem.W.plainOver K C = true
  sa : PySem.W.findIn K (.ref C) "__setattr__" = some (some (.builtin "object.__setattr__"))
theorem Cls.get {K : PySem.W.Frag} {C : Addr} (c : Cls K C) (f : Str) : PySem.W.plainGet K C f = true := c.pg
/-- no class of it has the name -/
def NoAttr (K : PySem.W.Frag) (C : Addr) (f : Str) : Prop := PySem.W.findIn K (.ref C) f = some none
theorem NoAttr.taker {K : PySem.W.Frag} {C : Addr} {f : Str} (n : NoAttr K C f) : PySem.W.takerIn K C f = some none := by
  unfold PySem.W.takerIn
  rw [show PySem.W.findIn K (.ref C) f = some none from n]
  rfl
/-- a constant of the class -/
structure Con (K : PySem.W.Frag) (C : Addr) (f : Str) (v : V) (u : Value) : Prop where
  at_ : PySem.W.findIn K (.ref C) f = some (some u)
  rel : RelV v u
  get : PySem.W.specialIn K u "__get__" = some none
  cp : PySem.W.copiedNames.contains f = false
/-- a method: a plain def of the class or of one above it -/
structure Meth (K : PySem.W.Frag) (C : Addr) (m : Str) (f : Addr) : Prop where
  at_ : PySem.W.findIn K (.ref C) m = some (some (.ref f))
  fn : PySem.W.isFn K (.ref f) = true
  kp : PySem.W.keepIn K (.ref f) = true

section
variable {X : Cx} {pins : List (Addr × Obj)} {σ : St} {H : Hp} {s : Shared} {a C dx : Addr} {fs : List (Str × V)} {f : Str} {v : V} {A : Around} {E : Value → Shared → Prop}

theorem getattr_ok {b : Bool} {Q : Value → Shared → Prop} (I : Inv X pins σ H s) (e : H a = some (.ins C dx fs)) (c : Cls X.K C) (n : NoAttr X.K C f) (l : fs.lookup f = some v)
    (h : ∀ u s', Inv X pins σ H s' → RelV v u → Q u s') : wpAny (model X.prog X.w) A (getAttr (.ref a) f b) Q E s := by
  obtain ⟨mA, O, r, _, _, _⟩ := ins_get I.hok e
  obtain ⟨u, hu, ru⟩ := RelO.some_of (v := v) (o := mA f) (by rw [← l]; exact r f)
  exact get_map I.kIn O (c.get f) c.hd n hu (handed_of ru) (h u _ (I.tok _) ru)

theorem getcon_ok {b : Bool} {u : Value} {Q : Value → Shared → Prop} (I : Inv X pins σ H s) (e : H a = some (.ins C dx fs)) (c : Cls X.K C) (k : Con X.K C f v u) (l : fs.lookup f = none)
    (h : ∀ s', Inv X pins σ H s' → Q u s') : wpAny (model X.prog X.w) A (getAttr (.ref a) f b) Q E s := by
  obtain ⟨mA, O, r, _, _, _⟩ := ins_get I.hok e
  have hn : mA f = none := RelO.none_of (by rw [← l]; exact r f)
  exact get_const I.kIn O (c.get f) c.hd k.at_ k.get k.cp hn (handed_of k.rel) (h _ (I.tok _))

theorem getmeth_ok {m : Str} {g : Addr} {pl : Sem Bool} {Q : Value × List Value → Shared → Prop} (I : Inv X pins σ H s) (e : H a = some (.ins C dx fs)) (c : Cls X.K C) (k : Meth X.K C m g) (l : fs.lookup m = none)
    (h : Q (.ref g, [.ref a]) s) : wpAny (model X.prog X.w) A (getMethod (.ref a) m pl) Q E s := by
  obtain ⟨mA, O, r, _, _, _⟩ := ins_get I.hok e
  have hn : mA m = none := RelO.none_of (by rw [← l]; exact r m)
  exact get_meth I.kIn O (c.get m) k.at_ k.fn hn h

theorem setattr_ok {y : V} {u : Value} {Q : Unit → Shared → Prop} (I : Inv X pins σ H s) (e : H a = some (.ins C dx fs)) (c : Cls X.K C) (n : NoAttr X.K C f) (hl : fs.length < 1000) (ry : RelV y u)
    (h : ∀ s', Inv X pins σ (upd H a (.ins C dx (putF f y fs))) s' → Q () s') : wpAny (model X.prog X.w) A (setAttr (.ref a) f u) Q E s := by
  obtain ⟨mA, O, r, wi, _, ho⟩ := ins_get I.hok e
  have hz : (fs.map (·.1)).length ≤ sizeLine := by rw [List.length_map, sizeLine_eq]; omega
  refine set_map I.kIn O c.sa c.po n.taker c.hd wi hz fun h' O' sb => h _ ?_
  have hd : ∃ o, h'.get? dx = some o := let ⟨o, _, _, e', _⟩ := O'.ns; ⟨o, e'⟩
  refine I.write (x := a) (e := dx) (by rw [e]; exact True.intro) (.inr ho) (fun b q hb z => (sb.2 b hb).trans z) hd ?_
  refine ⟨by rw [upd_ne O.ne]; exact ho, ?_, O.ne, O'.obj, _, O'.ns, fun g => ?_, fun g hg => ?_⟩
  · have := length_putF f y fs; omega
  · show RelO ((putF f y fs).lookup g) (if g = f then some u else mA g)
    rw [lookup_putF]
    by_cases q : g = f
    · rw [if_pos q, if_pos q]; exact ry
    · rw [if_neg q, if_neg q]; exact r g
  · by_cases q : g = f
    · rw [q]; exact (keys_putF f y fs).1
    · refine (keys_putF f y fs).2 g (wi g fun z => hg ?_)
      show (if g = f then some u else mA g) = none
      rw [if_neg q]; exact z

/-- a new instance, tracked, without attributes -/
theorem Inv.made (I : Inv X pins σ H s) : Inv X pins σ (upd (upd H s.heap.objs.size (.own (s.heap.objs.size + 1))) (s.heap.objs.size + 1) (.ins C s.heap.objs.size []))
    { s with heap := (s.heap.push PySem.W.emptyDict).push (PySem.W.instObj C s.heap.objs.size) } := by
  have e1 : (s.heap.push PySem.W.emptyDict).get? s.heap.objs.size = some PySem.W.emptyDict := Heap.get?_push_size s.heap rfl
  have e2 : ((s.heap.push PySem.W.emptyDict).push (PySem.W.instObj C s.heap.objs.size)).get? (s.heap.objs.size + 1) = some (PySem.W.instObj C s.heap.objs.size) := by
    have := Heap.get?_push_size (s.heap.push PySem.W.emptyDict) (o := PySem.W.instObj C s.heap.objs.size) rfl
    rwa [Heap.size_push] at this
  have e3 : (s.heap.push PySem.W.emptyDict).Ns s.heap.objs.size (fun _ => none) := ⟨PySem.W.emptyDict, #[], _, e1, rfl, (fun e he => absurd he (by simp)), fun _ => rfl⟩
  have I1 := I.laid (a := s.heap.objs.size) (o := .own (s.heap.objs.size + 1)) (h' := s.heap.push PySem.W.emptyDict) (t' := s.toks) (fun b u q => Heap.get?_push_of_some _ q) (Nat.le_refl _) ⟨_, e1⟩
  refine I1.laid (a := s.heap.objs.size + 1) (o := .ins C s.heap.objs.size []) (t' := s.toks) (fun b u q => Heap.get?_push_of_some _ q) (Nat.le_of_eq (Heap.size_push _ _)) ?_
  have ne : s.heap.objs.size ≠ s.heap.objs.size + 1 := Nat.ne_of_lt (Nat.lt_succ_self _)
  refine ⟨by rw [upd_ne ne, upd_same], Nat.zero_le _, ne, e2, fun _ => none, (Heap.Ns1.of_empty e3).at fun o q => Heap.get?_push_of_some _ q, fun _ => True.intro, fun y hy => absurd rfl hy⟩

/-- e.f where nothing but the object is asked: through attributeBase (super) and the last hold -/
theorem attr_of {prog : Program} {w : World} {env : Env} {e : Expr} {f : Str} {pos : Pos} {s : Shared} {Q : Value → Shared → Prop} (hb : attributeBase e f env (eval e env) = eval e env)
    (h : wpAny (model prog w) A (eval e env) (fun o s₁ => wpAny (model prog w) A (getAttr o f true) Q E s₁) E s) : wpAny (model prog w) A (eval (.Attribute e f pos) env) Q E s :=
  Attribute_any_ h (by rw [arm_eval_Attribute, hb])
end

/-! ### readings and rules -/
/-- e.f, an attribute of the instance -/
def tFld (K : PySem.W.Frag) (ta : TE) (f : Str) : TE := fun σ H Q => ta σ H fun x H1 => ∃ a C dx fs v, x = .ref a ∧ H1 a = some (.ins C dx fs) ∧ Cls K C ∧ NoAttr K C f ∧ fs.lookup f = some v ∧ Q v H1
/-- e.f, a constant of the class -/
def tCon (K : PySem.W.Frag) (ta : TE) (f : Str) : TE := fun σ H Q => ta σ H fun x H1 => ∃ a C dx fs v u, x = .ref a ∧ H1 a = some (.ins C dx fs) ∧ Cls K C ∧ Con K C f v u ∧ fs.lookup f = none ∧ Q v H1
/-- e.f = value -/
def sFld (K : PySem.W.Frag) (ta tv : TE) (f : Str) : TS := fun D σ H => tv σ H fun y H1 => ta σ H1 fun x H2 => ∃ a C dx fs, x = .ref a ∧ H2 a = some (.ins C dx fs) ∧ Cls K C ∧ NoAttr K C f ∧ fs.length < 1000 ∧
  D.nx σ (upd H2 a (.ins C dx (putF f y fs)))
/-- an augmented operator on two values -/
def InOp (X : Cx) (op : Operator) (rd : V → V → Hp → VK → Prop) : Prop :=
  ∀ (pins : List (Addr × Obj)) (s : Shared) (σ : St) (H : Hp) (x y : V) (u v : Value) (Q : VK), Inv X pins σ H s → RelV x u → RelV y v → rd x y H Q → wpAny (model X.prog X.w) X.A (inplaceOp op u v) (EP X pins σ Q) X.xe s
/-- e.f op= value -/
def sFldAug (K : PySem.W.Frag) (ta tv : TE) (rd : V → V → Hp → VK → Prop) (f : Str) : TS := fun D σ H => ta σ H fun x H1 => ∃ a C dx fs v, x = .ref a ∧ H1 a = some (.ins C dx fs) ∧ Cls K C ∧ NoAttr K C f ∧ fs.lookup f = some v ∧
  tv σ H1 fun y H2 => rd v y H2 fun z H3 => ∃ dx' fs', H3 a = some (.ins C dx' fs') ∧ fs'.length < 1000 ∧ D.nx σ (upd H3 a (.ins C dx' (putF f z fs')))

section
variable {X : Cx} {o e value : Expr} {f : Str} {pos pos' tpos : Pos} {ta tv : TE}
theorem pe_fld (he : PE X e ta) (hb : attributeBase e f X.env (eval e X.env) = eval e X.env) : PE X (.Attribute e f pos) (tFld X.K ta f) := by
  intro pins s σ H Q I h
  refine attr_of hb (thn (he pins s σ H _ I h) fun u s1 ⟨x, H1, I1, rx, a, C, dx, fs, v, ex, ea, c, n, l, q⟩ => ?_)
  subst ex
  obtain rfl : u = Value.ref a := rx
  exact getattr_ok I1 ea c n l fun u' s2 I2 ru => ⟨v, H1, I2, ru, q⟩
theorem pe_con (he : PE X e ta) (hb : attributeBase e f X.env (eval e X.env) = eval e X.env) : PE X (.Attribute e f pos) (tCon X.K ta f) := by
  intro pins s σ H Q I h
  refine attr_of hb (thn (he pins s σ H _ I h) fun u s1 ⟨x, H1, I1, rx, a, C, dx, fs, v, u0, ex, ea, c, k, l, q⟩ => ?_)
  subst ex
  obtain rfl : u = Value.ref a := rx
  exact getcon_ok I1 ea c k l fun s2 I2 => ⟨v, H1, I2, k.rel, q⟩
theorem ps_fld (ha : PE X o ta) (hv : PE X value tv) (hs : swapsWith value (some (.Attribute o f pos')) pos.line X.env = pure false) : PS X (.Assign [.Attribute o f pos'] value pos) (sFld X.K ta tv f) := by
  intro pins s σ H D I h
  refine plainObj_wpAny_Assign_Attribute (thn (hv pins s σ H _ I h) fun u s1 ⟨y, H1, I1, ry, q⟩ => thn (ha pins s1 σ H1 _ I1 q) fun ov s2 ⟨x, H2, I2, rx, a, C, dx, fs, ex, ea, c, n, l, q2⟩ => ?_) hs
  subst ex
  obtain rfl : ov = Value.ref a := rx
  exact setattr_ok I2 ea c n l ry fun s3 I3 => ⟨σ, _, I3, q2⟩
theorem ps_fldaug {op : Operator} {rd : V → V → Hp → VK → Prop} (ha : PE X o ta) (hv : PE X value tv) (hop : InOp X op rd) : PS X (.AugAssign (.Attribute o f tpos) op value pos) (sFldAug X.K ta tv rd f) := by
  intro pins s σ H D I h
  refine wpAny_AugAssign_AttributeAny (thn (ha pins s σ H _ I h) fun ov s1 ⟨x, H1, I1, rx, a, C, dx, fs, v, ex, ea, c, n, l, q⟩ => ?_)
  subst ex
  obtain rfl : ov = Value.ref a := rx
  refine getattr_ok I1 ea c n l fun u s2 I2 ru => thn (hv pins s2 σ H1 _ I2 q) fun w3 s3 ⟨y, H2, I3, ry, q3⟩ => thn (hop pins s3 σ H2 v y u w3 _ I3 ru ry q3) fun w4 s4 ⟨z, H3, I4, rz, dx', fs', ea', l', q4⟩ => ?_
  exact setattr_ok I4 ea' c n l' rz fun s5 I5 => ⟨σ, _, I5, q4⟩
def rAdd : V → V → Hp → VK → Prop := fun x y H Q => ∃ i j, x = .int i ∧ y = .int j ∧ Q (.int (i + j)) H
def rSub : V → V → Hp → VK → Prop := fun x y H Q => ∃ i j, x = .int i ∧ y = .int j ∧ Q (.int (i - j)) H
theorem in_add : InOp X .Add rAdd := by
  rintro pins s σ H x y u v Q I rx ry ⟨i, j, rfl, rfl, q⟩
  obtain ⟨t, rfl⟩ := (show ∃ t, u = Value.int i t from rx)
  obtain ⟨t', rfl⟩ := (show ∃ t', v = Value.int j t' from ry)
  exact PyProof.Rows.iadd_int ⟨.int (i + j), H, I.tok _, ⟨_, rfl⟩, q⟩
theorem in_sub : InOp X .Sub rSub := by
  rintro pins s σ H x y u v Q I rx ry ⟨i, j, rfl, rfl, q⟩
  obtain ⟨t, rfl⟩ := (show ∃ t, u = Value.int i t from rx)
  obtain ⟨t', rfl⟩ := (show ∃ t', v = Value.int j t' from ry)
  exact PyProof.Rows.isub_int ⟨.int (i - j), H, I.tok _, ⟨_, rfl⟩, q⟩

/-- what is between an instance and its method: the tree of a method call -/
theorem methcall_of {pl : Sem Bool} {m : Str} {apos : Pos} {args : List Expr} {pins : List (Addr × Obj)} {s : Shared} {σ : St} {H : Hp} {Q : Value → Shared → Prop} {te : TE} (he : PE X e te) (I : Inv X pins σ H s)
    (h : te σ H fun x H1 => ∃ a C dx fs g, x = .ref a ∧ H1 a = some (.ins C dx fs) ∧ Cls X.K C ∧ Meth X.K C m g ∧ fs.lookup m = none ∧
      ∀ s1, Inv X pins σ H1 s1 → wpAny (model X.prog X.w) X.A (callWith pos (.ref g) [.ref a] (backTo pos (starEach args X.env)) (backToKw pos (keywordEach [] X.env))) Q X.xe s1)
    (ht : eval (.Call (.Attribute e m apos) args [] pos) X.env = (do
      let ov ← eval e X.env
      standAt apos.atName
      let (f, first) ← holding [ov] (getMethod ov m pl)
      callWith pos f first (backTo pos (starEach args X.env)) (backToKw pos (keywordEach [] X.env)))) :
    wpAny (model X.prog X.w) X.A (eval (.Call (.Attribute e m apos) args [] pos) X.env) Q X.xe s := by
  refine PySem.W.methodCall_KW (pl := pl) (thn (he pins s σ H _ I h) fun u s1 ⟨x, H1, I1, rx, a, C, dx, fs, g, ex, ea, c, k, l, q⟩ => ?_) ht
  subst ex
  obtain rfl : u = Value.ref a := rx
  exact getmeth_ok I1 ea c k l (q s1 I1)
end

/-! ### isinstance -/
section
variable {X : Cx} {pins : List (Addr × Obj)} {σ : St} {H : Hp} {s : Shared} {A : Around} {E : Value → Shared → Prop} {Q : Value → Shared → Prop} {c : Value} {b : Bool}
/-- the type of a value, as the fragment's deciders take it; for an instance its class -/
inductive TyOf (K : PySem.W.Frag) (H : Hp) : V → Value → Prop where
  | non : TyOf K H .non (.type "NoneType")
  | bl (x : Bool) : TyOf K H (.bl x) (.type "bool")
  | int (i : Int) : TyOf K H (.int i) (.type "int")
  | str (x : Str) : TyOf K H (.str x) (.type "str")
  | flt (x : UInt64) : TyOf K H (.flt x) (.type "float")
  | lst {a : Addr} {xs : List V} (e : H a = some (.lst xs)) : TyOf K H (.ref a) (.type "list")
  | frz {a : Addr} {o : Obj} {xs : List V} (e : H a = some (.frz o (.lst xs))) : TyOf K H (.ref a) (.type "list")
  | tup {a : Addr} {xs : List V} (e : H a = some (.tup xs)) : TyOf K H (.ref a) (.type "tuple")
  | dK {a : Addr} {kvs : List (Key × V)} (e : H a = some (.dK kvs)) : TyOf K H (.ref a) (.type "dict")
  | dT {a : Addr} {kvs : List (List Key × V)} (e : H a = some (.dT kvs)) : TyOf K H (.ref a) (.type "dict")
  | ins {a C dx : Addr} {fs : List (Str × V)} (e : H a = some (.ins C dx fs)) (cl : Cls K C) (ha : PySem.W.findIn K (.ref C) "__class__" = some (some (.builtin "object.__class__")))
      (hn : PySem.W.specialIn K (.builtin "object.__class__") "__get__" = some (some (.builtin "getset_descriptor.__get__"))) (htk : PySem.W.takesIn K (.builtin "object.__class__") = some true)
      (hm : PySem.W.mroIn K C (.type "object") = some true) : TyOf K H (.ref a) (.ref C)
/-- isinstance(x, c) for one class c, a built-in or an own one: kitOne's answer -/
theorem isinst_ok {x : V} {u t : Value} (I : Inv X pins σ H s) (rx : RelV x u) (ty : TyOf X.K H x t) (e : PySem.W.kitOne X.K t c = some b) (h : ∀ tk, Q (.bool b) { s with toks := tk }) :
    wpAny (model X.prog X.w) A (call (.builtin "isinstance") [u, c]) Q E s := by
  cases ty with
  | non => cases (show u = Value.none from rx); exact PySem.W.kia_one PySem.W.kitx_none I.kIn True.intro e (fun z => nomatch z) h
  | bl y => cases (show u = Value.bool y from rx); exact PySem.W.kia_one PySem.W.kitx_bool I.kIn True.intro e (fun z => nomatch z) h
  | int i => obtain ⟨t, q⟩ := (show ∃ t, u = Value.int i t from rx); cases q; exact PySem.W.kia_one PySem.W.kitx_int I.kIn True.intro e (fun z => nomatch z) h
  | str y => obtain ⟨t, q⟩ := (show ∃ t, u = Value.str y t from rx); cases q; exact PySem.W.kia_one PySem.W.kitx_str I.kIn True.intro e (fun z => nomatch z) h
  | flt y => obtain ⟨t, q⟩ := (show ∃ t, u = Value.float y t from rx); cases q; exact PySem.W.kia_one PySem.W.kitx_float I.kIn True.intro e (fun z => nomatch z) h
  | @lst a xs ea =>
    cases (show u = Value.ref a from rx)
    obtain ⟨_, _, n, _, h1⟩ := (show ObjOk X.prog X.w H s.heap a (.lst xs) from I.hok a _ ea)
    exact PySem.W.kia_one PySem.W.kitx_list I.kIn ⟨_, h1, rfl⟩ e (fun z => nomatch z) h
  | @frz a ob xs ea =>
    cases (show u = Value.ref a from rx)
    obtain ⟨_, _, _, n, _, h1⟩ := (show ObjOk X.prog X.w H s.heap a (.frz ob (.lst xs)) from I.hok a _ ea)
    exact PySem.W.kia_one PySem.W.kitx_list I.kIn ⟨_, h1, rfl⟩ e (fun z => nomatch z) h
  | @tup a xs ea =>
    cases (show u = Value.ref a from rx)
    obtain ⟨_, _, _, p⟩ := (show ObjOk X.prog X.w H s.heap a (.tup xs) from I.hok a _ ea)
    obtain ⟨o, h1, h2, _⟩ := p
    exact PySem.W.kia_one PySem.W.kitx_tuple I.kIn ⟨o, h1, h2⟩ e (fun z => nomatch z) h
  | @dK a kvs ea =>
    cases (show u = Value.ref a from rx)
    obtain ⟨_, _, vs, _, p⟩ := (show ObjOk X.prog X.w H s.heap a (.dK kvs) from I.hok a _ ea)
    obtain ⟨o, es, ep, h1, h2, _⟩ := p
    exact PySem.W.kia_one PySem.W.kitx_dict I.kIn ⟨o, h1, h2.1⟩ e (fun z => nomatch z) h
  | @dT a kvs ea =>
    cases (show u = Value.ref a from rx)
    obtain ⟨_, _, xs, _, o, es, ep, h1, h2, _⟩ := (show ObjOk X.prog X.w H s.heap a (.dT kvs) from I.hok a _ ea)
    exact PySem.W.kia_one PySem.W.kitx_dict I.kIn ⟨o, h1, h2.1⟩ e (fun z => nomatch z) h
  | @ins a C dx fs ea cl ha hn htk hm =>
    cases (show u = Value.ref a from rx)
    obtain ⟨mA, O, _⟩ := ins_get I.hok ea
    obtain ⟨od, J, _⟩ := O.look
    exact PySem.W.kia_one (PySem.W.kitx_own (cl.get _) cl.hd ha hn htk hm) I.kIn J e (fun z => nomatch z) h
end
end L2

namespace L2
open PySem PySem.Spec PyProof.Rows

/-! ### room -/
structure Room (k : Nat) (A : Around) : Prop where
  hd : A.handled = none
  dp : A.depth + 3 * k + 5 < recursionLimit
  un : A.units + 16 * k + 200 < cLine
theorem Room.mono {j k : Nat} {A : Around} (r : Room k A) (h : j ≤ k) : Room j A := ⟨r.hd, by have := r.dp; omega, by have := r.un; omega⟩
theorem Room.deeper {k : Nat} {A : Around} (r : Room (k + 1) A) (env : Env) : Room k (A.deeper env) :=
  ⟨r.hd, by have := r.dp; show A.depth + 1 + 3 * k + 5 < _; omega, by have := r.un; show A.units + 3 + 16 * k + 200 < _; omega⟩
theorem Room.in1 {k : Nat} {A : Around} (r : Room (k + 1) A) : Room k A.in1 :=
  ⟨r.hd, by have := r.dp; show A.depth + 3 * k + 5 < _; omega, by have := r.un; show A.units + 1 + 16 * k + 200 < _; omega⟩
theorem make_depth {A : Around} {C : Addr} {us : List Value} {kw : List (Str × Value)} : (A.under (.builtin "type.__call__" ⟨.ref C :: us, kw⟩)).depth = A.depth + 1 := by
  first | rfl | simp [Around.under, Code.weight, Code.isCreation, Code.isGuard, Code.isCaller, Code.frames, Code.isFrame, guardIds]
theorem make_units {A : Around} {C : Addr} {us : List Value} {kw : List (Str × Value)} : (A.under (.builtin "type.__call__" ⟨.ref C :: us, kw⟩)).units = A.units + 1 := by
  first | rfl | simp [Around.under, Code.cUnits, Code.frames, Code.isFrame]
theorem Room.make {k : Nat} {A : Around} (r : Room (k + 1) A) (C : Addr) (us : List Value) (kw : List (Str × Value)) : Room k (A.under (.builtin "type.__call__" ⟨.ref C :: us, kw⟩)) :=
  ⟨r.hd, by have := r.dp; rw [make_depth]; omega, by have := r.un; rw [make_units]; omega⟩
theorem Room.depth {k : Nat} {A : Around} (r : Room k A) : A.depth < recursionLimit := by have := r.dp; omega
theorem Room.units {k : Nat} {A : Around} (r : Room k A) : A.units + 64 < cLine := by have := r.un; omega
theorem Room.units0 {k : Nat} {A : Around} (r : Room k A) : A.units < cLine := by have := r.un; omega

/-! ### argument lists and displays -/
def tNil : TA := fun _ H Q => Q [] H
def tCons (ta : TE) (tr : TA) : TA := fun σ H Q => ta σ H fun x H1 => tr σ H1 fun xs H2 => Q (x :: xs) H2
section
variable {X : Cx} {e : Expr} {es : List Expr} {te : TE} {t : TA} {pos : Pos}
theorem pa_nil : PA X [] tNil := fun _ _ _ _ H Q I h => Calls.spliced_nil ⟨[], H, I, .nil, h⟩
theorem pa_cons (ha : PE X e te) (hr : PA X es t) (hs : starEach (e :: es) X.env = (false, eval e X.env) :: starEach es X.env := by rfl) : PA X (e :: es) (tCons te t) := by
  intro pos pins s σ H Q I h
  rw [hs]
  show wpAny _ _ (spliced ((false, eval e X.env) :: backTo pos (starEach es X.env))) _ _ s
  refine Calls.spliced_cons (thn (ha pins s σ H _ I h) fun u s1 ⟨x, H1, I1, r1, q1⟩ => ?_)
  exact thn (hr pos pins s1 σ H1 _ I1 q1) fun us s2 ⟨xs, H2, I2, r2, q2⟩ => ⟨x :: xs, H2, I2, .cons r1 r2, q2⟩

/-- a tuple, a list of written items -/
def tTup (t : TA) : TE := fun σ H Q => t σ H fun xs H1 => xs.length ≤ sizeLine ∧ ∀ p, H1 p = none → Q (.ref p) (upd H1 p (.tup xs))
def tLst (t : TA) : TE := fun σ H Q => t σ H fun xs H1 => xs.length ≤ sizeLine ∧ ∀ p, H1 p = none → Q (.ref p) (upd H1 p (.lst xs))
theorem pe_tup {x1} (h : PA X es t) : PE X (.Tuple es x1 pos) (tTup t) := by
  intro pins s σ H Q I hq
  refine wpAny_Tuple_spliced (thn (h pos pins s σ H _ I hq) fun us s1 ⟨xs, H1, I1, r, z, q⟩ => ⟨by rw [← r.length]; exact z, ?_⟩)
  have hf : H1 s1.heap.objs.size = none := I1.hok.fresh (Nat.le_refl _)
  refine ⟨.ref s1.heap.objs.size, upd H1 s1.heap.objs.size (.tup xs), I1.laid (t' := s1.toks) (fun b u e => Heap.get?_push_of_some _ e) (Nat.le_refl _) ?_, rfl, q _ hf⟩
  exact ⟨z, us, r, ⟨_, Heap.get?_push_size _ rfl, rfl, _, rfl⟩⟩
theorem pe_lst (h : PA X es t) : PE X (.List es pos) (tLst t) := by
  intro pins s σ H Q I hq
  refine wpAny_List_spliced (thn (h pos pins s σ H _ I hq) fun us s1 ⟨xs, H1, I1, r, z, q⟩ => ⟨by rw [← r.length]; exact z, ?_⟩)
  have hf : H1 s1.heap.objs.size = none := I1.hok.fresh (Nat.le_refl _)
  refine ⟨.ref s1.heap.objs.size, upd H1 s1.heap.objs.size (.lst xs), I1.laid (t' := s1.toks) (fun b u e => Heap.get?_push_of_some _ e) (Nat.le_refl _) ?_, rfl, q _ hf⟩
  exact ⟨z, us, 0, r, Heap.get?_push_size _ rfl⟩
end

/-! ### what a def promises -/
/-- a def's promise: the bound arguments in the parameters' order, the heap, the wanted end, the wanted exception -/
abbrev Sp := List V → Hp → VK → XK → Prop
/-- how an exception lies behind a call (file 08 gives it): the callers' frames, abstract heap and state ahead of the call, the wish, the exception, the state -/
abbrev CXT := List Env → Hp → Shared → XK → Value → Shared → Prop

/-- the state at a call -/
structure Env0 (P : Program) (w : World) (K : PySem.W.Frag) (mg : Str → Option Value) (base : Heap) (A : Around) (outer : List Env) (s : Shared) (H : Hp) : Prop where
  frames : A.frames = some outer
  mod : Mod K mg base
  bs : ∀ b o, base.get? b = some o → s.heap.get? b = some o ∧ H b = none
  bsz : base.objs.size ≤ s.heap.objs.size
  funs : s.heap.FunFrames base outer
  frf : ∀ b ∈ frs outer, H b = none
  hok : HOk P w H s.heap
  bare : AllBare s.gens
/-- a call's end -/
def CE (outer : List Env) (P : Program) (w : World) (H : Hp) (s : Shared) (Q : VK) (u : Value) (s' : Shared) : Prop :=
  ∃ v H', s'.os = s.os ∧ AllBare s'.gens ∧ Un (frs outer) [] H H' s.heap s'.heap ∧ HOk P w H' s'.heap ∧ RelV v u ∧ Q v H'
def CR (CX : CXT) (outer : List Env) (P : Program) (w : World) (H : Hp) (s : Shared) (Q : VK) (E : XK) (r : Result) (s' : Shared) : Prop :=
  match r with
  | .ok (.ret u) => CE outer P w H s Q u s'
  | .ok _ => False
  | .error e => CX outer H s E e s'
structure FnOk (P : Program) (w : World) (K : PySem.W.Frag) (mg : Str → Option Value) (base : Heap) (CX : CXT) (k : Nat) (f : Addr) (fd : FuncData) (ps : List Str) (sp : Sp) : Prop where
  len : ∀ vs H Q E, sp vs H Q E → vs.length = ps.length
  run : ∀ (A : Around) (outer : List Env) (s : Shared) (H : Hp) (args : Args) (us : List Value) (vs : List V) (Q : VK) (E : XK), Room k A → Env0 P w K mg base A outer s H → BindsTo s fd args (ps.zip us) → Vals vs us → sp vs H Q E →
    codeAny (model P w) A (.call (.ref f) args) (CR CX outer P w H s Q E) s
theorem FnOk.mono {P : Program} {w : World} {K : PySem.W.Frag} {mg : Str → Option Value} {base : Heap} {CX : CXT} {j k : Nat} {f : Addr} {fd : FuncData} {ps : List Str} {sp : Sp} (F : FnOk P w K mg base CX j f fd ps sp) (h : j ≤ k) :
    FnOk P w K mg base CX k f fd ps sp := ⟨F.len, fun A outer s H args us vs Q E hr => F.run A outer s H args us vs Q E (hr.mono h)⟩
/-- a weaker promise -/
theorem FnOk.imp {P : Program} {w : World} {K : PySem.W.Frag} {mg : Str → Option Value} {base : Heap} {CX : CXT} {k : Nat} {f : Addr} {fd : FuncData} {ps : List Str} {sp sp' : Sp} (F : FnOk P w K mg base CX k f fd ps sp)
    (h : ∀ vs H Q E, sp' vs H Q E → sp vs H Q E) : FnOk P w K mg base CX k f fd ps sp' :=
  ⟨fun vs H Q E q => F.len vs H Q E (h _ _ _ _ q), fun A outer s H args us vs Q E hr he hb hv hs => F.run A outer s H args us vs Q E hr he hb hv (h _ _ _ _ hs)⟩

theorem Env0.make {P : Program} {w : World} {K : PySem.W.Frag} {mg : Str → Option Value} {base : Heap} {A : Around} {outer : List Env} {s : Shared} {H : Hp} (e : Env0 P w K mg base A outer s H) (C : Addr) (us : List Value) (kw : List (Str × Value)) :
    Env0 P w K mg base (A.under (.builtin "type.__call__" ⟨.ref C :: us, kw⟩)) outer s H := ⟨by first | exact e.frames | (simpa [Around.under, Code.envs, Code.isFrame, pushEnvs] using e.frames), e.mod, e.bs, e.bsz, e.funs, e.frf, e.hok, e.bare⟩
theorem Env0.in1 {P : Program} {w : World} {K : PySem.W.Frag} {mg : Str → Option Value} {base : Heap} {A : Around} {outer : List Env} {s : Shared} {H : Hp} (e : Env0 P w K mg base A outer s H) :
    Env0 P w K mg base A.in1 outer s H := ⟨e.frames, e.mod, e.bs, e.bsz, e.funs, e.frf, e.hok, e.bare⟩

section
variable {X : Cx} {pins : List (Addr × Obj)} {σ : St} {H : Hp} {s s' : Shared}
/-- from a body: what a callee wants -/
theorem Inv.env0 (I : Inv X pins σ H s) : Env0 X.prog X.w X.K X.mg X.base X.A X.stack s H :=
  ⟨I.ok.frames, I.ok.mod, I.bs, Nat.le_trans I.ok.bsz I.sz, I.stack, I.stkFree, I.hok, I.bare⟩
/-- behind a call -/
theorem Inv.after {Q : VK} {u : Value} (I : Inv X pins σ H s) (h : CE X.stack X.prog X.w H s Q u s') : EP X pins σ Q u s' := by
  obtain ⟨v, H', os, bare, un, hok, r, q⟩ := h
  obtain ⟨hh, g, d, t, os'⟩ := s'
  obtain rfl : os' = s.os := os
  exact ⟨v, H', I.call (h' := hh) (g' := g) (d' := d) (t' := t) (ch := []) un hok bare (fun b z => absurd z (by simp)), r, q⟩
end

/-! ### calls -/
/-- f(..): the written arguments, then the defaults dvs; E: what is wanted of an exception -/
def tCall (sp : Sp) (dvs : List V) (E : XK) (t : TA) : TE := fun σ H Q => t σ H fun vs H1 => sp (vs ++ dvs) H1 Q E
/-- o.m(..) of an instance of the class at C -/
def tMeth (C : Addr) (m : Str) (sp : Sp) (dvs : List V) (E : XK) (ta : TE) (t : TA) : TE := fun σ H Q => ta σ H fun x H1 => ∃ a dx fs, x = .ref a ∧ H1 a = some (.ins C dx fs) ∧ fs.lookup m = none ∧
  t σ H1 fun vs H2 => sp (x :: (vs ++ dvs)) H2 Q E
/-- C(..): a new instance and its dict, then __init__ -/
def tMake (C : Addr) (sp : Sp) (dvs : List V) (E : XK) (t : TA) : TE := fun σ H Q => t σ H fun vs H1 => ∀ x dx, H1 x = none → H1 dx = none → dx ≠ x →
  sp (.ref x :: (vs ++ dvs)) (upd (upd H1 dx (.own x)) x (.ins C dx [])) (fun v H2 => v = .non ∧ Q (.ref x) H2) E

/-- how the parameters are bound: us the positional arguments, kw the keywords' values by name, ds the defaults that fill up -/
def Binds (K : PySem.W.Frag) (fd : FuncData) (ps : List Str) (ds : List Value) : Prop :=
  ∀ (s : Shared) (us : List Value), K.In s.heap → (us ++ ds).length = ps.length → BindsTo s fd ⟨us, []⟩ (ps.zip (us ++ ds))
/-- every parameter is given -/
theorem Binds.all {K : PySem.W.Frag} {fd : FuncData} {ps : List Str} (h : ∀ us : List Value, us.length = ps.length → bindArgs fd ⟨us, []⟩ = pure (ps.zip us)) : Binds K fd ps [] := fun s us _ hl => by
  rw [List.append_nil] at hl ⊢
  exact .of_eq (h us hl)

/-- an exception of a callee reaches what this body wants of exceptions -/
def Passes (CX : CXT) (X : Cx) (E : XK) : Prop := ∀ (pins : List (Addr × Obj)) (σ : St) (H : Hp) (s : Shared) (e : Value) (s' : Shared), Inv X pins σ H s → CX X.stack H s E e s' → X.xe e s'

section
variable {X : Cx} {CX : CXT} {k : Nat} {f C : Addr} {fd : FuncData} {ps : List Str} {sp : Sp} {dvs : List V} {ds : List Value} {E : XK} {x m : Str} {p pos apos : Pos} {e o : Expr} {es : List Expr} {ta : TE} {t : TA}

/-- the callee runs -/
theorem run_fn {pins : List (Addr × Obj)} {σ : St} {H : Hp} {s : Shared} {Q : VK} {us : List Value} {vs : List V} (F : FnOk X.prog X.w X.K X.mg X.base CX k f fd ps sp) (hr : Room k X.A) (hb : Binds X.K fd ps ds) (hd : Vals dvs ds) (hx : Passes CX X E)
    (I : Inv X pins σ H s) (r : Vals vs us) (h : sp (vs ++ dvs) H Q E) : wpAny (model X.prog X.w) X.A (call (.ref f) us) (EP X pins σ Q) X.xe s := by
  have r2 : Vals (vs ++ dvs) (us ++ ds) := r.append hd
  have hl : (us ++ ds).length = ps.length := by rw [← r2.length]; exact F.len _ _ _ _ h
  refine wpAny_call (codeAny_mono (F.run X.A X.stack s H ⟨us, []⟩ (us ++ ds) (vs ++ dvs) Q E hr I.env0 (hb s us I.kIn hl) r2 h) fun r s' hq => ?_)
  cases r with
  | error e => exact hx pins σ H s e s' I hq
  | ok fl =>
    cases fl with
    | ret u => exact I.after hq
    | next => exact False.elim hq
    | brk => exact False.elim hq
    | cont => exact False.elim hq

theorem pe_call (F : FnOk X.prog X.w X.K X.mg X.base CX k f fd ps sp) (hr : Room k X.A) (hg : Gl X x) (hm : X.mg x = some (.ref f)) (hk : PySem.W.keepIn X.K (.ref f) = true) (hb : Binds X.K fd ps ds) (hd : Vals dvs ds) (hx : Passes CX X E)
    (ha : PA X (e :: es) t) (hdb : (x == ("__debug__" : Str)) = false := by decide) (he : starEach (e :: es) X.env = (false, eval e X.env) :: starEach es X.env := by rfl) (hpl : (backTo pos (starEach es X.env)).any (·.1) = false := by rfl) :
    PE X (.Call (.Name x p) (e :: es) [] pos) (tCall sp dvs E t) := by
  intro pins s σ H Q I h
  refine wpAny_Call_Name_kw (ld_glob I hg hm ?_ hdb)
  refine PySem.W.callWith_K (h₀ := X.base) I.ok.mod.kin hk (thn (ha pos pins s σ H _ I h) fun us s1 ⟨vs, H1, I1, r, q⟩ => ⟨I1.kIn, ?_⟩) he hpl
  exact run_fn F hr hb hd hx I1 r q
theorem pe_call0 (F : FnOk X.prog X.w X.K X.mg X.base CX k f fd ps sp) (hr : Room k X.A) (hg : Gl X x) (hm : X.mg x = some (.ref f)) (hk : PySem.W.keepIn X.K (.ref f) = true) (hb : Binds X.K fd ps ds) (hd : Vals dvs ds) (hx : Passes CX X E)
    (hdb : (x == ("__debug__" : Str)) = false := by decide) : PE X (.Call (.Name x p) [] [] pos) (tCall sp dvs E tNil) := by
  intro pins s σ H Q I h
  refine wpAny_Call_Name_kw (ld_glob I hg hm ?_ hdb)
  exact PySem.W.callWith_K0 I.kIn hk (run_fn (us := []) F hr hb hd hx I .nil h)

/-- o.m(e, ..) -/
theorem pe_meth {pl : Sem Bool} (he : PE X o ta) (c : Cls X.K C) (hm : Meth X.K C m f) (F : FnOk X.prog X.w X.K X.mg X.base CX k f fd ps sp) (hr : Room k X.A) (hb : Binds X.K fd ps ds) (hd : Vals dvs ds) (hx : Passes CX X E) (ha : PA X (e :: es) t)
    (hst : starEach (e :: es) X.env = (false, eval e X.env) :: starEach es X.env := by rfl) (hpl : (backTo pos (starEach es X.env)).any (·.1) = false := by rfl)
    (ht : eval (.Call (.Attribute o m apos) (e :: es) [] pos) X.env = (do
      let ov ← eval o X.env
      standAt apos.atName
      let (f, first) ← holding [ov] (getMethod ov m pl)
      callWith pos f first (backTo pos (starEach (e :: es) X.env)) (backToKw pos (keywordEach [] X.env))) := by rfl) :
    PE X (.Call (.Attribute o m apos) (e :: es) [] pos) (tMeth C m sp dvs E ta t) := by
  intro pins s σ H Q I h
  refine PySem.W.methodCall_KW (pl := pl) (thn (he pins s σ H _ I h) fun u s1 ⟨x, H1, I1, rx, a, dx, fs, ex, ea, l, q⟩ => ?_) ht
  subst ex
  obtain rfl : u = Value.ref a := rx
  refine getmeth_ok I1 ea c hm l ?_
  refine PySem.W.callWith_K (first := [.ref a]) (h₀ := X.base) I.ok.mod.kin hm.kp (thn (ha pos pins s1 σ H1 _ I1 q) fun us s2 ⟨vs, H2, I2, r, q2⟩ => ⟨I2.kIn, ?_⟩) hst hpl
  exact run_fn (us := .ref a :: us) (vs := .ref a :: vs) F hr hb hd hx I2 (.cons rfl r) q2
/-- o.m() -/
theorem pe_meth0 {pl : Sem Bool} (he : PE X o ta) (c : Cls X.K C) (hm : Meth X.K C m f) (F : FnOk X.prog X.w X.K X.mg X.base CX k f fd ps sp) (hr : Room k X.A) (hb : Binds X.K fd ps ds) (hd : Vals dvs ds) (hx : Passes CX X E)
    (ht : eval (.Call (.Attribute o m apos) [] [] pos) X.env = (do
      let ov ← eval o X.env
      standAt apos.atName
      let (f, first) ← holding [ov] (getMethod ov m pl)
      callWith pos f first (backTo pos (starEach [] X.env)) (backToKw pos (keywordEach [] X.env))) := by rfl) :
    PE X (.Call (.Attribute o m apos) [] [] pos) (tMeth C m sp dvs E ta tNil) := by
  intro pins s σ H Q I h
  refine PySem.W.methodCall_KW (pl := pl) (thn (he pins s σ H _ I h) fun u s1 ⟨x, H1, I1, rx, a, dx, fs, ex, ea, l, q⟩ => ?_) ht
  subst ex
  obtain rfl : u = Value.ref a := rx
  refine getmeth_ok I1 ea c hm l ?_
  exact PySem.W.callWith_K0 (first := [.ref a]) I1.kIn hm.kp (run_fn (us := [.ref a]) (vs := [.ref a]) F hr hb hd hx I1 (.cons rfl .nil) q)

/-- what a class must have to be made -/
structure Mk (K : PySem.W.Frag) (C f : Addr) : Prop where
  makes : PySem.W.makesIn K C = true
  init : PySem.W.findIn K (.ref C) "__init__" = some (some (.ref f))
  fn : PySem.W.isFn K (.ref f) = true
  kp : PySem.W.keepIn K (.ref C) = true

theorem run_make {pins : List (Addr × Obj)} {σ : St} {H : Hp} {s : Shared} {Q : VK} {us : List Value} {vs : List V} (M : Mk X.K C f) (F : FnOk X.prog X.w X.K X.mg X.base CX k f fd ps sp) (hr : Room (k + 1) X.A) (hb : Binds X.K fd ps ds) (hd : Vals dvs ds)
    (hx : Passes CX X E) (I : Inv X pins σ H s) (r : Vals vs us)
    (h : ∀ x dx, H x = none → H dx = none → dx ≠ x → sp (.ref x :: (vs ++ dvs)) (upd (upd H dx (.own x)) x (.ins C dx [])) (fun v H2 => v = .non ∧ Q (.ref x) H2) E) :
    wpAny (model X.prog X.w) X.A (call (.ref C) us) (EP X pins σ Q) X.xe s := by
  have hq := h (s.heap.objs.size + 1) s.heap.objs.size (I.hok.fresh (Nat.le_succ _)) (I.hok.fresh (Nat.le_refl _)) (Nat.ne_of_lt (Nat.lt_succ_self _))
  have I2 := Inv.made (C := C) I
  have r2 : Vals (V.ref (s.heap.objs.size + 1) :: (vs ++ dvs)) (Value.ref (s.heap.objs.size + 1) :: (us ++ ds)) := .cons rfl (r.append hd)
  have hl : (Value.ref (s.heap.objs.size + 1) :: us ++ ds).length = ps.length := by
    have e := r2.length
    rw [F.len _ _ _ _ hq] at e
    exact e.symm
  refine wpAny_call (make_map (f := f) I.kIn M.makes M.init (beq_iff_eq.mp M.fn) (codeAny_mono (F.run _ X.stack _ _ ⟨Value.ref (s.heap.objs.size + 1) :: us, []⟩ (Value.ref (s.heap.objs.size + 1) :: (us ++ ds)) _ _ E (hr.make C us [])
    (I2.env0.make C us []) (hb _ (Value.ref (s.heap.objs.size + 1) :: us) I2.kIn hl) r2 hq) fun r s' hq' => ?_))
  cases r with
  | error e => exact hx pins σ _ _ e s' I2 hq'
  | ok fl =>
    cases fl with
    | ret u =>
      obtain ⟨v, H', I3, rv, ev, q3⟩ := I2.after hq'
      subst ev
      exact ⟨rv, ⟨V.ref (s.heap.objs.size + 1), H', I3, rfl, q3⟩⟩
    | next => exact False.elim hq'
    | brk => exact False.elim hq'
    | cont => exact False.elim hq'
theorem pe_make (M : Mk X.K C f) (F : FnOk X.prog X.w X.K X.mg X.base CX k f fd ps sp) (hr : Room (k + 1) X.A) (hg : Gl X x) (hm : X.mg x = some (.ref C)) (hb : Binds X.K fd ps ds) (hd : Vals dvs ds) (hx : Passes CX X E)
    (ha : PA X (e :: es) t) (hdb : (x == ("__debug__" : Str)) = false := by decide) (he : starEach (e :: es) X.env = (false, eval e X.env) :: starEach es X.env := by rfl) (hpl : (backTo pos (starEach es X.env)).any (·.1) = false := by rfl) :
    PE X (.Call (.Name x p) (e :: es) [] pos) (tMake C sp dvs E t) := by
  intro pins s σ H Q I h
  refine wpAny_Call_Name_kw (ld_glob I hg hm ?_ hdb)
  refine PySem.W.callWith_K (h₀ := X.base) I.ok.mod.kin M.kp (thn (ha pos pins s σ H _ I h) fun us s1 ⟨vs, H1, I1, r, q⟩ => ⟨I1.kIn, ?_⟩) he hpl
  exact run_make M F hr hb hd hx I1 r q
theorem pe_make0 (M : Mk X.K C f) (F : FnOk X.prog X.w X.K X.mg X.base CX k f fd ps sp) (hr : Room (k + 1) X.A) (hg : Gl X x) (hm : X.mg x = some (.ref C)) (hb : Binds X.K fd ps ds) (hd : Vals dvs ds) (hx : Passes CX X E)
    (hdb : (x == ("__debug__" : Str)) = false := by decide) : PE X (.Call (.Name x p) [] [] pos) (tMake C sp dvs E tNil) := by
  intro pins s σ H Q I h
  refine wpAny_Call_Name_kw (ld_glob I hg hm ?_ hdb)
  exact PySem.W.callWith_K0 I.kIn M.kp (run_make (us := []) M F hr hb hd hx I .nil h)
end

/-! ### keywords -/
/-- the values of the keywords, from the left -/
def PK (X : Cx) (kws : List Keyword) (t : TA) : Prop :=
  ∀ (pos : Pos) (pins : List (Addr × Obj)) (s : Shared) (σ : St) (H : Hp) (Q : List V → Hp → Prop), Inv X pins σ H s → t σ H Q → wpAny (model X.prog X.w) X.A (evalAll ((backToKw pos (keywordEach kws X.env)).map (·.2))) (AP X pins σ Q) X.xe s
section
variable {X : Cx} {CX : CXT} {k : Nat} {f C : Addr} {fd : FuncData} {ps ks : List Str} {sp : Sp} {E : XK} {x m : Str} {p pos apos kpos : Pos} {e o : Expr} {es : List Expr} {kws : List Keyword} {te ta : TE} {t tk : TA} {nm : Option Str}
theorem pk_nil : PK X [] tNil := fun _ _ _ _ H Q I h => wpAny_evalAll_nil ⟨[], H, I, .nil, h⟩
theorem pk_cons (ha : PE X e te) (hr : PK X kws t) : PK X (⟨nm, e, kpos⟩ :: kws) (tCons te t) := by
  intro pos pins s σ H Q I h
  show wpAny _ _ (evalAll ((do let v ← eval e X.env; standAt pos; pure v) :: (backToKw pos (keywordEach kws X.env)).map (·.2))) _ _ s
  refine wpAny_evalAll_cons (wpAny_bind (thn (ha pins s σ H _ I h) fun u s1 ⟨x, H1, I1, r1, q1⟩ => wpAny_bind (wpAny_standAt (wpAny_pure ?_))))
  exact thn (hr pos pins s1 σ H1 _ I1 q1) fun us s2 ⟨xs, H2, I2, r2, q2⟩ => ⟨x :: xs, H2, I2, .cons r1 r2, q2⟩

/-- how a call with keywords binds: g puts the positional values us and the keywords' values ws (names ks) in the parameters' order, defaults among them -/
structure KBinds (K : PySem.W.Frag) (fd : FuncData) (ps ks : List Str) (g : List Value → List Value → List Value) (gV : List V → List V → List V) : Prop where
  to : ∀ (s : Shared) (us ws : List Value), K.In s.heap → (g us ws).length = ps.length → BindsTo s fd ⟨us, ks.zip ws⟩ (ps.zip (g us ws))
  rel : ∀ {vs : List V} {us : List Value} {zs : List V} {ws : List Value}, Vals vs us → Vals zs ws → Vals (gV vs zs) (g us ws)
def tCallK (sp : Sp) (gV : List V → List V → List V) (E : XK) (t tk : TA) : TE := fun σ H Q => t σ H fun vs H1 => tk σ H1 fun zs H2 => sp (gV vs zs) H2 Q E
variable {g : List Value → List Value → List Value} {gV : List V → List V → List V}
theorem run_fnk {pins : List (Addr × Obj)} {σ : St} {H : Hp} {s : Shared} {Q : VK} {us ws : List Value} {vs zs : List V} (F : FnOk X.prog X.w X.K X.mg X.base CX k f fd ps sp) (hr : Room k X.A) (hb : KBinds X.K fd ps ks g gV) (hx : Passes CX X E)
    (I : Inv X pins σ H s) (r : Vals vs us) (rz : Vals zs ws) (h : sp (gV vs zs) H Q E) : wpAny (model X.prog X.w) X.A (call (.ref f) us (ks.zip ws)) (EP X pins σ Q) X.xe s := by
  have r2 := hb.rel r rz
  have hl : (g us ws).length = ps.length := by rw [← r2.length]; exact F.len _ _ _ _ h
  refine wpAny_call (codeAny_mono (F.run X.A X.stack s H ⟨us, ks.zip ws⟩ (g us ws) (gV vs zs) Q E hr I.env0 (hb.to s us ws I.kIn hl) r2 h) fun r s' hq => ?_)
  cases r with
  | error e => exact hx pins σ H s e s' I hq
  | ok fl =>
    cases fl with
    | ret u => exact I.after hq
    | next => exact False.elim hq
    | brk => exact False.elim hq
    | cont => exact False.elim hq
/-- f(e, .., k = v, ..) -/
theorem pe_callK (F : FnOk X.prog X.w X.K X.mg X.base CX k f fd ps sp) (hr : Room k X.A) (hg : Gl X x) (hm : X.mg x = some (.ref f)) (hk : PySem.W.keepIn X.K (.ref f) = true) (hb : KBinds X.K fd ps ks g gV) (hx : Passes CX X E)
    (ha : PA X (e :: es) t) (hkw : PK X kws tk) (hall : (backToKw pos (keywordEach kws X.env)).all (·.1.isSome) = true := by rfl) (hks : (backToKw pos (keywordEach kws X.env)).filterMap (·.1) = ks := by rfl)
    (hdb : (x == ("__debug__" : Str)) = false := by decide) (he : starEach (e :: es) X.env = (false, eval e X.env) :: starEach es X.env := by rfl)
    (hpl : ((backTo pos (starEach (e :: es) X.env)).any (·.1) || (backToKw pos (keywordEach kws X.env)).any (·.1.isNone)) = false := by rfl) :
    PE X (.Call (.Name x p) (e :: es) kws pos) (tCallK sp gV E t tk) := by
  intro pins s σ H Q I h
  refine wpAny_Call_Name_kw (ld_glob I hg hm ?_ hdb)
  refine PySem.W.callWith_KW (h₀ := X.base) I.ok.mod.kin hk hall (thn (ha pos pins s σ H _ I h) fun us s1 ⟨vs, H1, I1, r, q⟩ => ?_) hpl he
  refine thn (hkw pos pins s1 σ H1 _ I1 q) fun ws s2 ⟨zs, H2, I2, rz, q2⟩ => ⟨I2.kIn, ?_⟩
  rw [hks]
  exact run_fnk F hr hb hx I2 r rz q2
end

/-! ### a def's body keeps its promise -/
/-- names: the parameters first -/
structure FnScope (N P : List Str) (sc : Scope) : Prop where
  kind : sc.kind = .function
  co : sc.isCoroutine = false
  gen : sc.isGenerator = false
  nd : N.Nodup
  pre : N.take P.length = P
  par : ∀ x ∈ P, sc.names.lookup x = some .local ∨ sc.names.lookup x = some .cell
  nofree : ∀ y ∈ sc.names, y.2 ≠ .free

theorem bindL_out {kindOf : Str → Option NameKind} {x : Str} : ∀ {binds : List (Str × Value)} {m : Str → Option Value}, (∀ v, (x, v) ∉ binds) → bindL kindOf binds m x = m x
  | [], _, _ => rfl
  | (n, v) :: r, m, h => by
    unfold bindL
    rw [bindL_out fun w hw => h w (List.mem_cons_of_mem _ hw)]
    split
    · have : x ≠ n := by rintro rfl; exact h v List.mem_cons_self
      simp [this]
    · rfl
theorem bindC_out {kindOf : Str → Option NameKind} {x : Str} : ∀ {binds : List (Str × Value)} {m : Str → Option Value}, (∀ v, (x, v) ∉ binds) → bindC kindOf binds m x = m x
  | [], _, _ => rfl
  | (n, v) :: r, m, h => by
    unfold bindC
    rw [bindC_out fun w hw => h w (List.mem_cons_of_mem _ hw)]
    split
    · rfl
    · have : x ≠ n := by rintro rfl; exact h v List.mem_cons_self
      simp [this]
theorem bindL_get {kindOf : Str → Option NameKind} {x : Str} {v : Value} : ∀ {P : List Str} {vs : List Value} {i : Nat} {m : Str → Option Value}, P.Nodup → P[i]? = some x → vs[i]? = some v → kindOf x = some .local →
    bindL kindOf (P.zip vs) m x = some v
  | [], _, _, _, _, h, _, _ => by simp at h
  | _ :: _, [], _, _, _, _, h, _ => by simp at h
  | p :: P, w :: vs, 0, m, nd, h1, h2, hk => by
    simp at h1 h2; subst h1; subst h2
    show bindL kindOf ((p, w) :: P.zip vs) m p = _
    unfold bindL
    rw [bindL_out fun v hv => (List.nodup_cons.mp nd).1 (List.of_mem_zip hv).1, if_pos hk]
    simp
  | p :: P, w :: vs, i + 1, m, nd, h1, h2, hk => by
    show bindL kindOf ((p, w) :: P.zip vs) m x = _
    unfold bindL
    exact bindL_get (i := i) (List.nodup_cons.mp nd).2 (by simpa using h1) (by simpa using h2) hk
theorem bindC_get {kindOf : Str → Option NameKind} {x : Str} {v : Value} : ∀ {P : List Str} {vs : List Value} {i : Nat} {m : Str → Option Value}, P.Nodup → P[i]? = some x → vs[i]? = some v → kindOf x ≠ some .local →
    bindC kindOf (P.zip vs) m x = some v
  | [], _, _, _, _, h, _, _ => by simp at h
  | _ :: _, [], _, _, _, _, h, _ => by simp at h
  | p :: P, w :: vs, 0, m, nd, h1, h2, hk => by
    simp at h1 h2; subst h1; subst h2
    show bindC kindOf ((p, w) :: P.zip vs) m p = _
    unfold bindC
    rw [bindC_out fun v hv => (List.nodup_cons.mp nd).1 (List.of_mem_zip hv).1, if_neg hk]
    simp
  | p :: P, w :: vs, i + 1, m, nd, h1, h2, hk => by
    show bindC kindOf ((p, w) :: P.zip vs) m x = _
    unfold bindC
    exact bindC_get (i := i) (List.nodup_cons.mp nd).2 (by simpa using h1) (by simpa using h2) hk

/-- the names' values at the entry -/
def start (N : List Str) (vs : List V) : St := vs.map some ++ List.replicate (N.length - vs.length) none

/-- the context of a def's body, at its entry; an exception leaves the frame, then lies as CX says -/
def cxOf (CX : CXT) (P : Program) (w : World) (K : PySem.W.Frag) (mg : Str → Option Value) (base : Heap) (N : List Str) (qual : Str) (scope : Scope) (f : Addr) (cd : Value) (A : Around) (outer : List Env) (s : Shared) (H : Hp) (E : XK) : Cx where
  prog := P
  w := w
  K := K
  mg := mg
  base := base
  A := A.deeper (envOfC qual scope s.heap.objs.size f cd)
  N := N
  s₀ := s
  H₀ := H
  env := envOfC qual scope s.heap.objs.size f cd
  outer := outer
  stack := envOfC qual scope s.heap.objs.size f cd :: outer
  ex := []
  calm := true
  fn := fun _ => true
  pn := []
  xe := fun e s' => wpAny (model P w) (A.deeper (envOfC qual scope s.heap.objs.size f cd)) (leaving (envOfC qual scope s.heap.objs.size f cd) e) (fun _ s'' => CX outer H s E e s'') (fun e' s'' => CX outer H s E e' s'') s'

theorem cell_has {sc : Scope} {n : Nat} {x : Str} (h : sc.names.lookup x = some .cell) : ∃ c, (cellsFrom n sc.names []).lookup x = some c := by
  have q := PySem.W.cellsFrom_some sc.names n [] (.inl h)
  exact Option.isSome_iff_exists.mp q

theorem inv_start {CX : CXT} {P : Program} {w : World} {K : PySem.W.Frag} {mg : Str → Option Value} {base : Heap} {N ps : List Str} {qual : Str} {scope : Scope} {f : Addr} {cd : Value} {A : Around} {outer : List Env} {s s1 : Shared} {H : Hp} {E : XK} {us : List Value} {vs : List V}
    (S : FnScope N ps scope) (hd : A.handled = none) (e0 : Env0 P w K mg base A outer s H) (hl : vs.length = ps.length) (r : Vals vs us)
    (x : InCallC s s.heap.objs.size (bindL (envOfC qual scope s.heap.objs.size f cd).kindOf (ps.zip us) fun _ => none) (cellsFrom (s.heap.objs.size + 1) scope.names []) (bindC (envOfC qual scope s.heap.objs.size f cd).kindOf (ps.zip us) fun _ => none) s1) :
    Inv (cxOf CX P w K mg base N qual scope f cd A outer s H E) [] (start N vs) H s1 := by
  have hpl : ps.length ≤ N.length := by have := congrArg List.length S.pre; rw [List.length_take] at this; omega
  obtain ⟨h1, tk, rfl, hk⟩ := x.done
  have noA : ∀ b : Addr, b ∉ (cxOf CX P w K mg base N qual scope f cd A outer s H E).ex := fun b z => absurd (show b ∈ ([] : List Addr) from z) (by simp)
  refine ⟨⟨e0.mod, S.kind, rfl, rfl, Nat.le_refl _, fun y z c h1 h2 => ?_, fun y hy => ?_, fun y c _ h => ?_, fun _ => hd, Around.frames_deeper e0.frames, .inr ⟨rfl, rfl⟩, fun b z => absurd z (noA b), e0.bs, e0.bsz, fun b _ _ => noA b, fun b z => absurd z (noA b), e0.funs, e0.frf⟩,
    rfl, e0.bare, Un.kept hk, ⟨_, x.toInCall.ns, fun i y v h1 h2 h3 => ?_⟩, fun y c h => ⟨_, x.cell y c h⟩, e0.hok.fresh (Nat.le_refl _), fun y c h => ?_, fun p hp => absurd (show p ∈ ([] : List (Addr × Obj)) from hp) (by simp), e0.hok.kept hk, ?_⟩
  · exact name_of_addr x.apart (PySem.mem_of_lookup h1) (PySem.mem_of_lookup h2)
  · have hy : scope.names.lookup y = some .cell ∨ scope.names.lookup y = some .free := hy
    rcases hy with hy | hy
    · exact cell_has hy
    · exact absurd rfl (S.nofree _ (PySem.mem_of_lookup hy))
  · exact Nat.le_of_lt (x.above y c (PySem.mem_of_lookup h))
  · have hi : i < vs.length := by
      unfold start at h2
      by_cases hi : i < vs.length
      · exact hi
      · rw [List.getElem?_append_right (by simpa using hi)] at h2
        rw [List.getElem?_replicate] at h2
        split at h2 <;> cases h2
    have ha : vs[i]? = some v := by
      unfold start at h2
      rw [List.getElem?_append_left (by simpa using hi), List.getElem?_map] at h2
      cases e : vs[i]? with
      | none => rw [e] at h2; cases h2
      | some a => rw [e] at h2; cases h2; rfl
    obtain ⟨u, hu, rv⟩ := r.get ha
    have hp : ps[i]? = some y := by
      rw [← S.pre, List.getElem?_take_of_lt (by omega)]; exact h1
    have ndP : ps.Nodup := by rw [← S.pre]; exact S.nd.sublist (List.take_sublist _ _)
    refine ⟨u, rv, ?_⟩
    rcases S.par y (List.mem_of_getElem? hp) with k | k
    · exact .inl ⟨k, bindL_get ndP hp hu k⟩
    · obtain ⟨c, e⟩ := cell_has (n := s.heap.objs.size + 1) k
      refine .inr ⟨.inl k, c, e, ?_⟩
      have q := x.cell y c e
      rw [bindC_get ndP hp hu (by show scope.names.lookup y ≠ _; rw [k]; decide)] at q
      exact q
  · exact e0.hok.fresh (Nat.le_of_lt (x.above y c (PySem.mem_of_lookup h)))
  · unfold start
    show _ = N.length
    rw [List.length_append, List.length_map, List.length_replicate]
    omega

/-- THE RULE: a def (or a method) of the text, by its body. The body's reading t is chosen for each entry; it is run at the parameters' values -/
theorem fn_of {CX : CXT} {P : Program} {w : World} {K : PySem.W.Frag} {mg : Str → Option Value} {base : Heap} {k : Nat} {f : Addr} {name qual : Str} {params : Arguments} {body : List Stmt} {scope : Scope} {dV kV doc pm cdv ct oc : Value} {an od : Option Addr}
    {osl : Array (Option Value)} {N ps : List Str} {sp : Sp} (lk : K.lookup f = some ⟨oc, od, .func (PySem.W.fnOf name qual params body scope dV kV doc pm an cdv ct), osl⟩) (hcd : PySem.W.codeIn K cdv qual = true) (S : FnScope N ps scope)
    (len : ∀ vs H Q E, sp vs H Q E → vs.length = ps.length)
    (hbody : ∀ (A : Around) (outer : List Env) (s : Shared) (H : Hp) (vs : List V) (Q : VK) (E : XK), Room k (A.deeper (envOfC qual scope s.heap.objs.size f cdv)) → sp vs H Q E →
      ∃ t, PSs (cxOf CX P w K mg base N qual scope f cdv A outer s H E) body t ∧ t { nx := fun _ H' => Q .non H', rt := Q } (start N vs) H) :
    FnOk P w K mg base CX (k + 1) f (PySem.W.fnOf name qual params body scope dV kV doc pm an cdv ct) ps sp := by
  refine ⟨len, fun A outer s H args us vs Q E hr e0 hb r hsp => ?_⟩
  have hl := len _ _ _ _ hsp
  have KX : K.In s.heap := e0.mod.kin.keeps fun b o e => (e0.bs b o e).1
  have lim : s.heap.NoLimit := e0.mod.nolimit.keeps fun b o e => (e0.bs b o e).1
  have hkind : ∀ y ∈ ps.zip us, scope.names.lookup y.1 = some .local ∨ (scope.names.lookup y.1 = some .cell ∧ ((cellsFrom (s.heap.objs.size + 1) scope.names []).lookup y.1).isSome = true) := fun ⟨n, v⟩ hy => by
    rcases S.par n (List.of_mem_zip hy).1 with q | q
    · exact .inl q
    · exact .inr ⟨q, PySem.W.cellsFrom_some _ _ _ (.inl q)⟩
  refine codeAny_call_function hr.depth (KX _ _ lk) rfl S.co S.gen rfl (PySem.W.codeRec_of KX hcd) (hb _ _ _ _ ?_)
  refine wpAny_newFunctionEnv_cells S.kind hkind fun env he s1 x => ?_
  subst he
  refine ⟨lim.keeps x.toInCall.keep, codeAny_func ?_⟩
  obtain ⟨t, ht, hq⟩ := hbody A outer s H vs Q E (hr.deeper _) hsp
  have I : Inv (cxOf CX P w K mg base N qual scope f cdv A outer s H E) [] (start N vs) H s1 := inv_start S hr.hd e0 hl r x
  refine wpAny_mono (ht [] s1 (start N vs) H _ I hq) (fun fl s' hs => ?_) fun e s' hs => hs
  have fin : ∀ {σ' : St} {H' : Hp} {v : V} {u : Value}, Inv (cxOf CX P w K mg base N qual scope f cdv A outer s H E) [] σ' H' s' → RelV v u → Q v H' → CE outer P w H s Q u s' :=
    fun {σ' H' v u} J rv q => ⟨v, H', J.os, J.bare, J.base, J.hok, rv, q⟩
  cases fl with
  | ret u =>
    obtain ⟨v, σ', H', J, rv, q⟩ := hs
    exact fin J rv q
  | next =>
    obtain ⟨σ', H', J, q⟩ := hs
    exact fin (v := V.non) (u := Value.none) J rfl q
  | brk =>
    obtain ⟨_, _, _, q⟩ := hs
    exact False.elim q
  | cont =>
    obtain ⟨_, _, _, q⟩ := hs
    exact False.elim q
end L2

namespace L2
open PySem PySem.Spec PyProof.Rows
section
variable {X : Cx} {x : Str} {p pos : Pos} {e : Expr} {es : List Expr} {t : TA} {id T : String} {r : List V → Hp → VK → Prop}

def tCB (r : List V → Hp → VK → Prop) (t : TA) : TE := fun σ H Q => t σ H fun vs H1 => r vs H1 Q
/-- f(e, ..), f a built-in function -/
theorem pe_callB (hc : CallR X (.builtin id) r) (hg : Gl X x) (hm : X.mg x = none) (hv : bootBuiltins x = some (.builtin id)) (ha : PA X (e :: es) t) (hn : x ≠ "__name__" := by decide) (hdb : (x == ("__debug__" : Str)) = false := by decide)
    (he : starEach (e :: es) X.env = (false, eval e X.env) :: starEach es X.env := by rfl) (hpl : (backTo pos (starEach es X.env)).any (·.1) = false := by rfl) : PE X (.Call (.Name x p) (e :: es) [] pos) (tCB r t) := by
  intro pins s σ H Q I h
  refine wpAny_Call_Name_kw (ld_blt I hg hm hv ?_ hn hdb)
  exact PyProof.Rows.callWith_builtin1 (thn (ha pos pins s σ H _ I h) fun us s1 ⟨vs, H1, I1, r1, q1⟩ => hc pins s1 σ H1 vs us Q I1 r1 q1) he hpl
/-- T(e, ..), T a built-in type -/
theorem pe_callTy (hc : CallR X (.type T) r) (hg : Gl X x) (hm : X.mg x = none) (hv : bootBuiltins x = some (.type T)) (ha : PA X (e :: es) t) (hn : x ≠ "__name__" := by decide) (hdb : (x == ("__debug__" : Str)) = false := by decide)
    (he : starEach (e :: es) X.env = (false, eval e X.env) :: starEach es X.env := by rfl) (hpl : (backTo pos (starEach es X.env)).any (·.1) = false := by rfl) : PE X (.Call (.Name x p) (e :: es) [] pos) (tCB r t) := by
  intro pins s σ H Q I h
  refine wpAny_Call_Name_kw (ld_blt I hg hm hv ?_ hn hdb)
  exact PyProof.Rows.callWith_type1 (thn (ha pos pins s σ H _ I h) fun us s1 ⟨vs, H1, I1, r1, q1⟩ => hc pins s1 σ H1 vs us Q I1 r1 q1) he hpl
/-- T() -/
theorem pe_callTy0 (hc : CallR X (.type T) r) (hg : Gl X x) (hm : X.mg x = none) (hv : bootBuiltins x = some (.type T)) (hn : x ≠ "__name__" := by decide) (hdb : (x == ("__debug__" : Str)) = false := by decide) :
    PE X (.Call (.Name x p) [] [] pos) (tCB r tNil) := by
  intro pins s σ H Q I h
  refine wpAny_Call_Name_kw (ld_blt I hg hm hv ?_ hn hdb)
  exact PyProof.Rows.callWith_type0 (hc pins s σ H [] [] Q I .nil h)
end
end L2

namespace HT
open PySem PyProof.Rows

/-- t < u of tuples of ints -/
def lexLt : List Int → List Int → Bool
  | [], [] => false
  | [], _ :: _ => true
  | _ :: _, [] => false
  | x :: xs, y :: ys => if x = y then lexLt xs ys else decide (x < y)
theorem lexLt_cons (x y : Int) (xs ys : List Int) : lexLt (x :: xs) (y :: ys) = if x = y then lexLt xs ys else decide (x < y) := rfl
theorem lexLt_nil_nil : lexLt [] [] = false := rfl
theorem lexLt_nil_cons (y : Int) (ys : List Int) : lexLt [] (y :: ys) = true := rfl
theorem lexLt_cons_nil (x : Int) (xs : List Int) : lexLt (x :: xs) [] = false := rfl

theorem eqAt_int (A : Around) (s : Shared) (a : Int) (t : Tok) (c : Int) (u : Tok) : ∃ e, SeqAt.EqAt A s (.int a t) (.int c u) e ∧ (e = true ↔ a = c) :=
  ⟨(a == c), SeqAt.EqAt.int_int a t c u, by simp⟩
theorem rcLt_int (A : Around) (s : Shared) (a : Int) (t : Tok) (c : Int) (u : Tok) (prog : Program) (w : World) (E : Value → Shared → Prop) (Q : Value → Shared → Prop) (h : Q (.bool (decide (a < c))) s) :
    wpAny (model prog w) A (richCompare .Lt (.int a t) (.int c u)) Q E s :=
  (PyProof.Rows.lt_int h : wpAny (model prog w) A (compareOp .Lt (.int a t) (.int c u)) Q E s)

section
open PySem.SeqAt
open PySem.AutoSeq1 (wpAny_loadPart')
open PySem.MeetsSeq PySem.MeetsSeq2 PySem.MeetsSeq3

theorem tuple_lt_ints (l b : Addr) (items items2 : Array Value) (n n2 : Nat) (dd dd2 : Option Addr) (sl sl2 : Array (Option Value)) (ns ms : List Int) (hi : IntsAre items.toList ns) (hj : IntsAre items2.toList ms) :
    Meets (Builtin.«tuple.__lt__» ⟨[.ref l, .ref b], []⟩)
      (fun _ R s => s.heap.get? l = some { cls := .type "tuple", dict := dd, data := .seq items n, slots := sl } ∧ s.heap.get? b = some { cls := .type "tuple", dict := dd2, data := .seq items2 n2, slots := sl2 } ∧
        R (.ok (.ret (.bool (lexLt ns ms)))) s) :=
  .of_wp fun prog w A R s h => by
    obtain ⟨hp, g, d, tk, os⟩ := s; obtain ⟨hl, hb, h⟩ := h
    have f2 := AutoSeq1.sub_tuple_tuple
    have z1 : items.size = ns.length := by rw [← hi.length]; simp
    have z2 : items2.size = ms.length := by rw [← hj.length]; simp
    wp_walk using wpAny_loadPart' hl, wpAny_loadPart' hb, wpAny_forIn_list _ (fun rest b s' => b.1 = none ∧ s' = ⟨hp, g, d, tk, os⟩ ∧ ∃ (vs ws : List Value) (ns' ms' : List Int), rest = vs.zip ws ∧
      IntsAre vs ns' ∧ IntsAre ws ms' ∧ ns'.length + items2.size = ms'.length + items.size ∧ R (.ok (.ret (.bool (lexLt ns' ms')))) ⟨hp, g, d, tk, os⟩) _
    case turn =>
      rintro ⟨y, x⟩ rest b s' ⟨hb', rfl, vs, ws, ns', ms', hz, hvi, hwi, hlen, hR⟩
      cases hvi with
      | nil => rw [List.zip_nil_left] at hz; cases hz
      | cons a t hvi' =>
        cases hwi with
        | nil => rw [List.zip_nil_right] at hz; cases hz
        | cons c u hwi' =>
          rw [List.zip_cons_cons] at hz
          injection hz with hyx hrest
          injection hyx with hy hx
          subst hy hx
          rw [lexLt_cons] at hR
          simp only [List.length_cons] at hlen
          obtain ⟨e, he, hiff⟩ := eqAt_int A.in1 ⟨hp, g, d, tk, os⟩ a t c u
          refine wpAny_bind (he prog w _ _ ?_)
          cases e with
          | true =>
            rw [if_pos (hiff.mp rfl)] at hR
            wp_walk
            exact ⟨rfl, rfl, _, _, _, _, hrest, hvi', hwi', by omega, hR⟩
          | false =>
            rw [if_neg (fun q => absurd (hiff.mpr q) Bool.false_ne_true)] at hR
            have hri := rcLt_int A.in1 ⟨hp, g, d, tk, os⟩ a t c u prog w
            wp_walk using hri
            exact ⟨_, rfl, by simpa using hR⟩
    case fin =>
      rintro ⟨b1, b2⟩ s' ⟨hb', rfl, vs, ws, ns', ms', hz, hvi, hwi, hlen, hR⟩
      simp only at hb'
      subst hb'
      have hv : lexLt ns' ms' = decide (items.size < items2.size) := by
        cases hvi with
        | nil =>
          cases hwi with
          | nil =>
            simp only [List.length_nil] at hlen
            rw [lexLt_nil_nil]
            exact (decide_eq_false (by omega)).symm
          | cons c u hw =>
            simp only [List.length_nil, List.length_cons] at hlen
            rw [lexLt_nil_cons]
            exact (decide_eq_true (by omega)).symm
        | cons a t hv =>
          cases hwi with
          | nil =>
            simp only [List.length_nil, List.length_cons] at hlen
            rw [lexLt_cons_nil]
            exact (decide_eq_false (by omega)).symm
          | cons c u hw =>
            rw [List.zip_cons_cons] at hz
            cases hz
      rw [hv] at hR
      wp_walk
      exact ⟨_, rfl, by simpa [Builtin.Tuple.tupleCompareSizes] using hR⟩
    case h =>
      exact ⟨rfl, rfl, items.toList, items2.toList, ns, ms, rfl, hi, hj, by omega, h⟩
end

section
variable {prog : Program} {w : World} {A : Around} {E : Value → Shared → Prop} {s : Shared}

theorem lt_tupInts {l b : Addr} {items items2 : Array Value} {ns ms : List Int} {Q : Value → Shared → Prop} (hl : IsTup s.heap l items) (hb : IsTup s.heap b items2) (hi : IntsAre items.toList ns) (hj : IntsAre items2.toList ms)
    (hu : A.units < cLine) (h : Q (.bool (lexLt ns ms)) s) : wpAny (model prog w) A (compareOp .Lt (.ref l) (.ref b)) Q E s := by
  obtain ⟨⟨cls, dd, data, sl⟩, ho, hc, n, hd⟩ := id hl
  obtain ⟨⟨cls2, dd2, data2, sl2⟩, ho2, hc2, n2, hd2⟩ := id hb
  simp only at hc hd hc2 hd2
  subst hc hd hc2 hd2
  exact richCompare_meets_room (op := .Lt) ⟨_, ho, rfl⟩ ⟨_, ho2, rfl⟩ PySem.F.slot_tuple_lt PySem.F.entry_tuple_lt (PySem.F.args_tuple_lt_2 _ _) (tuple_lt_ints l b items items2 n n2 dd dd2 sl sl2 ns ms hi hj)
    ⟨ho, ho2, show Value.bool (lexLt ns ms) ≠ Value.notImplemented ∧ Q (.bool (lexLt ns ms)) s from ⟨(fun x => nomatch x), h⟩⟩ hu

/-- t + u, t not empty -/
theorem cat_tup {t b : Addr} {vs ws : List Value} {Q : Value → Shared → Prop} (ht : IsTup s.heap t vs.toArray) (hb : IsTup s.heap b ws.toArray) (hv : vs ≠ [])
    (h1 : ws = [] → Q (.ref t) s) (h2 : ws ≠ [] → Q (.ref s.heap.objs.size) { s with heap := s.heap.push { cls := .type "tuple", data := .seq (vs ++ ws).toArray } })
    (hsz : vs.length + ws.length ≤ sizeLine) : wpAny (model prog w) A (binaryOp .Add (.ref t) (.ref b)) Q E s := by
  obtain ⟨⟨cls, dd, data, sl⟩, ho, hc, n, hd⟩ := id ht
  obtain ⟨⟨cls2, dd2, data2, sl2⟩, ho2, hc2, n2, hd2⟩ := id hb
  simp only at hc hd hc2 hd2
  subst hc hd hc2 hd2
  have e : vs.toArray ++ ws.toArray = (vs ++ ws).toArray := by simp
  by_cases hw : ws = []
  · exact concat_meets ⟨_, ho, rfl⟩ ⟨_, ho2, rfl⟩ noFill_tuple_add seq_tuple_add PySem.F.slot_tuple_add PySem.F.entry_tuple_add (PySem.F.args_tuple_add_2 _ _)
      (tuple_addW1 t b vs.toArray ws.toArray n n2 dd dd2 sl sl2 (by simpa using hv) (by simp [hw])) ⟨ho, ho2, h1 hw⟩
  · refine concat_meets ⟨_, ho, rfl⟩ ⟨_, ho2, rfl⟩ noFill_tuple_add seq_tuple_add PySem.F.slot_tuple_add PySem.F.entry_tuple_add (PySem.F.args_tuple_add_2 _ _)
      (tuple_addW2 t b vs.toArray ws.toArray n n2 dd dd2 sl sl2 (by simpa using hv) (by simpa using hw) (by rw [List.size_toArray, List.size_toArray]; exact hsz)) ⟨ho, ho2, ?_⟩
    rw [e]
    exact h2 hw

/-! ### t[a:b], not the whole -/
/-- a slice's bound as a place among n (d where it is left out) -/
def sIx (n d : Nat) : Option Int → Nat
  | none => d
  | some v => if v < 0 then (v + (n : Int)).toNat else min v.toNat n
theorem sIx_none (n d : Nat) : sIx n d none = d := rfl
theorem sIx_nat (n d k : Nat) : sIx n d (some (k : Int)) = min k n := by
  show (if (k : Int) < 0 then ((k : Int) + (n : Int)).toNat else min (k : Int).toNat n) = min k n
  rw [if_neg (by omega), Int.toNat_natCast]
theorem sIx_le (n d : Nat) (hd : d ≤ n) (o : Option Int) : sIx n d o ≤ n := by
  cases o with
  | none => exact hd
  | some v =>
    show (if v < 0 then (v + (n : Int)).toNat else min v.toNat n) ≤ n
    by_cases hv : v < 0
    · rw [if_pos hv]; omega
    · rw [if_neg hv]; exact Nat.min_le_right _ _
theorem clip_eq (v : Int) (n d : Nat) : (if v < 0 then max (v + (n : Int)) 0 else min v (n : Int)) = ((sIx n d (some v) : Nat) : Int) := by
  show (if v < 0 then max (v + (n : Int)) 0 else min v (n : Int)) = (((if v < 0 then (v + (n : Int)).toNat else min v.toNat n) : Nat) : Int)
  by_cases hv : v < 0
  · simp only [if_pos hv]; omega
  · simp only [if_neg hv]; omega
theorem adjust_gen (lo hi : Option Int) (n : Nat) : Builtin.Slice.sliceAdjust lo hi 1 (n : Int) = (((sIx n 0 lo : Nat) : Int), ((sIx n n hi : Nat) : Int)) := by
  have h1 : ¬ ((1 : Int) < 0) := by omega
  unfold Builtin.Slice.sliceAdjust
  simp only [h1, if_false]
  refine Prod.ext ?_ ?_
  · cases lo with
    | none => rfl
    | some v => exact clip_eq v n 0
  · cases hi with
    | none => rfl
    | some v => exact clip_eq v n n
theorem places_gen (i j : Nat) : Builtin.Slice.slicePlaces (i : Int) (j : Int) 1 = j - i := by
  unfold Builtin.Slice.slicePlaces
  have h1 : (1 : Int) > 0 := by omega
  simp only [h1, if_true, Int.ediv_one]
  split <;> omega
theorem slicePart_ {v : Value} {o : Option Int} {Q : Option Int → Shared → Prop} (p : IsPart v o) (h : Q o s) : wpAny (model prog w) A (Builtin.Slice.slicePartIndex v) Q E s := by
  cases p with
  | none => exact slicePart_none h
  | int i t => exact slicePart_int h
theorem sliceApplied_gen {sl : Addr} {vl vu : Value} {lo hi : Option Int} {n : Nat} {Q : Int × Int × Nat → Shared → Prop} (hs : s.heap.IsSliceOf sl vl vu .none) (pl : IsPart vl lo) (pu : IsPart vu hi)
    (h : Q (((sIx n 0 lo : Nat) : Int), 1, sIx n n hi - sIx n 0 lo) s) : wpAny (model prog w) A (Builtin.Slice.sliceApplied (.ref sl) (pure (n : Int))) Q E s := by
  obtain ⟨os, hos, hcs, hds⟩ := id hs
  unfold Builtin.Slice.sliceApplied Builtin.Slice.sliceFields
  refine wpAny_bind (wpAny_bind (wpAny_field hos hds (x := vl) rfl (wpAny_bind (wpAny_field hos hds (x := vu) rfl (wpAny_bind (wpAny_field hos hds (x := .none) rfl (wpAny_pure ?_)))))))
  refine wpAny_bind (slicePart_none ?_)
  show wpAny _ _ (if ((1 : Int) == 0) = true then _ else _) _ _ s
  rw [if_neg (by decide)]
  refine wpAny_bind (slicePart_ pl (wpAny_bind (slicePart_ pu (wpAny_bind (wpAny_pure ?_)))))
  show wpAny _ _ (match Builtin.Slice.sliceAdjust lo hi 1 (n : Int) with | (lo, hi) => pure (lo, (1 : Int), Builtin.Slice.slicePlaces lo hi 1)) _ _ s
  rw [adjust_gen lo hi n]
  show wpAny _ _ (pure (((sIx n 0 lo : Nat) : Int), (1 : Int), Builtin.Slice.slicePlaces ((sIx n 0 lo : Nat) : Int) ((sIx n n hi : Nat) : Int) 1)) _ _ s
  rw [places_gen]
  exact wpAny_pure h
theorem pick_gen (xs : Array Value) (i k : Nat) : ((List.range k).filterMap fun (m : Nat) => xs[((i : Int) + (m : Int) * 1).toNat]?).toArray = ((xs.toList.drop i).take k).toArray := by
  have e : (fun (m : Nat) => xs[((i : Int) + (m : Int) * 1).toNat]?) = fun m => xs[i + m]? := by
    funext m
    have : ((i : Int) + (m : Int) * 1).toNat = i + m := by omega
    rw [this]
  rw [e]
  have := pick_run xs i k
  rw [List.filterMap_map] at this
  have e2 : ((fun x => xs[x]?) ∘ fun x => i + x) = fun m => xs[i + m]? := rfl
  rw [e2] at this
  rw [this]

theorem getItem_tuple_cut {t sl : Addr} {items : Array Value} {vl vu : Value} {lo hi : Option Int} {Q : Value → Shared → Prop} (ht : IsTup s.heap t items) (hs : s.heap.IsSliceOf sl vl vu .none) (pl : IsPart vl lo) (pu : IsPart vu hi)
    (hw : ¬ (sIx items.size 0 lo = 0 ∧ sIx items.size items.size hi = items.size))
    (h : Q (.ref s.heap.objs.size) { s with heap := s.heap.push { cls := .type "tuple", data := .seq ((items.toList.drop (sIx items.size 0 lo)).take (sIx items.size items.size hi - sIx items.size 0 lo)).toArray } })
    (hsz : items.size ≤ sizeLine) : wpAny (model prog w) A (getItem (.ref t) (.ref sl)) Q E s := by
  have htake : sizeOk (.seq ((items.toList.drop (sIx items.size 0 lo)).take (sIx items.size items.size hi - sIx items.size 0 lo)).toArray) := by
    show ((items.toList.drop (sIx items.size 0 lo)).take (sIx items.size items.size hi - sIx items.size 0 lo)).toArray.size ≤ sizeLine
    rw [List.size_toArray, List.length_take, List.length_drop, Array.length_toList]
    omega
  have hj : sIx items.size items.size hi ≤ items.size := sIx_le _ _ (Nat.le_refl _) hi
  obtain ⟨os, hos, hcs, hds⟩ := id hs
  have hTs : s.TypeIs (.ref sl) "slice" := ⟨os, hos, hcs⟩
  unfold getItem
  try with_reducible refine wpAny_holding ?_
  first | refine wpAny_bind (wpAny_pure ?_) | skip
  refine wpAny_bind (wpAny_sequenceKey ht.typeIs (by decide) ?_)
  refine wpAny_bind (wpAny_callSpecial?_slot (name := Str.ofString "__getitem__") ht.typeIs PyProof.Rows.slot_tuple_getitem
    (wpAny_call_entry PyProof.Rows.slot_tuple_getitem ht.typeIs entry_tuple_getitem ?_ (args_tuple_getitem _ _)))
  show wpAny _ _ (Builtin.Tuple.tupleItemsOf (.ref t) >>= _) _ _ s
  refine wpAny_bind (tupleItemsOf_ ht ?_)
  refine wpAny_bind (wpAny_typeOf hTs ?_)
  rw [if_pos (by decide)]
  refine wpAny_bind (sliceApplied_gen hs pl pu ?_)
  have hno : ¬ ((((sIx items.size 0 lo : Nat) : Int) == 0 && (1 : Int) == 1 && (sIx items.size items.size hi - sIx items.size 0 lo) == items.size) = true) := by
    intro q
    rw [Bool.and_eq_true, Bool.and_eq_true] at q
    have q1 : ((sIx items.size 0 lo : Nat) : Int) = 0 := eq_of_beq q.1.1
    have q2 : sIx items.size items.size hi - sIx items.size 0 lo = items.size := eq_of_beq q.2
    exact hw ⟨by omega, by omega⟩
  show wpAny _ _ (if (((sIx items.size 0 lo : Nat) : Int) == 0 && (1 : Int) == 1 && (sIx items.size items.size hi - sIx items.size 0 lo) == items.size) = true then _ else _) _ _ s
  rw [if_neg hno, pick_gen]
  first
    | exact wpAny_bind (m := Builtin.Tuple.tupleExact _) (wpAny_newObj_type (wpAny_pure ⟨_, rfl, wpAny_pure h⟩) htake)
    | exact wpAny_bind (m := Builtin.Tuple.tupleExact _) (wpAny_newObj_type (wpAny_bind (wpAny_pure (wpAny_pure ⟨_, rfl, wpAny_pure h⟩))) htake)
    | exact wpAny_bind (wpAny_bind (m := Builtin.Tuple.tupleExact _) (wpAny_newObj_type (wpAny_pure (wpAny_pure ⟨_, rfl, wpAny_pure h⟩)) htake))
    | exact wpAny_bind (wpAny_bind (m := Builtin.Tuple.tupleExact _) (wpAny_newObj_type (wpAny_pure ⟨_, rfl, wpAny_pure h⟩) htake))
end
end HT

namespace L2
open PySem PySem.Spec PyProof.Rows

/-! ### the parts of a slice -/
abbrev TO := St → Hp → (Option Int → Hp → Prop) → Prop
/-- a slice's part (left out, or an int) -/
def PO (X : Cx) (e : Option Expr) (t : TO) : Prop :=
  ∀ (pins : List (Addr × Obj)) (s : Shared) (σ : St) (H : Hp) (Q : Option Int → Hp → Prop), Inv X pins σ H s → t σ H Q →
    wpAny (model X.prog X.w) X.A (evalPart e X.env) (fun u s' => ∃ o H', Inv X pins σ H' s' ∧ IsPart u o ∧ Q o H') X.xe s
def tNoPart : TO := fun _ H Q => Q none H
def tPart (t : TE) : TO := fun σ H Q => t σ H fun x H1 => ∃ i, x = .int i ∧ Q (some i) H1

theorem intsAre_of {ns : List Int} : ∀ {us : List Value}, Vals (ns.map V.int) us → IntsAre us ns := by
  induction ns with
  | nil => intro us r; rw [List.map_nil] at r; cases r; exact .nil
  | cons n ns ih =>
    intro us r
    rw [List.map_cons] at r
    cases r with
    | cons r1 r2 =>
      obtain ⟨t, e⟩ := r1
      subst e
      exact .cons n t (ih r2)

section
variable {X : Cx} {e : Expr} {te : TE} {lo hi : Option Expr} {tl th : TO} {pos p2 : Pos}

theorem po_none : PO X none tNoPart := by
  intro pins s σ H Q I h
  rw [evalPart_none]
  exact wpAny_pure ⟨none, H, I, .none, h⟩
theorem po_some (h : PE X e te) : PO X (some e) (tPart te) := by
  intro pins s σ H Q I hw
  rw [evalPart_some]
  refine thn (h pins s σ H _ I hw) fun u s1 ⟨x, H1, I1, r1, q1⟩ => ?_
  obtain ⟨i, rfl, q⟩ := q1
  obtain ⟨t, rfl⟩ := r1
  exact ⟨some i, H1, I1, .int i t, q⟩

/-- what a slice of a value is, by values: the slice object stands at sl -/
def SlR (X : Cx) (r : V → Option Int → Option Int → Hp → VK → Prop) : Prop :=
  ∀ (pins : List (Addr × Obj)) (s : Shared) (σ : St) (H : Hp) (x : V) (v vl vu : Value) (lo hi : Option Int) (sl : Addr) (Q : VK), Inv X pins σ H s → RelV x v → s.heap.IsSliceOf sl vl vu .none → IsPart vl lo → IsPart vu hi → r x lo hi H Q →
    ∃ T id, typeLookup (.type T) "__getitem__" = pure (some (.builtin id)) ∧ s.TypeIs v T ∧ wpAny (model X.prog X.w) X.A (getItem v (.ref sl)) (EP X pins σ Q) X.xe s
theorem SlR.or {r r' : V → Option Int → Option Int → Hp → VK → Prop} (h : SlR X r) (h' : SlR X r') : SlR X (fun x lo hi H Q => r x lo hi H Q ∨ r' x lo hi H Q) := by
  intro pins s σ H x v vl vu lo hi sl Q I rx hs pl pu q
  rcases q with q | q
  · exact h pins s σ H x v vl vu lo hi sl Q I rx hs pl pu q
  · exact h' pins s σ H x v vl vu lo hi sl Q I rx hs pl pu q
def tSl (r : V → Option Int → Option Int → Hp → VK → Prop) (te : TE) (tl th : TO) : TE := fun σ H Q => te σ H fun x H1 => tl σ H1 fun l H2 => th σ H2 fun u H3 => r x l u H3 Q
/-- a[lo:hi], any a -/
theorem pe_slice {r : V → Option Int → Option Int → Hp → VK → Prop} (hr : SlR X r) (he : PE X e te) (hl : PO X lo tl) (hu : PO X hi th) : PE X (.Subscript e (.Slice lo hi none p2) pos) (tSl r te tl th) := by
  intro pins s σ H Q I h
  refine Subscript_ (thn (he pins s σ H _ I h) fun v s1 ⟨x, H1, I1, r1, q1⟩ => ?_)
  refine wpAny_Slice (thn (hl pins s1 σ H1 _ I1 q1) fun vl s2 ⟨l, H2, I2, pl, q2⟩ => thn (hu pins s2 σ H2 _ I2 q2) fun vu s3 ⟨u, H3, I3, pu, q3⟩ => ?_)
  rw [evalPart_none]
  refine wpAny_pure ?_
  have I4 : Inv X pins σ H3 { s3 with heap := s3.heap.push { cls := .type "slice", data := .fields #[vl, vu, .none] } } := I3.kept (t' := s3.toks) fun b ob q => Heap.get?_push_of_some _ q
  obtain ⟨T, id, hT, ht, hg⟩ := hr pins { s3 with heap := s3.heap.push { cls := .type "slice", data := .fields #[vl, vu, .none] } } σ H3 x v vl vu l u s3.heap.objs.size Q I4 r1 (Heap.IsSliceOf.new ..) pl pu q3
  show wpAny (model X.prog X.w) X.A (subscriptTail e (.Slice lo hi none p2) v (.ref s3.heap.objs.size)) (EP X pins σ Q) X.xe { s3 with heap := s3.heap.push { cls := .type "slice", data := .fields #[vl, vu, .none] } }
  exact tail_any (ops := [.ref s3.heap.objs.size, v]) ht hT hg (by with_unfolding_all rfl)

/-- the items of xs[lo:hi] -/
def cutV (xs : List V) (lo hi : Option Int) : List V := (xs.drop (HT.sIx xs.length 0 lo)).take (HT.sIx xs.length xs.length hi - HT.sIx xs.length 0 lo)
theorem cutV_length (xs : List V) (lo hi : Option Int) : (cutV xs lo hi).length ≤ xs.length := by
  unfold cutV
  rw [List.length_take, List.length_drop]
  omega
/-- t[lo:hi], not the whole of it (the whole would be t itself) -/
def rSlT (K : PySem.W.Frag) : V → Option Int → Option Int → Hp → VK → Prop := fun x lo hi H Q => ∃ a xs, x = .ref a ∧ SqT K H a xs ∧
  ¬ (HT.sIx xs.length 0 lo = 0 ∧ HT.sIx xs.length xs.length hi = xs.length) ∧ ∀ p, H p = none → Q (.ref p) (upd H p (.tup (cutV xs lo hi)))
theorem sl_tup : SlR X (rSlT X.K) := by
  intro pins s σ H x v vl vu lo hi sl Q I rx hs pl pu h
  obtain ⟨a, xs, rfl, hx, hw, q⟩ := h
  cases rx
  obtain ⟨its, r, ht, hz⟩ := I.tuple hx
  have hlen : its.toArray.size = xs.length := by rw [List.size_toArray]; exact r.length.symm
  refine ⟨"tuple", _, PyProof.Rows.slot_tuple_getitem.lookup, ht.typeIs, ?_⟩
  refine HT.getItem_tuple_cut ht hs pl pu (by rw [hlen]; exact hw) ?_ (by rw [hlen]; exact hz)
  rw [hlen]
  refine ⟨.ref s.heap.objs.size, _, I.laid (t' := s.toks) (o := .tup (cutV xs lo hi)) (fun b ob q => Heap.get?_push_of_some _ q) (Nat.le_refl _) ?_, rfl, q _ (I.hok.fresh (Nat.le_refl _))⟩
  exact ⟨Nat.le_trans (cutV_length xs lo hi) hz, _, (r.drop (HT.sIx xs.length 0 lo)).take (HT.sIx xs.length xs.length hi - HT.sIx xs.length 0 lo), IsTup.new _ _⟩

/-! ### t < u, t + u -/
def rLtT (K : PySem.W.Frag) : R2 := fun x y H Q => ∃ a b ns ms, x = .ref a ∧ y = .ref b ∧ SqT K H a (ns.map V.int) ∧ SqT K H b (ms.map V.int) ∧ Q (.bl (HT.lexLt ns ms)) H
theorem op_ltT (hu : X.A.units < cLine) : OpR X (compareOp .Lt) (rLtT X.K) := by
  intro pins s σ H x y v u Q I rx ry h
  obtain ⟨a, b, ns, ms, rfl, rfl, ha, hb, q⟩ := h
  cases rx
  cases ry
  obtain ⟨its, r1, p1, _⟩ := I.tuple ha
  obtain ⟨its2, r2, p2, _⟩ := I.tuple hb
  have i1 : IntsAre its.toArray.toList ns := intsAre_of r1
  have i2 : IntsAre its2.toArray.toList ms := intsAre_of r2
  exact HT.lt_tupInts p1 p2 i1 i2 hu ⟨.bl (HT.lexLt ns ms), H, I, rfl, q⟩
/-- t + u, t not empty: u empty gives t itself -/
def rCatT (K : PySem.W.Frag) : R2 := fun x y H Q => ∃ a b xs ys, x = .ref a ∧ y = .ref b ∧ SqT K H a xs ∧ SqT K H b ys ∧ xs ≠ [] ∧ xs.length + ys.length ≤ sizeLine ∧
  (ys = [] → Q (.ref a) H) ∧ (ys ≠ [] → ∀ p, H p = none → Q (.ref p) (upd H p (.tup (xs ++ ys))))
theorem Vals.nil_iff {xs : List V} {us : List Value} (r : Vals xs us) : us = [] ↔ xs = [] := by
  cases r with
  | nil => simp
  | cons _ _ => simp
theorem op_catT : OpR X (binaryOp .Add) (rCatT X.K) := by
  intro pins s σ H x y v u Q I rx ry h
  obtain ⟨a, b, xs, ys, rfl, rfl, ha, hb, hx, hz, q1, q2⟩ := h
  cases rx
  cases ry
  obtain ⟨its, r1, p1, _⟩ := I.tuple ha
  obtain ⟨its2, r2, p2, _⟩ := I.tuple hb
  refine HT.cat_tup p1 p2 (fun z => hx (r1.nil_iff.mp z)) (fun z => ⟨.ref a, H, I, rfl, q1 (r2.nil_iff.mp z)⟩) (fun z => ?_) (by rw [← r1.length, ← r2.length]; exact hz)
  refine ⟨.ref s.heap.objs.size, _, I.laid (t' := s.toks) (o := .tup (xs ++ ys)) (fun b ob q => Heap.get?_push_of_some _ q) (Nat.le_refl _) ?_, rfl, q2 (fun w => z (r2.nil_iff.mpr w)) _ (I.hok.fresh (Nat.le_refl _))⟩
  exact ⟨by rw [List.length_append]; exact hz, _, r1.append r2, IsTup.new _ _⟩
/-- tuple(t) -/
theorem call_tupleT : CallR X (.type "tuple") (fun xs H Q => ∃ a ys, xs = [.ref a] ∧ SqT X.K H a ys ∧ Q (.ref a) H) := by
  intro pins s σ H xs us Q I r h
  obtain ⟨a, ys, rfl, ha, q⟩ := h
  obtain ⟨u, rfl, ru⟩ := vals1 r
  cases ru
  obtain ⟨its, _, p1, _⟩ := I.tuple ha
  exact call_tuple_same (items := its.toArray) p1 ⟨.ref a, H, I, rfl, q⟩
end
end L2

namespace L2
open PySem PySem.Spec PyProof.Rows

/-! ### places -/
/-- the place that an index of any sign means -/
def ixN (n : Nat) (i : Int) : Option Nat := if 0 ≤ i then (if i < n then some i.toNat else none) else if -(n : Int) ≤ i then some (i + n).toNat else none
def atI {α : Type} (xs : List α) (i : Int) : Option α := (ixN xs.length i).bind fun j => xs[j]?
theorem ixN_seq {n : Nat} {i : Int} {j : Nat} (h : ixN n i = some j) : seqIndex? i n = some j ∧ j < n ∧ -(n : Int) ≤ i ∧ i < n := by
  unfold ixN at h
  by_cases h0 : 0 ≤ i
  · rw [if_pos h0] at h
    by_cases h1 : i < n
    · rw [if_pos h1] at h
      have e : i.toNat = j := Option.some.inj h
      exact ⟨by rw [seqIndex_of h0 h1, e], by omega, by omega, h1⟩
    · rw [if_neg h1] at h; cases h
  · rw [if_neg h0] at h
    by_cases h1 : -(n : Int) ≤ i
    · rw [if_pos h1] at h
      have e : (i + n).toNat = j := Option.some.inj h
      exact ⟨by rw [seqIndex_neg (by omega) h1, e], by omega, h1, by omega⟩
    · rw [if_neg h1] at h; cases h
theorem atI_get {α : Type} {xs : List α} {i : Int} {v : α} (h : atI xs i = some v) : ∃ j, seqIndex? i xs.length = some j ∧ xs[j]? = some v ∧ j < xs.length ∧ -(xs.length : Int) ≤ i ∧ i < xs.length := by
  unfold atI at h
  cases e : ixN xs.length i with
  | none => rw [e] at h; cases h
  | some j =>
    rw [e] at h
    obtain ⟨h1, h2, h3, h4⟩ := ixN_seq e
    exact ⟨j, h1, h, h2, h3, h4⟩
theorem atI_nat {α : Type} {xs : List α} {j : Nat} {v : α} (h : xs[j]? = some v) : atI xs (j : Int) = some v := by
  have hj : j < xs.length := (List.getElem?_eq_some_iff.mp h).1
  have e : ixN xs.length (j : Int) = some j := by
    unfold ixN
    rw [if_pos (by omega), if_pos (by omega)]; simp
  unfold atI; rw [e]; exact h
theorem atI_last {α : Type} (xs : List α) (v : α) : atI (xs ++ [v]) (-1) = some v := by
  have hl : (xs ++ [v]).length = xs.length + 1 := by simp
  have e : ixN (xs ++ [v]).length (-1) = some xs.length := by
    unfold ixN
    rw [hl, if_neg (by decide), if_pos (by omega)]
    congr 1
    omega
  unfold atI
  rw [e]
  show (xs ++ [v])[xs.length]? = some v
  simp

/-! ### what may be subscripted -/
/-- what stands as an index of a plain subscript -/
def PlainIx (b : Expr) : Prop := ∀ o i, subscripted b false o i = operate [o, i] (getItem o i)
/-- a subscript by values -/
def IxR (X : Cx) (r : R2) : Prop :=
  ∀ (value slice : Expr) (pins : List (Addr × Obj)) (s : Shared) (σ : St) (H : Hp) (x y : V) (v u : Value) (Q : VK), Inv X pins σ H s → RelV x v → RelV y u → r x y H Q →
    subscripted slice false v u = operate [v, u] (getItem v u) → wpAny (model X.prog X.w) X.A (subscriptTail value slice v u) (EP X pins σ Q) X.xe s
/-- a call of a builtin's method by values: the receiver, the arguments -/
def MtR (X : Cx) (id : String) (r : V → List V → Hp → VK → Prop) : Prop :=
  ∀ (pins : List (Addr × Obj)) (s : Shared) (σ : St) (H : Hp) (x : V) (xs : List V) (v : Value) (us : List Value) (Q : VK), Inv X pins σ H s → RelV x v → Vals xs us → r x xs H Q →
    wpAny (model X.prog X.w) X.A (call (.builtin id) (v :: us)) (EP X pins σ Q) X.xe s
section
variable {X : Cx} {a b : Expr} {ta tb : TE} {pos : Pos}
theorem IxR.or {r r' : R2} (h : IxR X r) (h' : IxR X r') : IxR X (fun x y H Q => r x y H Q ∨ r' x y H Q) := by
  intro value slice pins s σ H x y v u Q I rx ry q hs
  rcases q with q | q
  · exact h value slice pins s σ H x y v u Q I rx ry q hs
  · exact h' value slice pins s σ H x y v u Q I rx ry q hs
theorem MtR.or {id : String} {r r' : V → List V → Hp → VK → Prop} (h : MtR X id r) (h' : MtR X id r') : MtR X id (fun x xs H Q => r x xs H Q ∨ r' x xs H Q) := by
  intro pins s σ H x xs v us Q I rx rs q
  rcases q with q | q
  · exact h pins s σ H x xs v us Q I rx rs q
  · exact h' pins s σ H x xs v us Q I rx rs q
/-- a[b] -/
theorem pe_ix {r : R2} (hr : IxR X r) (ha : PE X a ta) (hb : PE X b tb) (hs : PlainIx b) : PE X (.Subscript a b pos) (tOp r ta tb) := by
  intro pins s σ H Q I h
  exact Subscript_ (binT ha hb I h fun v u s2 x y H2 I2 rx ry q => hr a b pins s2 σ H2 x y v u Q I2 rx ry q (hs _ _))

def rIxL (K : PySem.W.Frag) : R2 := fun x y H Q => ∃ p xs i v, x = .ref p ∧ y = .int i ∧ SqL K H p xs ∧ atI xs i = some v ∧ Q v H
def rIxT (K : PySem.W.Frag) : R2 := fun x y H Q => ∃ p xs i v, x = .ref p ∧ y = .int i ∧ SqT K H p xs ∧ atI xs i = some v ∧ Q v H
def rIxS : R2 := fun x y H Q => ∃ z i c, x = .str z ∧ y = .int i ∧ z.length ≤ sizeLine ∧ atI z.cps.toList i = some c ∧ Q (.str ⟨#[c]⟩) H
theorem ix_list : IxR X (rIxL X.K) := by
  intro value slice pins s σ H x y v u Q I rx ry h hs
  obtain ⟨p, xs, i, z, rfl, rfl, hq, he, q⟩ := h
  cases rx
  obtain ⟨t, rfl⟩ := ry
  obtain ⟨its, r, pl, hz⟩ := I.list hq
  obtain ⟨j, h1, h2, h3, h4, h5⟩ := atI_get he
  obtain ⟨w, ew, rw'⟩ := r.get h2
  have hl := r.length
  have hn := line63
  have fin : EP X pins σ Q w s := ⟨z, H, I, rw', q⟩
  by_cases h0 : 0 ≤ i
  · have hj : i.toNat = j := by
      rw [seqIndex_of h0 h5] at h1
      exact Option.some.inj h1
    exact item_listR pl.isList h0 (by omega) (by rw [hj]; simpa using ew) fin hs
  · have hj : (i + (its.toArray.size : Int)).toNat = j := by
      rw [seqIndex_neg (by omega) h4] at h1
      rw [List.size_toArray, ← hl]
      exact Option.some.inj h1
    exact subscriptTail_builtinR (x := w) pl.isList.typeIs slot_list_getitem.lookup
      (wpAny_getItem_list_neg (Q := fun r s' => r = w ∧ EP X pins σ Q r s') pl.isList (by omega) (by rw [List.size_toArray] <;> omega) (by omega) (by rw [hj]; simpa using ew) ⟨rfl, fin⟩) hs
theorem ix_tup : IxR X (rIxT X.K) := by
  intro value slice pins s σ H x y v u Q I rx ry h hs
  obtain ⟨p, xs, i, z, rfl, rfl, hq, he, q⟩ := h
  cases rx
  obtain ⟨t, rfl⟩ := ry
  obtain ⟨its, r, pl, hz⟩ := I.tuple hq
  obtain ⟨j, h1, h2, h3, h4, h5⟩ := atI_get he
  obtain ⟨w, ew, rw'⟩ := r.get h2
  have hl := r.length
  have hn := line63
  have fin : EP X pins σ Q w s := ⟨z, H, I, rw', q⟩
  exact subscriptTail_builtinR (x := w) pl.typeIs slot_tuple_getitem.lookup
    (getItem_tuple (j := j) (Q := fun r s' => r = w ∧ EP X pins σ Q r s') pl (by omega) (by omega) (by rw [List.size_toArray, ← hl]; exact h1) (by simpa using ew) ⟨rfl, fin⟩) hs
theorem ix_str : IxR X rIxS := by
  intro value slice pins s σ H x y v u Q I rx ry h hs
  obtain ⟨z, i, c, rfl, rfl, hz, he, q⟩ := h
  obtain ⟨t, rfl⟩ := rx
  obtain ⟨t', rfl⟩ := ry
  obtain ⟨j, h1, h2, h3, h4, h5⟩ := atI_get he
  have hl : z.cps.toList.length = z.length := by simp [Str.length]
  rw [hl] at h1 h4 h5
  have hn := line63
  exact tail_any (typeIs_str s z t) slot_str_getitem.lookup (getItem_str (c := c) (by
    have e1 : decide (i < -(2 ^ 63 : Int)) = false := decide_eq_false (by omega)
    have e2 : decide (i ≥ 2 ^ 63) = false := decide_eq_false (by omega)
    rw [e1, e2, Bool.or_false]) (by rw [h1]; simpa using h2) ⟨.str ⟨#[c]⟩, H, I.tok _, ⟨_, rfl⟩, q⟩) hs
/-- list, tuple or str -/
def rIx (K : PySem.W.Frag) : R2 := fun x y H Q => rIxL K x y H Q ∨ rIxT K x y H Q ∨ rIxS x y H Q
theorem ix_seq : IxR X (rIx X.K) := ix_list.or (ix_tup.or ix_str)

/-! ### xs[i] = v, any sign -/
/-- the list's object behind a store -/
theorem mapSeq_set (its : List Value) (n j : Nat) (u : Value) : Obj.mapSeq (·.setIfInBounds j u) { cls := .type "list", data := .seq its.toArray n } = { cls := .type "list", data := .seq (its.set j u).toArray n } := by
  simp [Obj.mapSeq]
theorem Inv.lst {pins : List (Addr × Obj)} {σ : St} {H : Hp} {s : Shared} {p : Addr} {xs : List V} (I : Inv X pins σ H s) (h : H p = some (.lst xs)) :
    ∃ (its : List Value) (n : Nat), Vals xs its ∧ s.heap.get? p = some { cls := .type "list", data := .seq its.toArray n } ∧ xs.length ≤ sizeLine := by
  obtain ⟨z, its, n, r, e⟩ := I.hok p _ h
  exact ⟨its, n, r, e, z⟩
/-- the list at p is written by an update of its object -/
theorem Inv.lstUpd {pins : List (Addr × Obj)} {σ : St} {H : Hp} {s : Shared} {p : Addr} {xs ys : List V} {its its' : List Value} {n n' : Nat} {f : Obj → Obj} (I : Inv X pins σ H s) (h : H p = some (.lst xs))
    (ho : s.heap.get? p = some { cls := .type "list", data := .seq its.toArray n }) (hf : f { cls := .type "list", data := .seq its.toArray n } = { cls := .type "list", data := .seq its'.toArray n' }) (r : Vals ys its') (hz : ys.length ≤ sizeLine) (t : Nat) :
    Inv X pins σ (upd H p (.lst ys)) { s with heap := s.heap.update p f, toks := t } := by
  have e : (s.heap.update p f).get? p = some { cls := .type "list", data := .seq its'.toArray n' } := by
    rw [Heap.get?_update_self f ho (by rw [hf] <;> rfl), hf]
  refine I.write (x := p) (e := p) (by rw [h]; trivial) (.inl rfl) (fun b u hb q => (Heap.get?_update_other _ _ (Ne.symm hb)).trans q) ⟨_, e⟩ ?_
  exact ⟨hz, its', n', r, e⟩
def rSetL : V → V → V → Hp → (Hp → Prop) → Prop := fun o i v H Q => ∃ p xs k j, o = .ref p ∧ i = .int k ∧ H p = some (.lst xs) ∧ ixN xs.length k = some j ∧ Q (upd H p (.lst (xs.set j v)))
theorem set_list : PSet X rSetL := by
  intro pins s σ H o i v ov iv u Q I ro ri rv h
  obtain ⟨p, xs, k, j, rfl, rfl, hp, hj, q⟩ := h
  cases ro
  obtain ⟨t, rfl⟩ := ri
  obtain ⟨its, n, r, ho, hz⟩ := I.lst hp
  obtain ⟨h1, h2, h3, h4⟩ := ixN_seq hj
  have hl := r.length
  have hn := line63
  have I' : Inv X pins σ (upd H p (.lst (xs.set j v))) { s with heap := s.heap.update p (Obj.mapSeq (·.setIfInBounds j u)) } :=
    I.lstUpd hp ho (mapSeq_set its n j u) (r.set rv j) (by rw [List.length_set]; exact hz) s.toks
  by_cases h0 : 0 ≤ k
  · have hk : k.toNat = j := by
      rw [seqIndex_of h0 h4] at h1
      exact Option.some.inj h1
    exact PySem.W.ki_setAt ho h0 (by omega) (by rw [List.size_toArray, ← hl]; exact h4) (by rw [hk]; exact ⟨_, I', q⟩)
  · have hk : (k + (its.toArray.size : Int)).toNat = j := by
      rw [seqIndex_neg (by omega) h3] at h1
      rw [List.size_toArray, ← hl]
      exact Option.some.inj h1
    exact PySem.W.ki_setBack ho (by omega) (by rw [List.size_toArray, ← hl]; exact h3) (by omega) (by rw [hk]; exact ⟨_, I', q⟩)

/-! ### slices -/
theorem slice_bounds (lo hi : Option Int) (n : Nat) : (sliceBounds lo hi none n).1 = ((HT.sIx n 0 lo : Nat) : Int) ∧ (sliceBounds lo hi none n).2.1 = ((HT.sIx n n hi : Nat) : Int) ∧ (sliceBounds lo hi none n).2.2 = 1 := by
  refine ⟨?_, ?_, rfl⟩
  · cases lo with
    | none => simp [sliceBounds, HT.sIx]
    | some i =>
      simp only [sliceBounds, HT.sIx, Option.getD_none, show (1 : Int) > 0 by decide, if_true]
      by_cases h : i < 0
      · simp only [h, if_true] <;> omega
      · simp only [h, if_false] <;> omega
  · cases hi with
    | none => simp [sliceBounds, HT.sIx]
    | some i =>
      simp only [sliceBounds, HT.sIx, Option.getD_none, show (1 : Int) > 0 by decide, if_true]
      by_cases h : i < 0
      · simp only [h, if_true] <;> omega
      · simp only [h, if_false] <;> omega
theorem slicePick_cut (its : List Value) (lo hi : Option Int) : slicePick its.toArray lo hi none = ((its.drop (HT.sIx its.length 0 lo)).take (HT.sIx its.length its.length hi - HT.sIx its.length 0 lo)).toArray := by
  obtain ⟨h1, h2, h3⟩ := slice_bounds lo hi its.toArray.size
  unfold slicePick
  rw [h1, h2, h3]
  simp only [sliceRange_one, pick_run, List.size_toArray] <;> rfl
/-- xs[lo:hi] of a list: a new list -/
def rSlL (K : PySem.W.Frag) : V → Option Int → Option Int → Hp → VK → Prop := fun x lo hi H Q => ∃ a xs, x = .ref a ∧ SqL K H a xs ∧ ∀ p, H p = none → Q (.ref p) (upd H p (.lst (cutV xs lo hi)))
theorem sl_list : SlR X (rSlL X.K) := by
  intro pins s σ H x v vl vu lo hi sl Q I rx hs pl pu h
  obtain ⟨a, xs, rfl, hx, q⟩ := h
  cases rx
  obtain ⟨its, r, ht, hz⟩ := I.list hx
  have hlen := r.length
  refine ⟨"list", _, slot_list_getitem.lookup, ht.isList.typeIs, ?_⟩
  refine wpAny_getItem_list_slice ht.isList hs pl pu .none (by simp) ?_ (by rw [List.size_toArray] <;> omega)
  rw [slicePick_cut, ← hlen]
  refine ⟨.ref s.heap.objs.size, _, I.laid (t' := s.toks) (o := .lst (cutV xs lo hi)) (fun b ob q => Heap.get?_push_of_some _ q) (Nat.le_refl _) ?_, rfl, q _ (I.hok.fresh (Nat.le_refl _))⟩
  exact ⟨Nat.le_trans (cutV_length xs lo hi) hz, _, 0, (r.drop (HT.sIx xs.length 0 lo)).take (HT.sIx xs.length xs.length hi - HT.sIx xs.length 0 lo), Heap.get?_push_size _ rfl⟩

/-! ### in, not in: flat items -/
def flatV : V → Bool
  | .non => true
  | .bl _ => true
  | .int _ => true
  | .str _ => true
  | _ => false
/-- == of flat values -/
def eqV : V → V → Bool
  | .non, .non => true
  | .bl a, .bl b => a == b
  | .bl a, .int b => (if a then 1 else 0) == b
  | .int a, .bl b => a == (if b then 1 else 0)
  | .int a, .int b => a == b
  | .str a, .str b => a == b
  | _, _ => false
theorem eqAt_V {A : Around} {s : Shared} {y x : V} {u v : Value} (ry : RelV y u) (rx : RelV x v) (fy : flatV y = true) (fx : flatV x = true) : SeqAt.EqAt A s u v (eqV y x) := by
  cases y with
  | non =>
    cases ry
    cases x with
    | non => cases rx; exact SeqAt.EqAt.same _
    | bl b => cases rx; exact SeqAt.EqAt.none_bool b
    | int b => obtain ⟨t, rfl⟩ := rx; exact SeqAt.EqAt.none_int b t
    | str b => obtain ⟨t, rfl⟩ := rx; exact SeqAt.EqAt.none_str b t
    | _ => exact absurd (show false = true from fx) Bool.false_ne_true
  | bl a =>
    cases ry
    cases x with
    | non => cases rx; exact SeqAt.EqAt.bool_none a
    | bl b => cases rx; exact SeqAt.EqAt.bool_bool a b
    | int b => obtain ⟨t, rfl⟩ := rx; exact SeqAt.EqAt.bool_int a b t
    | str b => obtain ⟨t, rfl⟩ := rx; exact SeqAt.EqAt.bool_str a b t
    | _ => exact absurd (show false = true from fx) Bool.false_ne_true
  | int a =>
    obtain ⟨t', rfl⟩ := ry
    cases x with
    | non => cases rx; exact SeqAt.EqAt.int_none a t'
    | bl b => cases rx; exact SeqAt.EqAt.int_bool a t' b
    | int b => obtain ⟨t, rfl⟩ := rx; exact SeqAt.EqAt.int_int a t' b t
    | str b => obtain ⟨t, rfl⟩ := rx; exact SeqAt.EqAt.int_str a t' b t
    | _ => exact absurd (show false = true from fx) Bool.false_ne_true
  | str a =>
    obtain ⟨t', rfl⟩ := ry
    cases x with
    | non => cases rx; exact SeqAt.EqAt.str_none a t'
    | bl b => cases rx; exact SeqAt.EqAt.str_bool a t' b
    | int b => obtain ⟨t, rfl⟩ := rx; exact SeqAt.EqAt.str_int a t' b t
    | str b => obtain ⟨t, rfl⟩ := rx; exact SeqAt.EqAt.str_str a t' b t
    | _ => exact absurd (show false = true from fx) Bool.false_ne_true
  | _ => exact absurd (show false = true from fy) Bool.false_ne_true
/-- the items' answers, read off the values (a value's own answer does not lean on its token) -/
def eqU (x : V) (u : Value) : Bool := match u with
  | .none => eqV .non x
  | .bool b => eqV (.bl b) x
  | .int i _ => eqV (.int i) x
  | .str z _ => eqV (.str z) x
  | _ => false
theorem eqU_of {x y : V} {u : Value} (r : RelV y u) (f : flatV y = true) : eqU x u = eqV y x := by
  cases y with
  | non => cases r; rfl
  | bl b => cases r; rfl
  | int i => obtain ⟨t, rfl⟩ := r; rfl
  | str z => obtain ⟨t, rfl⟩ := r; rfl
  | _ => exact absurd (show false = true from f) Bool.false_ne_true
theorem any_eqU {x : V} : ∀ {xs : List V} {us : List Value}, Vals xs us → xs.all flatV = true → us.any (eqU x) = xs.any fun y => eqV y x
  | _, _, .nil, _ => rfl
  | y :: xs, u :: us, .cons r t, f => by
    rw [List.all_cons, Bool.and_eq_true] at f
    rw [List.any_cons, List.any_cons, eqU_of r f.1, any_eqU t f.2]
theorem mem_eqAt {A : Around} {s : Shared} {x : V} {v : Value} (rx : RelV x v) (fx : flatV x = true) : ∀ {xs : List V} {us : List Value}, Vals xs us → xs.all flatV = true → ∀ u ∈ us, SeqAt.EqAt A s u v (eqU x u)
  | _, _, .nil, _ => fun u hu => by cases hu
  | y :: xs, u :: us, .cons r t, f => fun u' hu => by
    rw [List.all_cons, Bool.and_eq_true] at f
    rcases List.mem_cons.mp hu with rfl | hu
    · rw [eqU_of r f.1]; exact eqAt_V r rx f.1 fx
    · exact mem_eqAt rx fx t f.2 u' hu
def inV (x : V) (xs : List V) : Bool := xs.any fun y => eqV y x
/-- x in a list or tuple of flat items -/
def rIn (K : PySem.W.Frag) (neg : Bool) : R2 := fun x y H Q => ∃ p xs, y = .ref p ∧ (SqL K H p xs ∨ SqT K H p xs) ∧ flatV x = true ∧ xs.all flatV = true ∧ Q (.bl (if neg then !inV x xs else inV x xs)) H
theorem op_in_seq : OpR X (compareOp .In) (rIn X.K false) := by
  intro pins s σ H x y v u Q I rx ry h
  obtain ⟨p, xs, rfl, hq, fx, fs, q⟩ := h
  cases ry
  rcases hq with hq | hq
  · obtain ⟨its, r, pl, hz⟩ := I.list hq
    refine SeqAt.in_listAt (eqU x) pl.isList (fun w hw => mem_eqAt rx fx r fs w (by simpa using hw)) ⟨.bl _, H, I, rfl, ?_⟩
    rw [show its.toArray.any (eqU x) = its.any (eqU x) by simp, any_eqU r fs]
    exact q
  · obtain ⟨its, r, pl, hz⟩ := I.tuple hq
    refine SeqAt.in_tupleAt (eqU x) pl (fun w hw => mem_eqAt rx fx r fs w (by simpa using hw)) ⟨.bl _, H, I, rfl, ?_⟩
    rw [show its.toArray.any (eqU x) = its.any (eqU x) by simp, any_eqU r fs]
    exact q
theorem op_notIn_seq : OpR X (compareOp .NotIn) (rIn X.K true) := by
  intro pins s σ H x y v u Q I rx ry h
  obtain ⟨p, xs, rfl, hq, fx, fs, q⟩ := h
  cases ry
  rcases hq with hq | hq
  · obtain ⟨its, r, pl, hz⟩ := I.list hq
    refine SeqAt.notIn_listAt (eqU x) pl.isList (fun w hw => mem_eqAt rx fx r fs w (by simpa using hw)) ⟨.bl _, H, I, rfl, ?_⟩
    rw [show its.toArray.any (eqU x) = its.any (eqU x) by simp, any_eqU r fs]
    exact q
  · obtain ⟨its, r, pl, hz⟩ := I.tuple hq
    refine SeqAt.notIn_tupleAt (eqU x) pl (fun w hw => mem_eqAt rx fx r fs w (by simpa using hw)) ⟨.bl _, H, I, rfl, ?_⟩
    rw [show its.toArray.any (eqU x) = its.any (eqU x) by simp, any_eqU r fs]
    exact q
theorem op_notIn_str : OpR X (compareOp .NotIn) (fun x y H Q => ∃ i j, x = .str i ∧ y = .str j ∧ Q (.bl (!(!(Builtin.Str.occurrences j i 0 j.length 1).isEmpty))) H) := by
  intro pins s σ H x y v u Q I rx ry h
  obtain ⟨i, j, rfl, rfl, q⟩ := h
  obtain ⟨t, rfl⟩ := rx
  obtain ⟨t', rfl⟩ := ry
  exact notIn_str ⟨.bl _, H, I, rfl, q⟩

/-! ### len, list(x), tuple(x) of any list or tuple that is read -/
theorem call_len_seq : CallR X (.builtin "len") (fun xs H Q => ∃ p ys, xs = [.ref p] ∧ (SqL X.K H p ys ∨ SqT X.K H p ys) ∧ Q (.int ys.length) H) := by
  intro pins s σ H xs us Q I r h
  obtain ⟨p, ys, rfl, hq, q⟩ := h
  obtain ⟨u, rfl, rx⟩ := vals1 r
  cases rx
  have hn := line63
  rcases hq with hq | hq
  · obtain ⟨its, r', pl, hz⟩ := I.list hq
    have hlen := r'.length
    exact Calls.call_len_list pl.isList (by simp only [List.size_toArray] <;> omega) ⟨.int ys.length, H, I.tok _, ⟨s.toks + 1, by rw [List.size_toArray, hlen]⟩, q⟩
  · obtain ⟨its, r', pl, hz⟩ := I.tuple hq
    have hlen := r'.length
    exact len_tuple pl (by simp only [List.size_toArray] <;> omega) ⟨.int ys.length, H, I.tok _, ⟨s.toks + 1, by rw [List.size_toArray, hlen]⟩, q⟩
theorem call_len_str : CallR X (.builtin "len") (fun xs H Q => ∃ z, xs = [.str z] ∧ z.length ≤ sizeLine ∧ Q (.int z.length) H) := by
  intro pins s σ H xs us Q I r h
  obtain ⟨z, rfl, hz, q⟩ := h
  obtain ⟨u, rfl, t, rfl⟩ := vals1 r
  have hn := line63
  exact len_str (by omega) ⟨.int z.length, H, I.tok _, ⟨_, rfl⟩, q⟩
theorem CallR.or {f : Value} {r r' : List V → Hp → VK → Prop} (h : CallR X f r) (h' : CallR X f r') : CallR X f (fun xs H Q => r xs H Q ∨ r' xs H Q) := by
  intro pins s σ H xs us Q I rs q
  rcases q with q | q
  · exact h pins s σ H xs us Q I rs q
  · exact h' pins s σ H xs us Q I rs q
theorem call_list_of : CallR X (.type "list") (fun xs H Q => ∃ p ys, xs = [.ref p] ∧ (SqL X.K H p ys ∨ SqT X.K H p ys) ∧ ∀ l, H l = none → Q (.ref l) (upd H l (.lst ys))) := by
  intro pins s σ H xs us Q I r h
  obtain ⟨p, ys, rfl, hq, q⟩ := h
  obtain ⟨u, rfl, rx⟩ := vals1 r
  cases rx
  have fin : ∀ (its : List Value), Vals ys its → ys.length ≤ sizeLine → ∀ (h' : Heap) (c' : Nat), (∀ b o', s.heap.get? b = some o' → h'.get? b = some o') →
      h'.get? s.heap.objs.size = some { cls := .type "list", dict := none, data := .seq its.toArray c', slots := #[] } → EP X pins σ Q (.ref s.heap.objs.size) { s with heap := h' } := fun its r' hz h' c' kp e =>
    ⟨.ref s.heap.objs.size, _, I.laid (t' := s.toks) kp (Nat.le_refl _) (show ObjOk X.prog X.w _ h' _ (.lst ys) from ⟨hz, its, c', r', e⟩), rfl, q _ (I.hok.fresh (Nat.le_refl _))⟩
  rcases hq with hq | hq
  · obtain ⟨its, r', pl, hz⟩ := I.list hq
    have hlen := r'.length
    obtain ⟨o, ho, hc, n, hd⟩ := pl.isList
    exact call_list_seq p (.inl rfl) ho hc hd (fun h' c' kp e => fin its r' hz h' c' kp e) (by simp only [List.size_toArray] <;> omega)
  · obtain ⟨its, r', pl, hz⟩ := I.tuple hq
    have hlen := r'.length
    obtain ⟨o, ho, hc, n, hd⟩ := pl
    exact call_list_seq p (.inr rfl) ho hc hd (fun h' c' kp e => fin its r' hz h' c' kp e) (by simp only [List.size_toArray] <;> omega)
theorem call_tuple_of : CallR X (.type "tuple") (fun xs H Q => ∃ p ys, xs = [.ref p] ∧ ((SqL X.K H p ys ∧ ∀ l, H l = none → Q (.ref l) (upd H l (.tup ys))) ∨ (SqT X.K H p ys ∧ Q (.ref p) H))) := by
  intro pins s σ H xs us Q I r h
  obtain ⟨p, ys, rfl, h⟩ := h
  obtain ⟨u, rfl, rx⟩ := vals1 r
  cases rx
  rcases h with ⟨hq, q⟩ | ⟨hq, q⟩
  · obtain ⟨its, r', pl, hz⟩ := I.list hq
    have hlen := r'.length
    refine call_tuple_list pl.isList (fun h' kp => ?_) (by simp only [List.size_toArray] <;> omega)
    have I1 : Inv X pins σ H { s with heap := h' } := I.kept (t' := s.toks) kp
    have I2 : Inv X pins σ (upd H h'.objs.size (.tup ys)) { s with heap := h'.push { cls := .type "tuple", data := .seq its.toArray } } :=
      I1.laid (t' := s.toks) (fun b o e => Heap.get?_push_of_some _ e) (Nat.le_refl _) (show ObjOk X.prog X.w _ _ _ (.tup ys) from ⟨hz, its, r', IsTup.new _ _⟩)
    exact ⟨.ref h'.objs.size, _, I2, rfl, q _ (I1.hok.fresh (Nat.le_refl _))⟩
  · obtain ⟨its, r', pl, hz⟩ := I.tuple hq
    exact call_tuple_same pl ⟨.ref p, H, I, rfl, q⟩

/-! ### the call of a builtin's method: o.m(..) -/
/-- the value is of that builtin type -/
def tyV (K : PySem.W.Frag) (T : String) (x : V) (H : Hp) : Prop := match x with
  | .str _ => T = "str"
  | .int _ => T = "int"
  | .ref p => (T = "list" ∧ ∃ xs, SqL K H p xs) ∨ (T = "tuple" ∧ ∃ o, K.lookup p = some o ∧ o.cls = .type "tuple" ∧ o.dict = none) ∨
      (T = "dict" ∧ ((∃ kvs, H p = some (.dK kvs)) ∨ ∃ kvs, H p = some (.dT kvs))) ∨ (T = "set" ∧ ∃ S n, H p = some (.set S n))
  | _ => False
theorem tyV_is {pins : List (Addr × Obj)} {σ : St} {H : Hp} {s : Shared} {T : String} {x : V} {v : Value} (I : Inv X pins σ H s) (r : RelV x v) (ty : tyV X.K T x H) :
    s.TypeIs v T ∧ ∀ a, v = .ref a → ∃ ob, s.heap.get? a = some ob ∧ ob.dict = none := by
  cases x with
  | str z =>
    obtain ⟨t, rfl⟩ := r
    cases (show T = "str" from ty)
    exact ⟨typeIs_str s z t, fun _ e => nomatch e⟩
  | int i =>
    obtain ⟨t, rfl⟩ := r
    cases (show T = "int" from ty)
    exact ⟨typeIs_int s i t, fun _ e => nomatch e⟩
  | ref p =>
    cases r
    rcases ty with ⟨rfl, xs, hq⟩ | ⟨rfl, o, hk, hc, hd⟩ | ⟨rfl, hk⟩ | ⟨rfl, S, n, hk⟩
    · obtain ⟨its, _, pl, _⟩ := I.list hq
      refine ⟨pl.isList.typeIs, fun a e => ?_⟩
      cases e
      obtain ⟨o, n, e, c, hd, _⟩ := pl
      exact ⟨o, e, hd⟩
    · refine ⟨⟨o, I.kIn p o hk, hc⟩, fun a e => ?_⟩
      cases e
      exact ⟨o, I.kIn _ o hk, hd⟩
    · have z : ∃ o, s.heap.get? p = some o ∧ o.ExactDict := by
        rcases hk with ⟨kvs, hk⟩ | ⟨kvs, hk⟩
        · obtain ⟨_, _, _, _, o, _, _, e, ex, _⟩ := I.hok p _ hk
          exact ⟨o, e, ex⟩
        · obtain ⟨_, _, _, _, o, _, _, e, ex, _⟩ := I.hok p _ hk
          exact ⟨o, e, ex⟩
      obtain ⟨o, e, ex⟩ := z
      refine ⟨⟨o, e, ex.1⟩, fun a e2 => ?_⟩
      cases e2
      exact ⟨o, e, ex.2.1⟩
    · obtain ⟨o, _, _, _, e, ex, _⟩ := I.hok p _ hk
      refine ⟨⟨o, e, ex.1⟩, fun a e2 => ?_⟩
      cases e2
      exact ⟨o, e, ex.2.1⟩
  | _ => exact False.elim ty
def tBM0 (K : PySem.W.Frag) (T : String) (r : V → List V → Hp → VK → Prop) (to : TE) : TE := fun σ H Q => to σ H fun x H1 => tyV K T x H1 ∧ r x [] H1 Q
def tBM (K : PySem.W.Frag) (T : String) (r : V → List V → Hp → VK → Prop) (to : TE) (t : TA) : TE := fun σ H Q => to σ H fun x H1 => tyV K T x H1 ∧ t σ H1 fun xs H2 => r x xs H2 Q
variable {o e : Expr} {es : List Expr} {to : TE} {t : TA} {name : Str} {apos cpos : Pos} {T id : String} {r : V → List V → Hp → VK → Prop}
theorem pe_bm0 (pa : PlainAttrs T) (slot : Slot T name id) (hty : typeOf (.builtin id) = pure (.type "method_descriptor")) (hm : MtR X id r) (ho : PE X o to)
    (hbase : attributeBase o name X.env (eval o X.env) = eval o X.env := by rfl) (hline : (apos.endLine == cpos.line) = true := by rfl) : PE X (.Call (.Attribute o name apos) [] [] cpos) (tBM0 X.K T r to) := by
  intro pins s σ H Q I h
  refine wpAny_Call_method0_late hbase hline (thn (ho pins s σ H _ I h) fun v s1 ⟨x, H1, I1, r1, ty, q1⟩ => ?_)
  obtain ⟨h1, h2⟩ := tyV_is I1 r1 ty
  exact ⟨T, id, pa, slot, hty, h1, h2, Calls.callWith_builtin rfl (PySem.evalArgs_none (hm pins s1 σ H1 x [] v [] Q I1 r1 .nil q1))⟩
theorem pe_bm (pa : PlainAttrs T) (slot : Slot T name id) (hty : typeOf (.builtin id) = pure (.type "method_descriptor")) (hm : MtR X id r) (ho : PE X o to) (ha : PA X (e :: es) t)
    (hbase : attributeBase o name X.env (eval o X.env) = eval o X.env := by rfl)
    (hfew : ((backTo cpos (starEach (e :: es) X.env)).all (fun x => !x.1) && (backToKw cpos (keywordEach [] X.env)).all (fun x => x.1.isSome)
      && decide ((e :: es).length + ([] : List Keyword).length + (if ([] : List Keyword).isEmpty then 0 else 1) < 30)) = true := by rfl)
    (hline : (apos.endLine == cpos.line) = true := by rfl) (hs : starEach (e :: es) X.env = (false, eval e X.env) :: starEach es X.env := by rfl) (hplain : (backTo cpos (starEach es X.env)).any (·.1) = false := by rfl) :
    PE X (.Call (.Attribute o name apos) (e :: es) [] cpos) (tBM X.K T r to t) := by
  intro pins s σ H Q I h
  refine wpAny_Call_method_late hbase hfew hline rfl (thn (ho pins s σ H _ I h) fun v s1 ⟨x, H1, I1, r1, ty, q1⟩ => ?_)
  obtain ⟨h1, h2⟩ := tyV_is I1 r1 ty
  refine ⟨T, id, pa, slot, hty, h1, h2, ?_⟩
  have hA := ha cpos pins s1 σ H1 _ I1 q1
  rw [hs] at hA ⊢
  refine Calls.callWith_builtin (by show (false || (backTo cpos (starEach es X.env)).any (·.1)) = false; rw [hplain] <;> rfl) (Calls.evalArgs_plain ?_)
  exact thn hA fun us s2 ⟨vs, H2, I2, r2, q2⟩ => hm pins s2 σ H2 x vs v us Q I2 r1 r2 q2
/- xs.append(e), list.index on a module's tuple .. are MtR facts of 06m -/
end
end L2

namespace L2
open PySem PySem.Spec PyProof.Rows

def MtM (X : Cx) (id : String) (r : V → List V → Hp → VK → Prop) : Prop :=
  ∀ (pins : List (Addr × Obj)) (s : Shared) (σ : St) (H : Hp) (x : V) (xs : List V) (v : Value) (us : List Value) (Q : VK), Inv X pins σ H s → RelV x v → Vals xs us → r x xs H Q →
    wpAny (model X.prog X.w) X.A (call (.builtin id) (v :: us)) (EP X pins σ Q) X.xe s

/-! ### lists of values -/
theorem Vals.one : ∀ {x : V} {us : List Value}, Vals [x] us → ∃ u, us = [u] ∧ RelV x u
  | _, _, .cons r .nil => ⟨_, rfl, r⟩
theorem Vals.two : ∀ {x y : V} {us : List Value}, Vals [x, y] us → ∃ u v, us = [u, v] ∧ RelV x u ∧ RelV y v
  | _, _, _, .cons r (.cons q .nil) => ⟨_, _, rfl, r, q⟩
theorem Vals.zero : ∀ {us : List Value}, Vals [] us → us = []
  | _, .nil => rfl
theorem Vals.dropLast {xs : List V} {us : List Value} (h : Vals xs us) : Vals xs.dropLast us.dropLast := by
  induction h with
  | nil => exact .nil
  | cons r t ih =>
    cases t with
    | nil => exact .nil
    | cons q t' => exact .cons r ih
theorem Vals.eraseIdx : ∀ {xs : List V} {us : List Value} (i : Nat), Vals xs us → Vals (xs.eraseIdx i) (us.eraseIdx i)
  | _, _, _, .nil => .nil
  | _, _, 0, .cons _ t => t
  | _, _, i + 1, .cons r t => .cons r (Vals.eraseIdx i t)
theorem Vals.reverse {xs : List V} {us : List Value} (h : Vals xs us) : Vals xs.reverse us.reverse := by
  induction h with
  | nil => exact .nil
  | cons r t ih => rw [List.reverse_cons, List.reverse_cons]; exact Vals.append ih (.cons r .nil)
theorem Vals.rep {xs : List V} {us : List Value} (h : Vals xs us) : ∀ k : Nat, Vals (List.replicate k xs).flatten (List.replicate k us).flatten
  | 0 => .nil
  | k + 1 => by
    rw [List.replicate_succ, List.replicate_succ, List.flatten_cons, List.flatten_cons]
    exact Vals.append h (Vals.rep h k)
theorem erase_last {α : Type} (l : List α) : l.eraseIdx (l.length - 1) = l.dropLast := by
  induction l with
  | nil => rfl
  | cons a r ih =>
    cases r with
    | nil => rfl
    | cons b r =>
      have e : (a :: b :: r).length - 1 = ((b :: r).length - 1) + 1 := by
        have h1 : (a :: b :: r).length = r.length + 2 := rfl
        have h2 : (b :: r).length = r.length + 1 := rfl
        omega
      rw [e, List.eraseIdx_cons_succ, ih]
      all_goals rfl
theorem len_erase {α : Type} : ∀ (l : List α) (i : Nat), (l.eraseIdx i).length ≤ l.length
  | [], _ => Nat.le_refl _
  | _ :: _, 0 => Nat.le_succ _
  | _ :: r, i + 1 => Nat.succ_le_succ (len_erase r i)
theorem foldl_rep (its : List Value) : ∀ (k : Nat) (acc : List Value),
    List.foldl (fun x1 x2 => x1 ++ x2) acc.toArray (List.replicate k its.toArray) = (acc ++ (List.replicate k its).flatten).toArray
  | 0, acc => by simp
  | k + 1, acc => by
    have e : acc.toArray ++ its.toArray = (acc ++ its).toArray := by simp
    have e2 : (acc ++ its) ++ (List.replicate k its).flatten = acc ++ (List.replicate (k + 1) its).flatten := by
      rw [List.replicate_succ, List.flatten_cons, List.append_assoc]
    rw [← e2, ← foldl_rep its k (acc ++ its), ← e, List.replicate_succ, List.foldl_cons]

section
variable {X : Cx} {pins : List (Addr × Obj)} {σ : St} {H : Hp} {s : Shared} {l b : Addr} {xs ys zs : List V}

/-! ### the two steps: a tracked list is rewritten, a new list is laid -/
theorem Inv.lset {its its' : List Value} {n : Nat} {f : Array Value → Array Value} {t' : Nat} (I : Inv X pins σ H s) (hH : H l = some (.lst xs))
    (e : s.heap.get? l = some { cls := .type "list", data := .seq its.toArray n }) (hf : f its.toArray = its'.toArray) (hv : Vals ys its') (hz : ys.length ≤ sizeLine) :
    Inv X pins σ (upd H l (.lst ys)) { s with heap := s.heap.update l (Obj.mapSeq f), toks := t' } := by
  have q := PySem.IsL.update e f
  rw [hf] at q
  refine I.write (x := l) (e := l) (by rw [hH]; exact trivial) (.inl rfl) (fun b' u hb hu => (Heap.get?_update_other s.heap (Obj.mapSeq f) (Ne.symm hb)).trans hu) ⟨_, q⟩ ?_
  exact ⟨hz, its', _, hv, q⟩
theorem Inv.lnew {its : List Value} {t' : Nat} (I : Inv X pins σ H s) (hv : Vals ys its) (hz : ys.length ≤ sizeLine) :
    Inv X pins σ (upd H s.heap.objs.size (.lst ys)) { s with heap := s.heap.push { cls := .type "list", data := .seq its.toArray }, toks := t' } :=
  I.laid (fun _ _ q => Heap.get?_push_of_some _ q) (Nat.le_refl _) ⟨hz, its, 0, hv, Heap.get?_push_size _ rfl⟩
theorem Inv.fresh (I : Inv X pins σ H s) : H s.heap.objs.size = none := I.hok.fresh (Nat.le_refl _)
theorem Inv.lstM (I : Inv X pins σ H s) (hH : H l = some (.lst xs)) : xs.length ≤ sizeLine ∧ ∃ (its : List Value) (n : Nat), Vals xs its ∧ xs.length = its.length ∧ s.heap.get? l = some { cls := .type "list", data := .seq its.toArray n } := by
  obtain ⟨z, its, n, r, e⟩ := I.hok l _ hH
  exact ⟨z, its, n, r, r.length, e⟩

theorem notLongL {n : Nat} (h : n ≤ sizeLine) : Builtin.List.listTooLong n = false := by
  unfold Builtin.List.listTooLong
  exact decide_eq_false (by omega)
end

section
variable {X : Cx}

/-! ### methods -/
def rAppend : V → List V → Hp → VK → Prop := fun x vs H Q => ∃ l xs y, x = .ref l ∧ vs = [y] ∧ H l = some (.lst xs) ∧ xs.length < sizeLine ∧ Q .non (upd H l (.lst (xs ++ [y])))
theorem mt_append : MtM X "list.append" rAppend := by
  intro pins s σ H x vs v us Q I rx rv h
  obtain ⟨l, xs, y, rfl, rfl, hH, hz, q⟩ := h
  cases rx
  obtain ⟨u, rfl, ru⟩ := rv.one
  obtain ⟨z, its, n, r, hl, e⟩ := I.lstM hH
  refine call_meets F.slot_list_append ⟨_, e, rfl⟩ F.entry_list_append (F.args_list_append_2 _ _) (PySem.list_append l its.toArray n u (by rw [List.size_toArray]; omega)) ⟨e, ?_⟩
  refine ⟨.non, _, I.lset (its' := its ++ [u]) hH e (by simp) (r.append (.cons ru .nil)) ?_, rfl, q⟩
  rw [List.length_append, List.length_singleton]
  omega

def rExtend : V → List V → Hp → VK → Prop := fun x vs H Q => ∃ l b xs zs, x = .ref l ∧ vs = [.ref b] ∧ H l = some (.lst xs) ∧ H b = some (.lst zs) ∧ xs.length + zs.length ≤ sizeLine ∧ Q .non (upd H l (.lst (xs ++ zs)))
theorem mt_extend : MtM X "list.extend" rExtend := by
  intro pins s σ H x vs v us Q I rx rv h
  obtain ⟨l, b, xs, zs, rfl, rfl, hH, hB, hz, q⟩ := h
  cases rx
  obtain ⟨u, rfl, ru⟩ := rv.one
  cases ru
  obtain ⟨z, its, n, r, hl, e⟩ := I.lstM hH
  obtain ⟨z2, its2, n2, r2, hl2, e2⟩ := I.lstM hB
  have hsz : its.toArray.size + its2.toArray.size ≤ sizeLine := by rw [List.size_toArray, List.size_toArray]; omega
  have hlong : ¬ (!its.toArray.isEmpty && Builtin.List.listTooLong (its.toArray.size + its2.toArray.size)) = true := by
    rw [notLongL hsz, Bool.and_false]
    exact Bool.false_ne_true
  refine call_meets F.slot_list_extend ⟨_, e, rfl⟩ F.entry_list_extend (F.args_list_extend_2 _ _)
    (AutoSeq1.list_extend_list_list_0 l its.toArray n b its2.toArray n2 hlong (by rw [List.size_toArray]; omega) (by omega)) ⟨e, e2, ?_⟩
  refine ⟨.non, _, I.lset (its' := its ++ its2) hH e (by simp) (r.append r2) ?_, rfl, q⟩
  rw [List.length_append]
  omega

def rPop : V → List V → Hp → VK → Prop := fun x vs H Q => ∃ l xs y, x = .ref l ∧ vs = [] ∧ H l = some (.lst xs) ∧ xs[xs.length - 1]? = some y ∧ Q y (upd H l (.lst xs.dropLast))
theorem mt_pop : MtM X "list.pop" rPop := by
  intro pins s σ H x vs v us Q I rx rv h
  obtain ⟨l, xs, y, rfl, rfl, hH, hy, q⟩ := h
  cases rx
  have hus := rv.zero
  subst hus
  obtain ⟨z, its, n, r, hl, e⟩ := I.lstM hH
  obtain ⟨u, hu, ru⟩ := r.get hy
  have hy' : its.toArray[its.toArray.size - 1]? = some u := by
    show its.toArray[its.length - 1]? = some u
    rw [← Array.getElem?_toList, ← hl]
    exact hu
  refine call_meets F.slot_list_pop ⟨_, e, rfl⟩ F.entry_list_pop (F.args_list_pop_1 _) (MeetsSeq.list_pop_last l its.toArray n u hy' (by rw [List.size_toArray]; omega)) ⟨e, ?_⟩
  refine ⟨y, _, I.lset (its' := its.dropLast) hH e ?_ r.dropLast ?_, ru, q⟩
  · show its.toArray.eraseIdxIfInBounds (its.toArray.size - 1) = its.dropLast.toArray
    rw [List.size_toArray, List.eraseIdxIfInBounds_toArray, erase_last]
  · rw [List.length_dropLast]
    omega

def rPopAt : V → List V → Hp → VK → Prop := fun x vs H Q => ∃ l xs i k y, x = .ref l ∧ vs = [.int i] ∧ H l = some (.lst xs) ∧ -(2 ^ 63) ≤ i ∧ i < 2 ^ 63 ∧ seqIndex? i xs.length = some k ∧ xs[k]? = some y ∧ Q y (upd H l (.lst (xs.eraseIdx k)))
theorem mt_popAt : MtM X "list.pop" rPopAt := by
  intro pins s σ H x vs v us Q I rx rv h
  obtain ⟨l, xs, i, k, y, rfl, rfl, hH, h1, h2, hk, hy, q⟩ := h
  cases rx
  obtain ⟨u, rfl, ru⟩ := rv.one
  obtain ⟨t, rfl⟩ := ru
  obtain ⟨z, its, n, r, hl, e⟩ := I.lstM hH
  obtain ⟨w, hw, rw'⟩ := r.get hy
  refine call_meets F.slot_list_pop ⟨_, e, rfl⟩ F.entry_list_pop (F.args_list_pop_2 _ _)
    (MeetsSeq.list_pop_at l its.toArray n i t k w (fitsIndex_both h1 h2) (by rw [List.size_toArray, ← hl]; exact hk) (by rw [← Array.getElem?_toList]; exact hw) (by rw [List.size_toArray]; omega)) ⟨e, ?_⟩
  refine ⟨y, _, I.lset (its' := its.eraseIdx k) hH e ?_ (r.eraseIdx k) ?_, rw', q⟩
  · show its.toArray.eraseIdxIfInBounds k = (its.eraseIdx k).toArray
    rw [List.eraseIdxIfInBounds_toArray]
  · have := len_erase xs k
    omega

def rReverse : V → List V → Hp → VK → Prop := fun x vs H Q => ∃ l xs, x = .ref l ∧ vs = [] ∧ H l = some (.lst xs) ∧ Q .non (upd H l (.lst xs.reverse))
theorem mt_reverse : MtM X "list.reverse" rReverse := by
  intro pins s σ H x vs v us Q I rx rv h
  obtain ⟨l, xs, rfl, rfl, hH, q⟩ := h
  cases rx
  have hus := rv.zero
  subst hus
  obtain ⟨z, its, n, r, hl, e⟩ := I.lstM hH
  refine call_meets F.slot_list_reverse ⟨_, e, rfl⟩ F.entry_list_reverse (F.args_list_reverse_1 _) (AutoSeq1.list_reverse_list_0 l its.toArray n (by rw [List.size_toArray]; omega)) ⟨e, ?_⟩
  refine ⟨.non, _, I.lset (its' := its.reverse) hH e (by simp) r.reverse ?_, rfl, q⟩
  rw [List.length_reverse]
  omega

def rClear : V → List V → Hp → VK → Prop := fun x vs H Q => ∃ l xs, x = .ref l ∧ vs = [] ∧ H l = some (.lst xs) ∧ Q .non (upd H l (.lst []))
theorem mt_clear : MtM X "list.clear" rClear := by
  intro pins s σ H x vs v us Q I rx rv h
  obtain ⟨l, xs, rfl, rfl, hH, q⟩ := h
  cases rx
  have hus := rv.zero
  subst hus
  obtain ⟨z, its, n, r, hl, e⟩ := I.lstM hH
  refine call_meets F.slot_list_clear ⟨_, e, rfl⟩ F.entry_list_clear (F.args_list_clear_1 _) (AutoSeq1.list_clear_list_0 l its.toArray n (by rw [List.size_toArray]; omega)) ⟨e, ?_⟩
  exact ⟨.non, _, I.lset (its' := []) (ys := []) hH e rfl .nil (Nat.zero_le _), rfl, q⟩

/-! ### list + list, list += list, list * int -/
def rCat : R2 := fun x y H Q => ∃ l b xs zs, x = .ref l ∧ y = .ref b ∧ H l = some (.lst xs) ∧ H b = some (.lst zs) ∧ xs.length + zs.length ≤ sizeLine ∧ ∀ p, H p = none → Q (.ref p) (upd H p (.lst (xs ++ zs)))
theorem op_cat : OpR X (binaryOp .Add) rCat := by
  intro pins s σ H x y v u Q I rx ry h
  obtain ⟨l, b, xs, zs, rfl, rfl, hH, hB, hz, q⟩ := h
  cases rx
  cases ry
  obtain ⟨z, its, n, r, hl, e⟩ := I.lstM hH
  obtain ⟨z2, its2, n2, r2, hl2, e2⟩ := I.lstM hB
  refine PySem.P.add_list e e2 ?_ (by rw [List.size_toArray, List.size_toArray]; omega)
  have ea : its.toArray ++ its2.toArray = (its ++ its2).toArray := by simp
  rw [ea]
  exact ⟨.ref _, _, I.lnew (t' := s.toks) (r.append r2) (by rw [List.length_append]; omega), rfl, q _ I.fresh⟩
/-- a list times an int (a negative one is nothing) -/
def rRep : R2 := fun x y H Q => ∃ l k xs, x = .ref l ∧ y = .int k ∧ H l = some (.lst xs) ∧ -(2 ^ 63) ≤ k ∧ k < 2 ^ 63 ∧ xs.length * k.toNat ≤ sizeLine ∧
  ∀ p, H p = none → Q (.ref p) (upd H p (.lst (List.replicate k.toNat xs).flatten))
theorem len_rep {α : Type} (xs : List α) (k : Nat) : (List.replicate k xs).flatten.length = k * xs.length := by
  induction k with
  | zero => simp
  | succ k ih => rw [List.replicate_succ, List.flatten_cons, List.length_append, ih, Nat.succ_mul, Nat.add_comm]
theorem op_rep : OpR X (binaryOp .Mult) rRep := by
  intro pins s σ H x y v u Q I rx ry h
  obtain ⟨l, k, xs, rfl, rfl, hH, h1, h2, hz, q⟩ := h
  cases rx
  obtain ⟨t, rfl⟩ := ry
  obtain ⟨z, its, n, r, hl, e⟩ := I.lstM hH
  have hlen : its.toArray.size * k.toNat ≤ sizeLine := by rw [List.size_toArray, ← hl]; exact hz
  have hcap : ¬ its.toArray.size * k.toNat > (2 ^ 63 - 1) / 8 := by
    have : (sizeLine : Nat) ≤ (2 ^ 63 - 1) / 8 := by decide
    omega
  have hfit : ¬ (!Builtin.List.listFitsIndex k) = true := by
    rw [fitsIndex_both h1 h2]
    exact Bool.false_ne_true
  have hlong : ¬ Builtin.List.listTooLong (its.toArray.size * k.toNat) = true := by
    rw [notLongL hlen]
    exact Bool.false_ne_true
  have hnew : List.foldl (fun x1 x2 => x1 ++ x2) #[] (List.replicate (if its.toArray.isEmpty = true then 0 else k.toNat) its.toArray) = (List.replicate k.toNat its).flatten.toArray := by
    have f0 : ∀ m : Nat, List.foldl (fun x1 x2 => x1 ++ x2) #[] (List.replicate m its.toArray) = (List.replicate m its).flatten.toArray := fun m => by
      have := foldl_rep its m []
      rw [List.nil_append] at this
      exact this
    rw [f0]
    cases its with
    | nil => simp
    | cons a r' => rw [if_neg (by simp)]
  refine wpAny_binaryOp_repeat_ref (T := "list") (U := "int") (by decide) ⟨_, e, rfl⟩ (fun s' => typeIs_int s' k t) noFill_list_mul F.fills_int_mul F.slot_int_rmul repeat_list F.slot_int_index.lookup
    (call_meets F.slot_int_rmul (typeIs_int s k t) F.entry_int_rmul (F.args_int_rmul_2 _ _) (int___rmul___int_list k t l its.toArray n)
      ⟨e, rfl, ⟨_, e, rfl⟩, call_meets F.slot_list_mul ⟨_, e, rfl⟩ F.entry_list_mul (F.args_list_mul_2 _ _) (AutoListH.list___mul___list_int_3 l its.toArray n k t hfit hcap hlong) ⟨e, ?_⟩⟩)
  rw [hnew]
  exact ⟨.ref _, _, I.lnew (t' := s.toks) (r.rep k.toNat) (by rw [len_rep, Nat.mul_comm]; exact hz), rfl, q _ I.fresh⟩

/-! ### del xs[i] -/
theorem del_list {pins : List (Addr × Obj)} {s : Shared} {σ : St} {H : Hp} {l : Addr} {xs : List V} {i : Int} {t : Tok} {k : Nat} {Q : Unit → Shared → Prop} (I : Inv X pins σ H s) (hH : H l = some (.lst xs))
    (h1 : -(2 ^ 63) ≤ i) (h2 : i < 2 ^ 63) (hk : seqIndex? i xs.length = some k) (h : ∀ s', Inv X pins σ (upd H l (.lst (xs.eraseIdx k))) s' → Q () s') :
    wpAny (model X.prog X.w) X.A (delItem (.ref l) (.int i t)) Q X.xe s := by
  obtain ⟨z, its, n, r, hl, e⟩ := I.lstM hH
  refine PySem.P.delItem_list (k := k) e (fitsIndex_both h1 h2) (by rw [List.size_toArray, ← hl]; exact hk) (h _ ?_) (by rw [List.size_toArray]; omega)
  refine I.lset (its' := its.eraseIdx k) (t' := s.toks) hH e ?_ (r.eraseIdx k) ?_
  · show its.toArray.eraseIdxIfInBounds k = (its.eraseIdx k).toArray
    rw [List.eraseIdxIfInBounds_toArray]
  · have := len_erase xs k
    omega
end

/-! ### xs[a:b] = ys -/
section
variable {prog : Program} {w : World} {A : Around} {E : Value → Shared → Prop} {s : Shared}
theorem splice_eq (its its2 : List Value) (a c : Nat) : its.toArray.extract 0 a ++ its2.toArray ++ its.toArray.extract c its.toArray.size = (its.take a ++ its2 ++ its.drop c).toArray := by
  apply Array.toList_inj.mp
  first
    | (simp
       exact List.take_of_length_le (by simp))
    | simp [List.take_of_length_le]
    | simp
theorem bounds_run {a c n : Nat} (hac : a ≤ c) (hc : c ≤ n) : sliceBounds (some (a : Int)) (some (c : Int)) none n = ((a : Int), (c : Int), 1) := by
  simp only [sliceBounds, Option.getD_none]
  have h1 : ¬ ((a : Int) < 0) := by omega
  have h2 : ¬ ((c : Int) < 0) := by omega
  simp only [h1, h2, if_false, show (1 : Int) > 0 by decide, if_true]
  congr 1
  · omega
  · congr 1; omega
set_option maxRecDepth 100000 in
/-- list.__setitem__ with a slice of step one and another list -/
theorem setItem_slice {l b sl : Addr} {items new : Array Value} {n n2 : Nat} {vl vu : Value} {a c : Nat} {Q : Unit → Shared → Prop}
    (e : s.heap.get? l = some { cls := .type "list", data := .seq items n }) (e2 : s.heap.get? b = some { cls := .type "list", data := .seq new n2 }) (hne : l ≠ b)
    (hs : s.heap.IsSliceOf sl vl vu .none) (pl : IsPart vl (some (a : Int))) (pu : IsPart vu (some (c : Int))) (hac : a ≤ c) (hc : c ≤ items.size)
    (hsz : items.size + new.size ≤ sizeLine) (h : Q () { s with heap := s.heap.update l (Obj.mapSeq fun xs => xs.extract 0 a ++ new ++ xs.extract c xs.size) }) :
    wpAny (model prog w) A (setItem (.ref l) (.ref sl) (.ref b)) Q E s := by
  have hl : s.heap.IsList l items := PySem.IsL.isList e
  have hb : s.heap.IsList b new := PySem.IsL.isList e2
  obtain ⟨os, hos, hcs, hds⟩ := id hs
  have hTs : s.TypeIs (.ref sl) "slice" := ⟨os, hos, hcs⟩
  have hstep : ¬ ((rawPart none == rawInt 0) = true) := Bool.false_ne_true
  have hsame : Builtin.List.listSameRef (.ref l) (.ref b) = false := by
    unfold Builtin.List.listSameRef
    exact beq_eq_false_iff_ne.mpr hne
  have hmax : (max (a : Int) (c : Int)).toNat = c := by omega
  have hz' : ((fun xs : Array Value => xs.extract 0 a ++ new ++ xs.extract c xs.size) items).size ≤ sizeLine + 1 := by
    simp only [Array.size_append, Array.size_extract]
    omega
  unfold setItem
  try with_reducible refine wpAny_holding ?_
  first | refine wpAny_bind (wpAny_pure ?_) | skip
  refine wpAny_bind (wpAny_sequenceKey hl.typeIs (by decide) ?_)
  refine wpAny_bind (wpAny_callSpecial?_slot (name := Str.ofString "__setitem__") hl.typeIs slot_list_setitem
    (wpAny_call_entry slot_list_setitem hl.typeIs entry_list_setitem ?_ (args_list_setitem _ _ _)))
  show wpAny _ _ (Builtin.List.listSubscript? (.ref sl) >>= _) _ _ s
  refine wpAny_bind ?_
  unfold Builtin.List.listSubscript?
  refine wpAny_bind (wpAny_specialOf hTs slice_no_index ?_)
  simp only [Option.isNone_none, if_true]
  refine wpAny_pure ?_
  show wpAny _ _ (typeOf (.ref sl) >>= _) _ _ s
  refine wpAny_bind (wpAny_typeOf hTs ?_)
  first
    | rw [if_neg (by decide)]
    | refine PySem.W.KFB.if_not (by decide) ?_
  rw [listSliceParts_eq]
  refine wpAny_bind (wpAny_bind (wpAny_field hos hds (x := .none) rfl (wpAny_bind (wpAny_listPart .none ?_))))
  rw [if_neg hstep]
  refine wpAny_bind (wpAny_field hos hds (x := vl) rfl (wpAny_bind (wpAny_listPart pl ?_)))
  refine wpAny_bind (wpAny_field hos hds (x := vu) rfl (wpAny_bind (wpAny_listPart pu (wpAny_pure ?_))))
  first
    | simp only [hsame, Bool.false_eq_true, if_false]
    | refine PySem.W.KFB.if_not hsame ?_
    | (dsimp only
       rw [if_neg (by rw [hsame]; exact Bool.false_ne_true)])
  refine wpAny_bind (m := Builtin.List.listAllItems (.ref b) "must assign iterable to extended slice") ?_
  unfold Builtin.List.listAllItems
  refine wpAny_bind (wpAny_typeOf hb.typeIs ?_)
  first
    | refine PySem.W.KFB.if_so (by decide) ?_
    | rw [if_pos (by decide)]
    | simp only [beq_self_eq_true, Bool.true_or, if_true]
  unfold Builtin.List.listItems
  refine wpAny_bind (wpAny_seqItems e2 rfl (wpAny_pure ?_))
  refine wpAny_bind (wpAny_bind (wpAny_seqItems e rfl (wpAny_pure ?_)))
  refine wpAny_bind (wpAny_of_eq ((sliceIndices_raw (some (a : Int)) (some (c : Int)) none items.size (by simp)).trans (congrArg (pure : Int × Int × Int → Sem (Int × Int × Int)) (bounds_run hac hc))) ?_)
  show wpAny _ _ (if ((1 : Int) == 1) = true then _ else _) _ _ s
  rw [if_pos (by decide)]
  refine wpAny_bind (wpAny_rule ?_)
  first
    | simp only [notLongL hsz, Bool.false_eq_true, if_false]
    | refine PySem.W.KFB.if_not (notLongL hsz) ?_
  first | refine wpAny_bind (wpAny_pure ?_) | skip
  show wpAny _ _ (updateSeq l (fun xs => xs.extract 0 ((a : Int)).toNat ++ new ++ xs.extract (max (a : Int) (c : Int)).toNat xs.size) >>= _) _ _ s
  rw [hmax, Int.toNat_natCast]
  refine wpAny_bind (wpAny_updateSeq (hz := Nat.le_trans (Nat.le_add_right _ _) hsz) (_hz' := hz') e rfl ?_)
  refine wpAny_bind (wpAny_letGo ?_)
  first
    | exact wpAny_bind (wpAny_pure (wpAny_pure ⟨.none, rfl, wpAny_pure h⟩))
    | exact wpAny_pure ⟨.none, rfl, wpAny_pure h⟩
end

section
variable {X : Cx}
/-- xs[a:c] = ys of another list, at the value level: sl is the slice object that was just made -/
theorem set_slice {pins : List (Addr × Obj)} {s : Shared} {σ : St} {H : Hp} {l b sl : Addr} {xs ys : List V} {a c : Int} {vl vu : Value} {Q : Unit → Shared → Prop} (I : Inv X pins σ H s)
    (hH : H l = some (.lst xs)) (hB : H b = some (.lst ys)) (hne : l ≠ b) (hs : s.heap.IsSliceOf sl vl vu .none) (ra : RelV (.int a) vl) (rc : RelV (.int c) vu) (h0 : 0 ≤ a) (hac : a ≤ c) (hc : c ≤ xs.length)
    (hz : xs.length + ys.length ≤ sizeLine) (h : ∀ s', Inv X pins σ (upd H l (.lst (xs.take a.toNat ++ ys ++ xs.drop c.toNat))) s' → Q () s') :
    wpAny (model X.prog X.w) X.A (setItem (.ref l) (.ref sl) (.ref b)) Q X.xe s := by
  obtain ⟨ta, rfl⟩ := ra
  obtain ⟨tc, rfl⟩ := rc
  obtain ⟨z, its, n, r, hl, e⟩ := I.lstM hH
  obtain ⟨z2, its2, n2, r2, hl2, e2⟩ := I.lstM hB
  obtain ⟨a', rfl⟩ := Int.eq_ofNat_of_zero_le h0
  obtain ⟨c', rfl⟩ := Int.eq_ofNat_of_zero_le (Int.le_trans h0 hac)
  simp only [Int.toNat_natCast] at h
  refine setItem_slice (a := a') (c := c') e e2 hne hs (.int _ _) (.int _ _) (by omega) (by rw [List.size_toArray]; omega) (by rw [List.size_toArray, List.size_toArray]; omega) (h _ ?_)
  refine I.lset (its' := its.take a' ++ its2 ++ its.drop c') (t' := s.toks) hH e ?_ (Vals.append (Vals.append (r.take _) r2) (r.drop _)) ?_
  · exact splice_eq its its2 a' c'
  · rw [List.length_append, List.length_append, List.length_take, List.length_drop]
    omega
end
end L2

namespace L2
open PySem PySem.Spec PyProof.Rows

/-! ### lists of pairs as tables -/
section
variable {κ : Type} [DecidableEq κ]
def valV (kvs : List (κ × V)) (k : κ) : Option V := (kvs.find? fun kv => decide (kv.1 = k)).map (·.2)
/-- in its place, or at the end -/
def putK (kvs : List (κ × V)) (k : κ) (v : V) : List (κ × V) :=
  if (kvs.any fun kv => decide (kv.1 = k)) = true then kvs.map (fun kv => if kv.1 = k then (kv.1, v) else kv) else kvs ++ [(k, v)]
def dropK (kvs : List (κ × V)) (k : κ) : List (κ × V) := kvs.filter fun kv => decide (kv.1 ≠ k)

theorem valV_nil {k : κ} : valV ([] : List (κ × V)) k = none := rfl
theorem valV_pos {p : κ × V} {r : List (κ × V)} {k : κ} (e : p.1 = k) : valV (p :: r) k = some p.2 := by simp [valV, List.find?_cons, e]
theorem valV_neg {p : κ × V} {r : List (κ × V)} {k : κ} (e : ¬ p.1 = k) : valV (p :: r) k = valV r k := by simp [valV, List.find?_cons, e]
theorem valV_any (k : κ) : ∀ kvs : List (κ × V), (kvs.any fun kv => decide (kv.1 = k)) = (valV kvs k).isSome
  | [] => rfl
  | p :: r => by
    rw [List.any_cons]
    by_cases e : p.1 = k
    · simp only [valV_pos e, decide_eq_true e, Bool.true_or, Option.isSome_some]
    · rw [valV_neg e, decide_eq_false e, Bool.false_or]; exact valV_any k r
theorem valV_map (k j : κ) (y : V) : ∀ kvs : List (κ × V), valV (kvs.map fun kv => if kv.1 = k then (kv.1, y) else kv) j = (valV kvs j).map fun x => if j = k then y else x
  | [] => rfl
  | p :: r => by
    have ih := valV_map k j y r
    rw [List.map_cons]
    by_cases h : p.1 = k
    · rw [if_pos h]
      by_cases e : p.1 = j
      · rw [valV_pos (p := (p.1, y)) e, valV_pos e, Option.map_some, if_pos (e.symm.trans h)]
      · rw [valV_neg (p := (p.1, y)) e, valV_neg e, ih]
    · rw [if_neg h]
      by_cases e : p.1 = j
      · rw [valV_pos (p := p) e, valV_pos e, Option.map_some, if_neg (fun z => h (e.trans z))]
      · rw [valV_neg (p := p) e, valV_neg e, ih]
theorem valV_snoc (k j : κ) (y : V) : ∀ kvs : List (κ × V), valV kvs k = none → valV (kvs ++ [(k, y)]) j = if j = k then some y else valV kvs j
  | [], _ => by
    by_cases e : k = j
    · rw [if_pos e.symm]; exact valV_pos (p := (k, y)) e
    · rw [if_neg (fun z => e z.symm)]; exact valV_neg (p := (k, y)) e
  | p :: r, hn => by
    rw [List.cons_append]
    have hk : ¬ p.1 = k := fun z => by rw [valV_pos z] at hn; cases hn
    rw [valV_neg hk] at hn
    have ih := valV_snoc k j y r hn
    by_cases e : p.1 = j
    · rw [valV_pos e, valV_pos e, if_neg (fun z => hk (e.trans z))]
    · rw [valV_neg e, valV_neg e, ih]
theorem valV_put (kvs : List (κ × V)) (k j : κ) (y : V) : valV (putK kvs k y) j = if j = k then some y else valV kvs j := by
  unfold putK
  by_cases a : (kvs.any fun kv => decide (kv.1 = k)) = true
  · rw [if_pos a, valV_map]
    rw [valV_any] at a
    by_cases e : j = k
    · obtain ⟨x, hx⟩ := Option.isSome_iff_exists.mp a
      rw [if_pos e, e, hx, Option.map_some, if_pos rfl]
    · rw [if_neg e]
      cases valV kvs j with
      | none => rfl
      | some x => rw [Option.map_some, if_neg e]
  · rw [if_neg a]
    refine valV_snoc k j y kvs ?_
    rw [valV_any] at a
    cases q : valV kvs k with
    | none => rfl
    | some x => rw [q] at a; exact (a rfl).elim
theorem length_putK (kvs : List (κ × V)) (k : κ) (v : V) : (putK kvs k v).length ≤ kvs.length + 1 := by
  unfold putK
  split
  · rw [List.length_map]; omega
  · rw [List.length_append, List.length_cons, List.length_nil]; omega
theorem putK_new {kvs : List (κ × V)} {k : κ} (v : V) (h : valV kvs k = none) : putK kvs k v = kvs ++ [(k, v)] := by
  unfold putK
  rw [valV_any, h]
  exact if_neg (by decide)

theorem RelO.isSome_eq {o : Option V} {u : Option Value} (r : RelO o u) : o.isSome = u.isSome := by
  cases o with
  | none => cases u with
    | none => rfl
    | some _ => exact (show False from r).elim
  | some _ => cases u with
    | none => exact (show False from r).elim
    | some _ => rfl
theorem RelO.getD {o : Option V} {u : Option Value} {d : V} {d' : Value} (r : RelO o u) (rd : RelV d d') : RelV (o.getD d) (u.getD d') := by
  cases o with
  | none => cases u with
    | none => exact rd
    | some _ => exact (show False from r).elim
  | some _ => cases u with
    | none => exact (show False from r).elim
    | some _ => exact r

/-- raw tables of the same keys -/
theorem KV.val {kvs : List (κ × V)} {vs : List (κ × Value)} (r : KV kvs vs) (k : κ) : RelO (valV kvs k) (valueAt vs k) := by
  unfold KV at r
  induction r with
  | nil => exact True.intro
  | @cons p q ps qs h t ih =>
    obtain ⟨h1, h2⟩ := h
    by_cases e : p.1 = k
    · have e' : q.1 = k := h1.symm.trans e
      have b : valueAt (q :: qs) k = some q.2 := by simp [valueAt, List.find?_cons, e']
      rw [valV_pos e, b]; exact h2
    · have e' : ¬ q.1 = k := fun z => e (h1.trans z)
      have b : valueAt (q :: qs) k = valueAt qs k := by simp [valueAt, List.find?_cons, e']
      rw [valV_neg e, b]; exact ih
theorem KV.any {kvs : List (κ × V)} {vs : List (κ × Value)} (r : KV kvs vs) (k : κ) : (kvs.any fun kv => decide (kv.1 = k)) = vs.any fun kv => decide (kv.1 = k) := by
  unfold KV at r
  induction r with
  | nil => rfl
  | cons h t ih => rw [List.any_cons, List.any_cons, ih, h.1]
theorem KV.repl {kvs : List (κ × V)} {vs : List (κ × Value)} (r : KV kvs vs) (k : κ) {y : V} {u : Value} (ry : RelV y u) :
    KV (kvs.map fun kv => if kv.1 = k then (kv.1, y) else kv) (vs.map fun kv => if kv.1 = k then (kv.1, u) else kv) := by
  unfold KV at r ⊢
  induction r with
  | nil => exact .nil
  | @cons p q ps qs h t ih =>
    rw [List.map_cons, List.map_cons]
    refine .cons ?_ ih
    obtain ⟨h1, h2⟩ := h
    by_cases e : p.1 = k
    · rw [if_pos e, if_pos (h1.symm.trans e)]; exact ⟨h1, ry⟩
    · rw [if_neg e, if_neg (fun z => e (h1.trans z))]; exact ⟨h1, h2⟩
theorem KV.put {kvs : List (κ × V)} {vs : List (κ × Value)} (r : KV kvs vs) (k : κ) {y : V} {u : Value} (ry : RelV y u) : KV (putK kvs k y) (stored vs k u) := by
  unfold putK stored
  rw [r.any k]
  by_cases e : (vs.any fun kv => decide (kv.1 = k)) = true
  · rw [if_pos e, if_pos e]; exact r.repl k ry
  · rw [if_neg e, if_neg e]; exact Paired.snoc r ⟨rfl, ry⟩
theorem KV.drop {kvs : List (κ × V)} {vs : List (κ × Value)} (r : KV kvs vs) (k : κ) : KV (dropK kvs k) (without vs k) := by
  unfold KV at r ⊢
  unfold dropK without
  induction r with
  | nil => exact .nil
  | @cons p q ps qs h t ih =>
    obtain ⟨h1, h2⟩ := h
    rw [List.filter_cons, List.filter_cons]
    by_cases e : p.1 = k
    · have a : ¬ decide (p.1 ≠ k) = true := by simp [e]
      have b : ¬ decide (q.1 ≠ k) = true := by simp [h1.symm.trans e]
      rw [if_neg a, if_neg b]; exact ih
    · have e' : ¬ q.1 = k := fun z => e (h1.trans z)
      have a : decide (p.1 ≠ k) = true := by simp [e]
      have b : decide (q.1 ≠ k) = true := by simp [e']
      rw [if_pos a, if_pos b]; exact .cons ⟨h1, h2⟩ ih
theorem KV.keys {kvs : List (κ × V)} {vs : List (κ × Value)} (r : KV kvs vs) : kvs.map (·.1) = vs.map (·.1) := by
  unfold KV at r
  induction r with
  | nil => rfl
  | cons h t ih => rw [List.map_cons, List.map_cons, ih, h.1]
theorem KV.length {kvs : List (κ × V)} {vs : List (κ × Value)} (r : KV kvs vs) : kvs.length = vs.length := Paired.length r
theorem dropK_le (kvs : List (κ × V)) (k : κ) : (dropK kvs k).length ≤ kvs.length := List.length_filter_le _ _
end


/-! ### a tracked dict, its keys ints and texts or tuples of these -/
theorem kV_is {P : Program} {w : World} {k : Key} {u : Value} (r : RelV (kV k) u) : (mixKind P w).is k u = true := by
  cases k with
  | inl i => obtain ⟨t, e⟩ := (show ∃ t, u = Value.int i t from r); subst e; exact mixKind_int P w i t
  | inr x => obtain ⟨t, e⟩ := (show ∃ t, u = Value.str x t from r); subst e; exact mixKind_str P w x t
theorem kV_inj {a b : Key} (e : kV a = kV b) : a = b := by
  cases a with
  | inl i => cases b with
    | inl j => have e' : V.int i = V.int j := e; injection e' with e'; rw [e']
    | inr y => exact nomatch (show V.int i = V.str y from e)
  | inr x => cases b with
    | inl j => exact nomatch (show V.str x = V.int j from e)
    | inr y => have e' : V.str x = V.str y := e; injection e' with e'; rw [e']
theorem kVs_inj : ∀ {a b : List Key}, a.map kV = b.map kV → a = b
  | [], [], _ => rfl
  | [], _ :: _, e => by simp at e
  | _ :: _, [], e => by simp at e
  | x :: xs, y :: ys, e => by
    rw [List.map_cons, List.map_cons] at e
    injection e with e1 e2
    rw [kV_inj e1, kVs_inj e2]
theorem items_are {P : Program} {w : World} : ∀ {ks : List Key} {us : List Value}, Vals (ks.map kV) us → ItemsAre (mixKind P w) ks us
  | [], _, r => by rw [List.map_nil] at r; cases r; exact .nil
  | k :: ks, _, r => by
    rw [List.map_cons] at r
    cases r with
    | cons h t => exact .cons (kV_is h) (items_are t)

/-- raw entries of a dict with tuple keys -/
abbrev KT (H : Hp) : List (List Key × V) → List (List Key × Addr × Value) → Prop := Paired fun p q => p.1 = q.1 ∧ H q.2.1 = some (.tup (p.1.map kV)) ∧ RelV p.2 q.2.2
theorem KT.val {H : Hp} {kvs : List (List Key × V)} {xs : List (List Key × Addr × Value)} (r : KT H kvs xs) (k : List Key) : RelO (valV kvs k) ((atKey xs k).map (·.2)) := by
  induction r with
  | nil => exact True.intro
  | @cons p q ps qs h t ih =>
    obtain ⟨h1, _, h2⟩ := h
    by_cases e : p.1 = k
    · have e' : q.1 = k := h1.symm.trans e
      have b : atKey (q :: qs) k = some q.2 := by simp [atKey, List.find?_cons, e']
      rw [valV_pos e, b]; exact h2
    · have e' : ¬ q.1 = k := fun z => e (h1.trans z)
      have b : atKey (q :: qs) k = atKey qs k := by simp [atKey, List.find?_cons, e']
      rw [valV_neg e, b]; exact ih
theorem KT.repl {H : Hp} {kvs : List (List Key × V)} {xs : List (List Key × Addr × Value)} (r : KT H kvs xs) (k : List Key) {y : V} {u : Value} (ry : RelV y u) :
    KT H (kvs.map fun kv => if kv.1 = k then (kv.1, y) else kv) (xs.map (putAt k u)) := by
  induction r with
  | nil => exact .nil
  | @cons p q ps qs h t ih =>
    rw [List.map_cons, List.map_cons]
    refine .cons ?_ ih
    obtain ⟨h1, h2, h3⟩ := h
    unfold putAt
    by_cases e : p.1 = k
    · rw [if_pos e, if_pos (h1.symm.trans e)]; exact ⟨h1, h2, ry⟩
    · rw [if_neg e, if_neg (fun z => e (h1.trans z))]; exact ⟨h1, h2, h3⟩
theorem KT.put {H : Hp} {kvs : List (List Key × V)} {xs : List (List Key × Addr × Value)} (r : KT H kvs xs) (k : List Key) {b : Addr} {y : V} {u : Value} (hb : H b = some (.tup (k.map kV))) (ry : RelV y u) :
    KT H (putK kvs k y) (storedH xs k b u) := by
  have e : (kvs.any fun kv => decide (kv.1 = k)) = (atKey xs k).isSome := by
    rw [valV_any, (r.val k).isSome_eq, Option.isSome_map]
  unfold putK storedH
  rw [e]
  by_cases q : (atKey xs k).isSome = true
  · rw [if_pos q, if_pos q]; exact r.repl k ry
  · rw [if_neg q, if_neg q]; exact Paired.snoc r ⟨rfl, hb, ry⟩
theorem KT.keeps {H H' : Hp} {kvs : List (List Key × V)} {xs : List (List Key × Addr × Value)} (r : KT H kvs xs) (ht : ∀ b ys, H b = some (.tup ys) → H' b = some (.tup ys)) : KT H' kvs xs :=
  Paired.mapP r fun _ _ z => ⟨z.1, ht _ _ z.2.1, z.2.2⟩

section
variable {P : Program} {w : World} {H : Hp} {h : Heap} {a : Addr}
theorem rd_of {u : HO} (ok : HOk P w H h) (e : Rd H a u) : ObjOk P w H h a u := e.ok ok
theorem dk_rd {kvs : List (Key × V)} (ok : HOk P w H h) (e : Rd H a (.dK kvs)) : kvs.length ≤ sizeLine ∧ (a == sysModules) = false ∧ ∃ vs, KV kvs vs ∧ h.DictOf (mixKind P w) a vs :=
  show ObjOk P w H h a (.dK kvs) from rd_of ok e
theorem dk_of {kvs : List (Key × V)} (ok : HOk P w H h) (e : H a = some (.dK kvs)) : kvs.length ≤ sizeLine ∧ (a == sysModules) = false ∧ ∃ vs, KV kvs vs ∧ h.DictOf (mixKind P w) a vs := dk_rd ok (.inl e)
/-- a tracked tuple of ints and texts is a key -/
theorem key_of {ks : List Key} (ok : HOk P w H h) (e : H a = some (.tup (ks.map kV))) : (tupleKind (mixKind P w)).is h ks a := by
  obtain ⟨_, its, r, o, h1, h2, n, h3⟩ := (show ObjOk P w H h a (.tup (ks.map kV)) from ok a _ e)
  exact ⟨o, its.toArray, n, h1, h2, h3, by simpa using items_are r⟩
theorem dt_rd {kvs : List (List Key × V)} (ok : HOk P w H h) (e : Rd H a (.dT kvs)) : kvs.length ≤ sizeLine ∧ (a == sysModules) = false ∧
    ∃ xs, KT H kvs xs ∧ h.DictOfH (tupleKind (mixKind P w)) a xs := by
  obtain ⟨z, y, xs, r, o, es, ep, h1, h2, h3, h4, h5⟩ := (show ObjOk P w H h a (.dT kvs) from rd_of ok e)
  refine ⟨z, y, xs, r, o, es, ep, h1, h2, h3, h4, fun x hx => ?_, h5⟩
  have all : ∀ {l : List (List Key × V)} {m : List (List Key × Addr × Value)}, KT H l m → ∀ x ∈ m, (tupleKind (mixKind P w)).is h x.1 x.2.1 := by
    intro l m q
    induction q with
    | nil => intro x hx; exact nomatch hx
    | @cons p q ps qs hq t ih =>
      intro x hx
      rcases List.mem_cons.mp hx with e | hx
      · subst e
        exact key_of ok (by rw [← hq.1]; exact hq.2.1)
      · exact ih x hx
  exact all r x hx
theorem dt_of {kvs : List (List Key × V)} (ok : HOk P w H h) (e : H a = some (.dT kvs)) : kvs.length ≤ sizeLine ∧ (a == sysModules) = false ∧
    ∃ xs, KT H kvs xs ∧ h.DictOfH (tupleKind (mixKind P w)) a xs := dt_rd ok (.inl e)
end

/-- what the dict at a holds at the key y -/
def DGet (H : Hp) (a : Addr) (y : V) (r : Option V) : Prop :=
  (∃ kvs k, Rd H a (.dK kvs) ∧ y = kV k ∧ r = valV kvs k) ∨ ∃ kvs k b, Rd H a (.dT kvs) ∧ y = .ref b ∧ H b = some (.tup (k.map kV)) ∧ r = valV kvs k
/-- the heap behind a[y] = v -/
def DPut (H : Hp) (a : Addr) (y v : V) (H' : Hp) : Prop :=
  (∃ kvs k, H a = some (.dK kvs) ∧ y = kV k ∧ kvs.length < sizeLine ∧ H' = upd H a (.dK (putK kvs k v))) ∨
  ∃ kvs k b, H a = some (.dT kvs) ∧ y = .ref b ∧ H b = some (.tup (k.map kV)) ∧ kvs.length < sizeLine ∧ H' = upd H a (.dT (putK kvs k v))
theorem DGet.k {H : Hp} {a : Addr} {kvs : List (Key × V)} {k : Key} (e : H a = some (.dK kvs)) : DGet H a (kV k) (valV kvs k) := .inl ⟨kvs, k, .inl e, rfl, rfl⟩
theorem DGet.t {H : Hp} {a b : Addr} {kvs : List (List Key × V)} {k : List Key} (e : H a = some (.dT kvs)) (eb : H b = some (.tup (k.map kV))) : DGet H a (.ref b) (valV kvs k) := .inr ⟨kvs, k, b, .inl e, rfl, eb, rfl⟩
theorem DPut.k {H : Hp} {a : Addr} {kvs : List (Key × V)} {k : Key} {v : V} (e : H a = some (.dK kvs)) (hl : kvs.length < sizeLine) : DPut H a (kV k) v (upd H a (.dK (putK kvs k v))) := .inl ⟨kvs, k, e, rfl, hl, rfl⟩
theorem DPut.t {H : Hp} {a b : Addr} {kvs : List (List Key × V)} {k : List Key} {v : V} (e : H a = some (.dT kvs)) (eb : H b = some (.tup (k.map kV))) (hl : kvs.length < sizeLine) :
    DPut H a (.ref b) v (upd H a (.dT (putK kvs k v))) := .inr ⟨kvs, k, b, e, rfl, eb, hl, rfl⟩


section
variable {X : Cx} {pins : List (Addr × Obj)} {σ : St} {H : Hp} {s : Shared} {a : Addr} {y v : V} {u r : Value} {o : Option V} {A : Around} {E : Value → Shared → Prop}

theorem Inv.big (I : Inv X pins σ H s) : sysModules < s.heap.objs.size := by
  have h : mainGlobals < s.heap.objs.size := (I.mod.glob.keeps I.bk).lt
  exact Nat.lt_trans (by decide) h

/-- d[y], there -/
theorem d_getItem {Q : Value → Shared → Prop} (hu : A.units + 1 < cLine) (I : Inv X pins σ H s) (g : DGet H a y (some v)) (ry : RelV y u) (h : ∀ w' s', Inv X pins σ H s' → RelV v w' → Q w' s') :
    wpAny (model X.prog X.w) A (getItem (.ref a) u) Q E s := by
  rcases g with ⟨kvs, k, e, ey, l⟩ | ⟨kvs, k, b, e, ey, eb, l⟩
  · subst ey
    obtain ⟨z, hd, vs, rel, dd⟩ := dk_rd I.hok e
    obtain ⟨w', hw, rw'⟩ := RelO.some_of (v := v) (o := valueAt vs k) (by rw [l]; exact rel.val k)
    exact wpAny_getItem_of (kV_is ry) dd.mapOf hw (h w' _ (I.tok _) rw')
  · subst ey
    cases (show u = Value.ref b from ry)
    obtain ⟨z, hd, xs, rel, dd⟩ := dt_rd I.hok e
    obtain ⟨w', hw, rw'⟩ := RelO.some_of (v := v) (o := (atKey xs k).map (·.2)) (by rw [l]; exact rel.val k)
    obtain ⟨p, hp, hp2⟩ := Option.map_eq_some_iff.mp hw
    refine wpAny_getItem_heap (tupleKind_room_in1 hu) (key_of I.hok eb) dd hp ?_
    rw [hp2]
    exact h w' _ (I.tok _) rw'
/-- y in d -/
theorem d_in {Q : Value → Shared → Prop} (hu : A.units + 1 < cLine) (I : Inv X pins σ H s) (g : DGet H a y o) (ry : RelV y u) (h : ∀ s', Inv X pins σ H s' → Q (.bool o.isSome) s') :
    wpAny (model X.prog X.w) A (compareOp .In u (.ref a)) Q E s := by
  rcases g with ⟨kvs, k, e, ey, l⟩ | ⟨kvs, k, b, e, ey, eb, l⟩
  · subst ey
    obtain ⟨z, hd, vs, rel, dd⟩ := dk_rd I.hok e
    refine wpAny_in_of (kV_is ry) hd dd.mapOf ?_
    rw [← (rel.val k).isSome_eq, ← l]
    exact h _ (I.tok _)
  · subst ey
    cases (show u = Value.ref b from ry)
    obtain ⟨z, hd, xs, rel, dd⟩ := dt_rd I.hok e
    refine wpAny_in_heap (tupleKind_room_in1 hu) (key_of I.hok eb) hd dd ?_
    have q := (rel.val k).isSome_eq
    rw [Option.isSome_map] at q
    rw [← q, ← l]
    exact h _ (I.tok _)
theorem d_notIn {Q : Value → Shared → Prop} (hu : A.units + 1 < cLine) (I : Inv X pins σ H s) (g : DGet H a y o) (ry : RelV y u) (h : ∀ s', Inv X pins σ H s' → Q (.bool (!o.isSome)) s') :
    wpAny (model X.prog X.w) A (compareOp .NotIn u (.ref a)) Q E s := by
  rcases g with ⟨kvs, k, e, ey, l⟩ | ⟨kvs, k, b, e, ey, eb, l⟩
  · subst ey
    obtain ⟨z, hd, vs, rel, dd⟩ := dk_rd I.hok e
    refine wpAny_notIn_of (kV_is ry) hd dd.mapOf ?_
    rw [← (rel.val k).isSome_eq, ← l]
    exact h _ (I.tok _)
  · subst ey
    cases (show u = Value.ref b from ry)
    obtain ⟨z, hd, xs, rel, dd⟩ := dt_rd I.hok e
    refine wpAny_notIn_heap (tupleKind_room_in1 hu) (key_of I.hok eb) hd dd ?_
    have q := (rel.val k).isSome_eq
    rw [Option.isSome_map] at q
    rw [← q, ← l]
    exact h _ (I.tok _)
/-- a dict's object is replaced -/
theorem d_write {h' : Heap} {t' : Nat} {ob : HO} (I : Inv X pins σ H s) (mu : Mut (H a)) (hs : Heap.SameBut a s.heap h') (he : ∃ q, h'.get? a = some q) (new : ObjOk X.prog X.w (upd H a ob) h' a ob) :
    Inv X pins σ (upd H a ob) { s with heap := h', toks := t' } :=
  I.write (x := a) (e := a) mu (.inl rfl) (fun b q hb z => (hs.2 b hb).trans z) he new
theorem dk_new {P : Program} {w : World} {H' : Hp} {h' : Heap} {kvs : List (Key × V)} {vs : List (Key × Value)} (z : kvs.length ≤ sizeLine) (hd : (a == sysModules) = false) (rel : KV kvs vs) (dd : h'.DictOf (mixKind P w) a vs) :
    ObjOk P w H' h' a (.dK kvs) := ⟨z, hd, vs, rel, dd⟩
/-- d[y] = v -/
theorem d_setItem {H' : Hp} {Q : Unit → Shared → Prop} (hu : A.units + 1 < cLine) (I : Inv X pins σ H s) (g : DPut H a y v H') (ry : RelV y u) (rv : RelV v r) (h : ∀ s', Inv X pins σ H' s' → Q () s') :
    wpAny (model X.prog X.w) A (setItem (.ref a) u r) Q E s := by
  rcases g with ⟨kvs, k, e, ey, l, eH⟩ | ⟨kvs, k, b, e, ey, eb, l, eH⟩
  · subst ey eH
    obtain ⟨z, hd, vs, rel, dd⟩ := dk_of I.hok e
    have hz : vs.length ≤ sizeLine := by rw [← rel.length]; exact z
    have hl : (putK kvs k v).length ≤ sizeLine := by have := length_putK kvs k v; omega
    refine wpAny_setItem_pairs (hsz := hz) (kV_is ry) dd fun h' dd' hs => h _ ?_
    have he : ∃ q, h'.get? a = some q := let ⟨q, _, _, hq, _⟩ := dd'; ⟨q, hq⟩
    exact d_write I (by rw [e]; exact True.intro) hs he (dk_new hl hd (rel.put k rv) dd')
  · subst ey eH
    cases (show u = Value.ref b from ry)
    obtain ⟨z, hd, xs, rel, dd⟩ := dt_of I.hok e
    have hz : xs.length ≤ sizeLine := by rw [← Paired.length rel]; exact z
    have hl : (putK kvs k v).length ≤ sizeLine := by have := length_putK kvs k v; omega
    refine wpAny_setItem_heap (hsz := hz) (tupleKind_room_in1 hu) (key_of I.hok eb) dd fun h' dd' hs => h _ ?_
    obtain ⟨q, es, ep, hq, h2, h3, h4, _, h5⟩ := dd'
    refine d_write I (by rw [e]; exact True.intro) hs ⟨q, hq⟩ ⟨hl, hd, _, (rel.put k eb rv).keeps fun c ys ec => ?_, q, es, ep, hq, h2, h3, h4, h5⟩
    rw [upd_ne (ne_of ec e (fun z => nomatch z))]
    exact ec
end

section
variable {X : Cx} {pins : List (Addr × Obj)} {σ : St} {H : Hp} {s : Shared} {a : Addr} {kvs : List (Key × V)} {k : Key} {u : Value} {A : Around} {E : Value → Shared → Prop}
/-- del d[k] -/
theorem d_delItem {Q : Unit → Shared → Prop} (I : Inv X pins σ H s) (e : H a = some (.dK kvs)) (ry : RelV (kV k) u) (l : (valV kvs k).isSome = true) (h : ∀ s', Inv X pins σ (upd H a (.dK (dropK kvs k))) s' → Q () s') :
    wpAny (model X.prog X.w) A (delItem (.ref a) u) Q E s := by
  obtain ⟨z, hd, vs, rel, dd⟩ := dk_of I.hok e
  refine wpAny_delItem_slot dd.typeIs (by decide) PySem.F.slot_dict_delitem
    (call_meetsIn PySem.F.slot_dict_delitem dd.typeIs PySem.F.entry_dict_delitem (PySem.F.args_dict_delitem_2 _ _) (meets_dict_delitem_pairs (mixKind X.prog X.w) a (kV_is ry)) ⟨vs, dd, by rw [← rel.length]; exact z, by rw [← (rel.val k).isSome_eq]; exact l, fun h' dd' hs => h _ ?_⟩)
  have he : ∃ q, h'.get? a = some q := let ⟨q, _, _, hq, _⟩ := dd'; ⟨q, hq⟩
  exact d_write I (by rw [e]; exact True.intro) hs he (dk_new (Nat.le_trans (dropK_le kvs k) z) hd (rel.drop k) dd')
/-- d.pop(k[, x]), there -/
theorem d_pop {v : V} {more : List Value} {Q : Value → Shared → Prop} (I : Inv X pins σ H s) (e : H a = some (.dK kvs)) (ry : RelV (kV k) u) (l : valV kvs k = some v) (hm : more = [] ∨ ∃ x, more = [x])
    (h : ∀ w' s', Inv X pins σ (upd H a (.dK (dropK kvs k))) s' → RelV v w' → Q w' s') : wpAny (model X.prog X.w) A (call (.builtin "dict.pop") (.ref a :: u :: more)) Q E s := by
  obtain ⟨z, hd, vs, rel, dd⟩ := dk_of I.hok e
  obtain ⟨w', hw, rw'⟩ := RelO.some_of (v := v) (o := valueAt vs k) (by rw [← l]; exact rel.val k)
  have hp : (keyPart u).isSome = true := by
    cases k with
    | inl i => obtain ⟨t, q⟩ := (show ∃ t, u = Value.int i t from ry); subst q; rfl
    | inr x => obtain ⟨t, q⟩ := (show ∃ t, u = Value.str x t from ry); subst q; rfl
  have ha : argsOk "dict.pop" ⟨.ref a :: u :: more, []⟩ := by
    rcases hm with q | ⟨x, q⟩
    · subst q; exact PySem.F.args_dict_pop_2 _ _
    · subst q; exact PySem.F.args_dict_pop_3 _ _ _
  refine call_meetsIn PySem.F.slot_dict_pop dd.typeIs PySem.F.entry_dict_pop ha (meets_dict_pop_there (mixKind X.prog X.w) a (kV_is ry) more hm hp)
    ⟨vs, w', dd, by rw [← rel.length]; exact z, hw, fun h' dd' hs => h w' _ ?_ rw'⟩
  have he : ∃ q, h'.get? a = some q := let ⟨q, _, _, hq, _⟩ := dd'; ⟨q, hq⟩
  exact d_write I (by rw [e]; exact True.intro) hs he (dk_new (Nat.le_trans (dropK_le kvs k) z) hd (rel.drop k) dd')
/-- d.pop(k, x), not there -/
theorem d_popD {r : Value} {Q : Value → Shared → Prop} (I : Inv X pins σ H s) (e : H a = some (.dK kvs)) (ry : RelV (kV k) u) (l : valV kvs k = none) (h : ∀ s', Inv X pins σ H s' → Q r s') :
    wpAny (model X.prog X.w) A (call (.builtin "dict.pop") [.ref a, u, r]) Q E s := by
  obtain ⟨z, hd, vs, rel, dd⟩ := dk_of I.hok e
  have hn : valueAt vs k = none := RelO.none_of (by rw [← l]; exact rel.val k)
  have hp : (keyPart u).isSome = true := by
    cases k with
    | inl i => obtain ⟨t, q⟩ := (show ∃ t, u = Value.int i t from ry); subst q; rfl
    | inr x => obtain ⟨t, q⟩ := (show ∃ t, u = Value.str x t from ry); subst q; rfl
  exact call_meetsIn PySem.F.slot_dict_pop dd.typeIs PySem.F.entry_dict_pop (PySem.F.args_dict_pop_3 _ _ _) (meets_dict_pop_default (mixKind X.prog X.w) a (kV_is ry) hd hp r) ⟨vs, dd, hn, h _ (I.tok _)⟩
/-- d.clear() -/
theorem d_clear {Q : Value → Shared → Prop} (I : Inv X pins σ H s) (e : H a = some (.dK kvs)) (h : ∀ s', Inv X pins σ (upd H a (.dK [])) s' → Q .none s') : wpAny (model X.prog X.w) A (call (.builtin "dict.clear") [.ref a]) Q E s := by
  obtain ⟨z, hd, vs, rel, dd⟩ := dk_of I.hok e
  refine call_meetsIn PySem.F.slot_dict_clear dd.typeIs PySem.F.entry_dict_clear (PySem.F.args_dict_clear_1 _) (meets_dict_clear (mixKind X.prog X.w) a) ⟨vs, dd, by rw [← rel.length]; exact z, fun h' dd' hs => h _ ?_⟩
  have he : ∃ q, h'.get? a = some q := let ⟨q, _, _, hq, _⟩ := dd'; ⟨q, hq⟩
  exact d_write (t' := s.toks) I (by rw [e]; exact True.intro) hs he (dk_new (Nat.zero_le _) hd .nil dd')
/-- len(d) -/
theorem d_len {Q : Value → Shared → Prop} (I : Inv X pins σ H s) (e : Rd H a (.dK kvs)) (h : ∀ t s', Inv X pins σ H s' → Q (.int kvs.length t) s') : wpAny (model X.prog X.w) A (call (.builtin "len") [.ref a]) Q E s := by
  obtain ⟨z, hd, vs, rel, dd⟩ := dk_rd I.hok e
  refine call_len_dict hd dd (by rw [← rel.length]; rw [sizeLine_eq] at z; omega) ?_
  rw [← rel.length]
  exact h _ _ (I.tok _)
/-- if d -/
theorem d_truth {Q : Bool → Shared → Prop} (I : Inv X pins σ H s) (e : Rd H a (.dK kvs)) (h : ∀ s', Inv X pins σ H s' → Q (!kvs.isEmpty) s') : wpAny (model X.prog X.w) A (truthy (.ref a)) Q E s := by
  obtain ⟨z, hd, vs, rel, dd⟩ := dk_rd I.hok e
  refine wpAny_truthy_dict hd dd (by rw [← rel.length]; rw [sizeLine_eq] at z; omega) ?_
  have q : kvs.isEmpty = vs.isEmpty := by cases rel <;> rfl
  rw [← q]
  exact h _ (I.tok _)
end


/-! ### readings and rules -/
/-- the element of a subscription, not a slice -/
def NoSl (i : Expr) : Prop := ∀ ov iv, subscripted i false ov iv = operate [ov, iv] (getItem ov iv)
theorem subD_of {prog : Program} {w : World} {A : Around} {E : Value → Shared → Prop} {s : Shared} {env : Env} {value slice : Expr} {pos : Pos} {T id : String} {Q : Value → Shared → Prop}
    (hl : typeLookup (.type T) "__getitem__" = pure (some (.builtin id))) (hs : NoSl slice)
    (h : wpAny (model prog w) A (eval value env) (fun o s₁ => wpAny (model prog w) A (eval slice env) (fun i s₂ => s₂.TypeIs o T ∧ wpAny (model prog w) A (getItem o i) Q E s₂) E s₁) E s) :
    wpAny (model prog w) A (eval (.Subscript value slice pos) env) Q E s := by
  refine Subscript_ (wpAny_mono h (fun o s₁ h₁ => wpAny_mono h₁ (fun i s₂ h₂ => ?_) fun _ _ x => x) fun _ _ x => x)
  obtain ⟨hT, h₂⟩ := h₂
  unfold subscriptTail
  refine wpAny_bind ?_
  rw [getitemInPython_of_ne hT.not_modules]
  refine wpAny_bind (wpAny_specialOf hT hl ?_)
  have fin : wpAny (model prog w) A (subscripted slice false o i) (fun r s₃ => wpAny (model prog w) A (letTemporaryGo value o r >>= fun _ => pure r) Q E s₃) E s₂ := by
    rw [hs o i]
    exact wpAny_operating (wpAny_mono h₂ (fun r s₃ h₃ => wpAny_bind (wpAny_letTemporaryGo (wpAny_pure h₃))) fun _ _ x => x)
  first
    | exact wpAny_pure (wpAny_bind fin)
    | exact wpAny_bind (wpAny_pure (wpAny_bind fin))
    | exact wpAny_bind fin

theorem dict_typeIs {X : Cx} {pins : List (Addr × Obj)} {σ : St} {H : Hp} {s : Shared} {a : Addr} {y : V} {o : Option V} (I : Inv X pins σ H s) (g : DGet H a y o) : s.TypeIs (.ref a) "dict" := by
  rcases g with ⟨kvs, k, e, _, _⟩ | ⟨kvs, k, b, e, _, _, _⟩
  · obtain ⟨_, _, vs, _, dd⟩ := dk_rd I.hok e
    exact dd.typeIs
  · obtain ⟨_, _, xs, _, dd⟩ := dt_rd I.hok e
    exact dd.typeIs
theorem dict_noDict {X : Cx} {pins : List (Addr × Obj)} {σ : St} {H : Hp} {s : Shared} {a : Addr} {y : V} {o : Option V} (I : Inv X pins σ H s) (g : DGet H a y o) :
    ∀ b, Value.ref a = .ref b → ∃ ob, s.heap.get? b = some ob ∧ ob.dict = none := fun b q => by
  cases q
  rcases g with ⟨kvs, k, e, _, _⟩ | ⟨kvs, k, b, e, _, _, _⟩
  · obtain ⟨_, _, vs, _, ob, _, _, h1, h2, _⟩ := dk_rd I.hok e
    exact ⟨ob, h1, h2.2.1⟩
  · obtain ⟨_, _, xs, _, ob, _, _, h1, h2, _⟩ := dt_rd I.hok e
    exact ⟨ob, h1, h2.2.1⟩

/-- d[y] -/
def tDGet (td ty : TE) : TE := fun σ H Q => td σ H fun x H1 => ty σ H1 fun y H2 => ∃ a v, x = .ref a ∧ DGet H2 a y (some v) ∧ Q v H2
/-- y in d, y not in d -/
def tDIn (ty td : TE) : TE := fun σ H Q => ty σ H fun y H1 => td σ H1 fun x H2 => ∃ a o, x = .ref a ∧ DGet H2 a y o ∧ Q (.bl o.isSome) H2
def tDNotIn (ty td : TE) : TE := fun σ H Q => ty σ H fun y H1 => td σ H1 fun x H2 => ∃ a o, x = .ref a ∧ DGet H2 a y o ∧ Q (.bl (!o.isSome)) H2
/-- d[y] = v -/
def sDPut (td ty tv : TE) : TS := fun D σ H => tv σ H fun v H1 => td σ H1 fun x H2 => ty σ H2 fun y H3 => ∃ a H4, x = .ref a ∧ DPut H3 a y v H4 ∧ D.nx σ H4
/-- d[y] op= v -/
def sDAug (td ty tv : TE) (rd : V → V → Hp → VK → Prop) : TS := fun D σ H => td σ H fun x H1 => ty σ H1 fun y H2 => ∃ a v, x = .ref a ∧ DGet H2 a y (some v) ∧
  tv σ H2 fun y2 H3 => rd v y2 H3 fun z H4 => ∃ H5, DPut H4 a y z H5 ∧ D.nx σ H5
/-- del d[y] -/
def sDDel (td ty : TE) : TS := fun D σ H => td σ H fun x H1 => ty σ H1 fun y H2 => ∃ a kvs k, x = .ref a ∧ H2 a = some (.dK kvs) ∧ y = kV k ∧ (valV kvs k).isSome = true ∧ D.nx σ (upd H2 a (.dK (dropK kvs k)))

section
variable {X : Cx} {o i e value : Expr} {pos pos' tpos : Pos} {td ty tv : TE}
theorem pe_dget (hu : X.A.units + 1 < cLine) (ho : PE X o td) (hi : PE X i ty) (hs : NoSl i) : PE X (.Subscript o i pos) (tDGet td ty) := by
  intro pins s σ H Q I h
  refine subD_of PySem.F.slot_dict_getitem.lookup hs (thn (ho pins s σ H _ I h) fun u s1 ⟨x, H1, I1, rx, q1⟩ => thn (hi pins s1 σ H1 _ I1 q1) fun iv s2 ⟨y, H2, I2, ry, a, v, ex, g, q2⟩ => ?_)
  subst ex
  obtain rfl : u = Value.ref a := rx
  exact ⟨dict_typeIs I2 g, d_getItem hu I2 g ry fun w' s3 I3 rw' => ⟨v, H2, I3, rw', q2⟩⟩
theorem pc_din (hu : X.A.units + 1 < cLine) (hi : PE X i ty) (ho : PE X o td) : PC X .In i o (tDIn ty td) := by
  intro pins s σ H Q I h
  refine thn (hi pins s σ H _ I h) fun iv s1 ⟨y, H1, I1, ry, q1⟩ => thn (ho pins s1 σ H1 _ I1 q1) fun u s2 ⟨x, H2, I2, rx, a, ov, ex, g, q2⟩ => ?_
  subst ex
  obtain rfl : u = Value.ref a := rx
  exact d_in hu I2 g ry fun s3 I3 => ⟨.bl ov.isSome, H2, I3, rfl, q2⟩
theorem pc_dnotin (hu : X.A.units + 1 < cLine) (hi : PE X i ty) (ho : PE X o td) : PC X .NotIn i o (tDNotIn ty td) := by
  intro pins s σ H Q I h
  refine thn (hi pins s σ H _ I h) fun iv s1 ⟨y, H1, I1, ry, q1⟩ => thn (ho pins s1 σ H1 _ I1 q1) fun u s2 ⟨x, H2, I2, rx, a, ov, ex, g, q2⟩ => ?_
  subst ex
  obtain rfl : u = Value.ref a := rx
  exact d_notIn hu I2 g ry fun s3 I3 => ⟨.bl (!ov.isSome), H2, I3, rfl, q2⟩
theorem ps_dput (hu : X.A.units + 1 < cLine) (ho : PE X o td) (hi : PE X i ty) (hv : PE X value tv) (hs : swapsWith value (some (.Subscript o i pos')) pos.line X.env = pure false) :
    PS X (.Assign [.Subscript o i pos'] value pos) (sDPut td ty tv) := by
  intro pins s σ H D I h
  refine wpAny_Assign_Subscript (thn (hv pins s σ H _ I h) fun r s1 ⟨v, H1, I1, rv, q1⟩ => thn (ho pins s1 σ H1 _ I1 q1) fun u s2 ⟨x, H2, I2, rx, q2⟩ => thn (hi pins s2 σ H2 _ I2 q2) fun iv s3 ⟨y, H3, I3, ry, a, H4, ex, g, q3⟩ => ?_) hs
  subst ex
  obtain rfl : u = Value.ref a := rx
  exact d_setItem hu I3 g ry rv fun s4 I4 => ⟨σ, H4, I4, q3⟩
theorem ps_daug {op : Operator} {rd : V → V → Hp → VK → Prop} (hu : X.A.units + 1 < cLine) (ho : PE X o td) (hi : PE X i ty) (hv : PE X value tv) (hop : InOp X op rd)
    (ha : ∀ ov iv new, augStore i ov iv new = (do holding [new, ov, iv] (setItem ov iv new); release [new, ov, iv] []; pure .next)) : PS X (.AugAssign (.Subscript o i tpos) op value pos) (sDAug td ty tv rd) := by
  intro pins s σ H D I h
  refine wpAny_AugAssign_SubscriptAny (thn (ho pins s σ H _ I h) fun u s1 ⟨x, H1, I1, rx, q1⟩ => thn (hi pins s1 σ H1 _ I1 q1) fun iv s2 ⟨y, H2, I2, ry, a, v, ex, g, q2⟩ => ?_) ha
  subst ex
  obtain rfl : u = Value.ref a := rx
  refine d_getItem hu I2 g ry fun w' s3 I3 rw' => thn (hv pins s3 σ H2 _ I3 q2) fun w2 s4 ⟨y2, H3, I4, ry2, q3⟩ => thn (hop pins s4 σ H3 v y2 w' w2 _ I4 rw' ry2 q3) fun w3 s5 ⟨z, H4, I5, rz, H5, g5, q4⟩ => ?_
  exact d_setItem hu I5 g5 ry rz fun s6 I6 => ⟨σ, H5, I6, q4⟩
theorem ps_ddel (ho : PE X o td) (hi : PE X i ty) : PS X (.Delete [.Subscript o i tpos] pos) (sDDel td ty) := by
  intro pins s σ H D I h
  refine wpAny_Delete (wpAny_deleteEach_cons (wpAny_delete_Subscript (thn (ho pins s σ H _ I h) fun u s1 ⟨x, H1, I1, rx, q1⟩ => thn (hi pins s1 σ H1 _ I1 q1) fun iv s2 ⟨y, H2, I2, ry, a, kvs, k, ex, e, ey, l, q2⟩ => ?_)))
  subst ex ey
  obtain rfl : u = Value.ref a := rx
  exact d_delItem I2 e ry l fun s3 I3 => wpAny_deleteEach_nil ⟨σ, _, I3, q2⟩
end


/-! ### displays -/
theorem dk_empty {P : Program} {w : World} {H : Hp} (h : Heap) (hb : sysModules < h.objs.size) : ObjOk P w H (h.push { cls := .type "dict", data := .dict #[] }) h.objs.size (.dK []) :=
  ⟨Nat.zero_le _, beq_eq_false_iff_ne.mpr (Ne.symm (Nat.ne_of_lt hb)), [], .nil, Heap.DictOf.new h⟩
theorem dt_empty {P : Program} {w : World} {H : Hp} (h : Heap) (hb : sysModules < h.objs.size) : ObjOk P w H (h.push { cls := .type "dict", data := .dict #[] }) h.objs.size (.dT []) :=
  ⟨Nat.zero_le _, beq_eq_false_iff_ne.mpr (Ne.symm (Nat.ne_of_lt hb)), [], .nil, _, #[], 0, Heap.get?_push_size _ rfl, ⟨rfl, rfl, rfl⟩, rfl, rfl, List.nodup_nil⟩
/-- {}, to be a dict of the kind that is wanted -/
def tDNewK : TE := fun _ H Q => ∀ p, H p = none → Q (.ref p) (upd H p (.dK []))
def tDNewT : TE := fun _ H Q => ∀ p, H p = none → Q (.ref p) (upd H p (.dT []))
section
variable {X : Cx} {pos : Pos}
theorem pe_dnewK : PE X (.Dict [] [] pos) tDNewK := fun pins s σ H Q I h =>
  wpAny_Dict_empty ⟨.ref s.heap.objs.size, _, I.laid (a := s.heap.objs.size) (o := .dK []) (t' := s.toks) (fun _ _ q => Heap.get?_push_of_some _ q) (Nat.le_refl _) (dk_empty s.heap I.big), rfl, h _ (I.hok.fresh (Nat.le_refl _))⟩
theorem pe_dnewT : PE X (.Dict [] [] pos) tDNewT := fun pins s σ H Q I h =>
  wpAny_Dict_empty ⟨.ref s.heap.objs.size, _, I.laid (a := s.heap.objs.size) (o := .dT []) (t' := s.toks) (fun _ _ q => Heap.get?_push_of_some _ q) (Nat.le_refl _) (dt_empty s.heap I.big), rfl, h _ (I.hok.fresh (Nat.le_refl _))⟩
end

/-- the pairs of a display, from the left -/
def tPairs : List (TE × TE) → St → Hp → (List (V × V) → Hp → Prop) → Prop
  | [], _, H, Q => Q [] H
  | (tk, tv) :: r, σ, H, Q => tk σ H fun x H1 => tv σ H1 fun y H2 => tPairs r σ H2 fun ps H3 => Q ((x, y) :: ps) H3
abbrev VV : List (V × V) → List (Value × Value) → Prop := Paired fun p q => RelV p.1 q.1 ∧ RelV p.2 q.2
def PPs (X : Cx) (pos : Pos) (keys : List (Option Expr)) (values : List Expr) (trs : List (TE × TE)) : Prop :=
  ∀ (pins : List (Addr × Obj)) (s : Shared) (σ : St) (H : Hp) (Q : List (V × V) → Hp → Prop), Inv X pins σ H s → tPairs trs σ H Q →
    wpAny (model X.prog X.w) X.A (evalPairs (pairTrees keys values X.env pos)) (fun vs s' => ∃ ps H', Inv X pins σ H' s' ∧ VV ps vs ∧ Q ps H') X.xe s
theorem pps_nil {X : Cx} {pos : Pos} : PPs X pos [] [] [] := fun pins s σ H Q I h => pairTrees_nil_walk ⟨[], H, I, .nil, h⟩
theorem pps_cons {X : Cx} {pos : Pos} {k v : Expr} {ks : List (Option Expr)} {vs : List Expr} {tk tv : TE} {trs : List (TE × TE)} (hk : PE X k tk) (hv : PE X v tv) (hr : PPs X pos ks vs trs) :
    PPs X pos (some k :: ks) (v :: vs) ((tk, tv) :: trs) := fun pins s σ H Q I h =>
  pairTrees_cons_walk (thn (hk pins s σ H _ I h) fun u s1 ⟨x, H1, I1, rx, q1⟩ => thn (hv pins s1 σ H1 _ I1 q1) fun w2 s2 ⟨y, H2, I2, ry, q2⟩ =>
    thn (hr pins s2 σ H2 _ I2 q2) fun ws s3 ⟨ps, H3, I3, rel, q3⟩ => ⟨(x, y) :: ps, H3, I3, .cons ⟨rx, ry⟩ rel, q3⟩)

def mergeK (kvs more : List (Key × V)) : List (Key × V) := more.foldl (fun acc kv => putK acc kv.1 kv.2) kvs
theorem KV.merge : ∀ {more : List (Key × V)} {rs : List (Key × Value)} {kvs : List (Key × V)} {vs : List (Key × Value)}, KV more rs → KV kvs vs → KV (mergeK kvs more) (merged vs rs) := by
  intro more rs kvs vs r
  unfold KV at r
  induction r generalizing kvs vs with
  | nil => intro q; exact q
  | @cons p q ps qs h t ih =>
    intro r0
    have e : KV (putK kvs p.1 p.2) (stored vs q.1 q.2) := by
      have := r0.put p.1 h.2
      rw [← h.1]; exact this
    exact ih e
theorem length_mergeK : ∀ (more kvs : List (Key × V)), (mergeK kvs more).length ≤ kvs.length + more.length
  | [], kvs => by show kvs.length ≤ kvs.length + 0; omega
  | p :: r, kvs => by
    have h1 := length_mergeK r (putK kvs p.1 p.2)
    have h2 := length_putK kvs p.1 p.2
    show (mergeK (putK kvs p.1 p.2) r).length ≤ _
    rw [List.length_cons]; omega
theorem carries_of {P : Program} {w : World} : ∀ {kvs : List (Key × V)} {ws : List (Value × Value)}, VV (kvs.map fun kv => (kV kv.1, kv.2)) ws → ∃ rs, Carries (mixKind P w) ws rs ∧ KV kvs rs
  | [], _, r => by rw [List.map_nil] at r; cases r; exact ⟨[], True.intro, .nil⟩
  | p :: kvs, _, r => by
    rw [List.map_cons] at r
    cases r with
    | @cons a b as bs h t =>
      obtain ⟨rs, c, q⟩ := carries_of (P := P) (w := w) t
      obtain ⟨b1, b2⟩ := b
      exact ⟨(p.1, b2) :: rs, ⟨kV_is h.1, rfl, c⟩, .cons ⟨rfl, h.2⟩ q⟩
/-- {k: v, ..} with keys ints and texts; the new dict stands empty while the pairs are made -/
def tDisp (trs : List (TE × TE)) : TE := fun σ H Q => ∀ p, H p = none → tPairs trs σ (upd H p (.dK [])) fun ps H2 => H2 p = some (.dK []) ∧ ∃ kvs : List (Key × V), ps = kvs.map (fun kv => (kV kv.1, kv.2)) ∧ kvs.length ≤ 15 ∧ Q (.ref p) (upd H2 p (.dK (mergeK [] kvs)))
theorem pe_disp {X : Cx} {pos : Pos} {keys : List (Option Expr)} {values : List Expr} {trs : List (TE × TE)} (h : PPs X pos keys values trs) (hall : keys.all (·.isSome) = true) (hl : keys.length = values.length) (h0 : keys ≠ [])
    (h15 : keys.length ≤ 15) : PE X (.Dict keys values pos) (tDisp trs) := by
  intro pins s σ H Q I q
  have hn := I.hok.fresh (Nat.le_refl s.heap.objs.size)
  have I1 := I.laid (a := s.heap.objs.size) (o := .dK []) (h' := s.heap.push { cls := .type "dict", data := .dict #[] }) (t' := s.toks) (fun _ _ q => Heap.get?_push_of_some _ q) (Nat.le_refl _) (dk_empty s.heap I.big)
  refine wpAny_Dict_walk (knd := mixKind X.prog X.w) hall hl h0 h15 (thn (h pins _ σ _ _ I1 (q _ hn)) fun ws s2 ⟨ps, H2, I2, rel, e, kvs, ep, lk, q2⟩ => ?_)
  subst ep
  obtain ⟨rs, c, rk⟩ := carries_of (P := X.prog) (w := X.w) rel
  obtain ⟨z, hd, vs0, r0, dd⟩ := dk_of I2.hok e
  cases r0
  refine ⟨rs, c, dd, fun h' dd' hs => ⟨.ref s.heap.objs.size, _, ?_, rfl, q2⟩⟩
  have hz : (mergeK [] kvs).length ≤ sizeLine := by
    have h1 := length_mergeK kvs []
    rw [List.length_nil] at h1
    rw [sizeLine_eq]; omega
  have he : ∃ q, h'.get? s.heap.objs.size = some q := let ⟨q, _, _, hq, _⟩ := dd'; ⟨q, hq⟩
  exact d_write I2 (by rw [e]; exact True.intro) hs he (dk_new hz hd (rk.merge .nil) dd')


/-! ### methods -/
/-- a method call o.m(e) of a built-in, with one argument: what must be seen of the text -/
structure M1 (X : Cx) (o : Expr) (m : Str) (apos : Pos) (e : Expr) (cpos : Pos) : Prop where
  base : attributeBase o m X.env (eval o X.env) = eval o X.env
  few : ((backTo cpos (starEach [e] X.env)).all (fun x => !x.1) && (backToKw cpos (keywordEach [] X.env)).all (fun x => x.1.isSome)
    && decide (([e] : List Expr).length + ([] : List Keyword).length + (if ([] : List Keyword).isEmpty then 0 else 1) < 30)) = true
  line : (apos.endLine == cpos.line) = true
  trees : backTo cpos (starEach [e] X.env) = [(false, eval e X.env)]
structure M2 (X : Cx) (o : Expr) (m : Str) (apos : Pos) (e f : Expr) (cpos : Pos) : Prop where
  base : attributeBase o m X.env (eval o X.env) = eval o X.env
  few : ((backTo cpos (starEach [e, f] X.env)).all (fun x => !x.1) && (backToKw cpos (keywordEach [] X.env)).all (fun x => x.1.isSome)
    && decide (([e, f] : List Expr).length + ([] : List Keyword).length + (if ([] : List Keyword).isEmpty then 0 else 1) < 30)) = true
  line : (apos.endLine == cpos.line) = true
  trees : backTo cpos (starEach [e, f] X.env) = [(false, eval e X.env), (false, eval f X.env)]

/-- a is a dict, whatever its keys -/
def IsD (H : Hp) (a : Addr) : Prop := (∃ kvs, Rd H a (.dK kvs)) ∨ ∃ kvs, Rd H a (.dT kvs)
theorem isD_at {X : Cx} {pins : List (Addr × Obj)} {σ : St} {H : Hp} {s : Shared} {a : Addr} (I : Inv X pins σ H s) (d : IsD H a) :
    s.TypeIs (.ref a) "dict" ∧ (∀ b, Value.ref a = .ref b → ∃ ob, s.heap.get? b = some ob ∧ ob.dict = none) ∧ (a == sysModules) = false := by
  rcases d with ⟨kvs, e⟩ | ⟨kvs, e⟩
  · obtain ⟨_, hd, vs, _, dd⟩ := dk_rd I.hok e
    refine ⟨dd.typeIs, fun b q => ?_, hd⟩
    cases q
    obtain ⟨ob, _, _, h1, h2, _⟩ := dd
    exact ⟨ob, h1, h2.2.1⟩
  · obtain ⟨_, hd, xs, _, dd⟩ := dt_rd I.hok e
    refine ⟨dd.typeIs, fun b q => ?_, hd⟩
    cases q
    obtain ⟨ob, _, _, h1, h2, _⟩ := dd
    exact ⟨ob, h1, h2.2.1⟩

section
variable {X : Cx} {pins : List (Addr × Obj)} {σ : St} {H : Hp} {s : Shared} {a : Addr} {y d : V} {u r : Value} {o : Option V} {A : Around} {E : Value → Shared → Prop}
/-- d.get(y) -/
theorem d_get1 {Q : Value → Shared → Prop} (hu : A.units + 1 < cLine) (I : Inv X pins σ H s) (g : DGet H a y o) (ry : RelV y u) (h : ∀ w' s', Inv X pins σ H s' → RelV (o.getD .non) w' → Q w' s') :
    wpAny (model X.prog X.w) A (call (.builtin "dict.get") [.ref a, u]) Q E s := by
  rcases g with ⟨kvs, k, e, ey, l⟩ | ⟨kvs, k, b, e, ey, eb, l⟩
  · subst ey
    obtain ⟨z, hd, vs, rel, dd⟩ := dk_rd I.hok e
    refine call_meetsIn PySem.F.slot_dict_get dd.typeIs PySem.F.entry_dict_get (PySem.F.args_dict_get_2 _ _) (meets_dict_get (mixKind X.prog X.w) a (kV_is ry) hd) ⟨_, dd.mapOf, h _ _ (I.tok _) ?_⟩
    rw [l]
    exact (rel.val k).getD rfl
  · subst ey
    cases (show u = Value.ref b from ry)
    obtain ⟨z, hd, xs, rel, dd⟩ := dt_rd I.hok e
    refine call_meetsIn PySem.F.slot_dict_get dd.typeIs PySem.F.entry_dict_get (PySem.F.args_dict_get_2 _ _) (meetsH_dict_get (tupleKind (mixKind X.prog X.w)) a b hd) ⟨tupleKind_room_in1 hu, k, xs, key_of I.hok eb, dd, h _ _ (I.tok _) ?_⟩
    rw [l]
    exact (rel.val k).getD rfl
/-- d.get(y, x) -/
theorem d_get2 {Q : Value → Shared → Prop} (hu : A.units + 1 < cLine) (I : Inv X pins σ H s) (g : DGet H a y o) (ry : RelV y u) (rd : RelV d r) (h : ∀ w' s', Inv X pins σ H s' → RelV (o.getD d) w' → Q w' s') :
    wpAny (model X.prog X.w) A (call (.builtin "dict.get") [.ref a, u, r]) Q E s := by
  rcases g with ⟨kvs, k, e, ey, l⟩ | ⟨kvs, k, b, e, ey, eb, l⟩
  · subst ey
    obtain ⟨z, hd, vs, rel, dd⟩ := dk_rd I.hok e
    refine call_meetsIn PySem.F.slot_dict_get dd.typeIs PySem.F.entry_dict_get (PySem.F.args_dict_get_3 _ _ _) (meets_dict_get_default (mixKind X.prog X.w) a (kV_is ry) hd r) ⟨_, dd.mapOf, h _ _ (I.tok _) ?_⟩
    rw [l]
    exact (rel.val k).getD rd
  · subst ey
    cases (show u = Value.ref b from ry)
    obtain ⟨z, hd, xs, rel, dd⟩ := dt_rd I.hok e
    refine call_meetsIn PySem.F.slot_dict_get dd.typeIs PySem.F.entry_dict_get (PySem.F.args_dict_get_3 _ _ _) (meetsH_dict_get_default (tupleKind (mixKind X.prog X.w)) a b hd r) ⟨tupleKind_room_in1 hu, k, xs, key_of I.hok eb, dd, h _ _ (I.tok _) ?_⟩
    rw [l]
    exact (rel.val k).getD rd
end

def tDGet1 (td ty : TE) : TE := fun σ H Q => td σ H fun x H1 => ∃ a, x = .ref a ∧ IsD H1 a ∧ ty σ H1 fun y H2 => ∃ o, DGet H2 a y o ∧ Q (o.getD .non) H2
def tDGet2 (td ty tx : TE) : TE := fun σ H Q => td σ H fun x H1 => ∃ a, x = .ref a ∧ IsD H1 a ∧ ty σ H1 fun y H2 => tx σ H2 fun z H3 => ∃ o, DGet H3 a y o ∧ Q (o.getD z) H3
/-- d.pop(k): there; d.pop(k, x): there or not -/
def tDPop1 (td ty : TE) : TE := fun σ H Q => td σ H fun x H1 => ∃ a, x = .ref a ∧ IsD H1 a ∧ ty σ H1 fun y H2 => ∃ kvs k v, H2 a = some (.dK kvs) ∧ y = kV k ∧ valV kvs k = some v ∧ Q v (upd H2 a (.dK (dropK kvs k)))
def tDPop2 (td ty tx : TE) : TE := fun σ H Q => td σ H fun x H1 => ∃ a, x = .ref a ∧ IsD H1 a ∧ ty σ H1 fun y H2 => tx σ H2 fun z H3 => ∃ kvs k, H3 a = some (.dK kvs) ∧ y = kV k ∧
  (∀ v, valV kvs k = some v → Q v (upd H3 a (.dK (dropK kvs k)))) ∧ (valV kvs k = none → Q z H3)
section
variable {X : Cx} {o e f : Expr} {apos cpos : Pos} {td ty tx : TE}
theorem pe_dget1 (hu : X.A.units + 1 < cLine) (ho : PE X o td) (he : PE X e ty) (m : M1 X o "get" apos e cpos) : PE X (.Call (.Attribute o "get" apos) [e] [] cpos) (tDGet1 td ty) := by
  intro pins s σ H Q I h
  refine wpAny_Call_method m.base m.few m.line PySem.F.plainAttrs_dict PySem.F.slot_dict_get PySem.F.type_dict_get (thn (ho pins s σ H _ I h) fun u s1 ⟨x, H1, I1, rx, a, ex, d, q1⟩ => ?_)
  subst ex
  obtain rfl : u = Value.ref a := rx
  obtain ⟨t1, t2, _⟩ := isD_at I1 d
  refine ⟨t1, t2, ?_⟩
  rw [m.trees]
  refine Calls.callWith_builtin rfl (Calls.evalArgs_plain (Calls.spliced_cons (thn (he pins s1 σ H1 _ I1 q1) fun iv s2 ⟨y, H2, I2, ry, ov, g, q2⟩ => Calls.spliced_nil ?_)))
  exact d_get1 hu I2 g ry fun w' s3 I3 rw' => ⟨_, H2, I3, rw', q2⟩
theorem pe_dget2 (hu : X.A.units + 1 < cLine) (ho : PE X o td) (he : PE X e ty) (hf : PE X f tx) (m : M2 X o "get" apos e f cpos) : PE X (.Call (.Attribute o "get" apos) [e, f] [] cpos) (tDGet2 td ty tx) := by
  intro pins s σ H Q I h
  refine wpAny_Call_method m.base m.few m.line PySem.F.plainAttrs_dict PySem.F.slot_dict_get PySem.F.type_dict_get (thn (ho pins s σ H _ I h) fun u s1 ⟨x, H1, I1, rx, a, ex, d, q1⟩ => ?_)
  subst ex
  obtain rfl : u = Value.ref a := rx
  obtain ⟨t1, t2, _⟩ := isD_at I1 d
  refine ⟨t1, t2, ?_⟩
  rw [m.trees]
  refine Calls.callWith_builtin rfl (Calls.evalArgs_plain (Calls.spliced_cons (thn (he pins s1 σ H1 _ I1 q1) fun iv s2 ⟨y, H2, I2, ry, q2⟩ =>
    Calls.spliced_cons (thn (hf pins s2 σ H2 _ I2 q2) fun fv s3 ⟨z, H3, I3, rz, ov, g, q3⟩ => Calls.spliced_nil ?_))))
  exact d_get2 hu I3 g ry rz fun w' s4 I4 rw' => ⟨_, H3, I4, rw', q3⟩
theorem pe_dpop1 (ho : PE X o td) (he : PE X e ty) (m : M1 X o "pop" apos e cpos) : PE X (.Call (.Attribute o "pop" apos) [e] [] cpos) (tDPop1 td ty) := by
  intro pins s σ H Q I h
  refine wpAny_Call_method m.base m.few m.line PySem.F.plainAttrs_dict PySem.F.slot_dict_pop PySem.F.type_dict_pop (thn (ho pins s σ H _ I h) fun u s1 ⟨x, H1, I1, rx, a, ex, d, q1⟩ => ?_)
  subst ex
  obtain rfl : u = Value.ref a := rx
  obtain ⟨t1, t2, _⟩ := isD_at I1 d
  refine ⟨t1, t2, ?_⟩
  rw [m.trees]
  refine Calls.callWith_builtin rfl (Calls.evalArgs_plain (Calls.spliced_cons (thn (he pins s1 σ H1 _ I1 q1) fun iv s2 ⟨y, H2, I2, ry, kvs, k, v, ea, ey, l, q2⟩ => Calls.spliced_nil ?_)))
  subst ey
  exact d_pop I2 ea ry l (.inl rfl) fun w' s3 I3 rw' => ⟨v, _, I3, rw', q2⟩
theorem pe_dpop2 (ho : PE X o td) (he : PE X e ty) (hf : PE X f tx) (m : M2 X o "pop" apos e f cpos) : PE X (.Call (.Attribute o "pop" apos) [e, f] [] cpos) (tDPop2 td ty tx) := by
  intro pins s σ H Q I h
  refine wpAny_Call_method m.base m.few m.line PySem.F.plainAttrs_dict PySem.F.slot_dict_pop PySem.F.type_dict_pop (thn (ho pins s σ H _ I h) fun u s1 ⟨x, H1, I1, rx, a, ex, d, q1⟩ => ?_)
  subst ex
  obtain rfl : u = Value.ref a := rx
  obtain ⟨t1, t2, _⟩ := isD_at I1 d
  refine ⟨t1, t2, ?_⟩
  rw [m.trees]
  refine Calls.callWith_builtin rfl (Calls.evalArgs_plain (Calls.spliced_cons (thn (he pins s1 σ H1 _ I1 q1) fun iv s2 ⟨y, H2, I2, ry, q2⟩ =>
    Calls.spliced_cons (thn (hf pins s2 σ H2 _ I2 q2) fun fv s3 ⟨z, H3, I3, rz, kvs, k, ea, ey, q3, q4⟩ => Calls.spliced_nil ?_))))
  subst ey
  cases l : valV kvs k with
  | some v => exact d_pop I3 ea ry l (.inr ⟨fv, rfl⟩) fun w' s4 I4 rw' => ⟨v, _, I4, rw', q3 v l⟩
  | none => exact d_popD I3 ea ry l fun s4 I4 => ⟨z, H3, I4, rz, q4 l⟩
end

/-! ### dict(d): a copy -/
section
variable {X : Cx} {pins : List (Addr × Obj)} {σ : St} {H : Hp} {s : Shared} {a : Addr} {kvs : List (Key × V)} {A : Around} {E : Value → Shared → Prop}
theorem d_copyOf {Q : Value → Shared → Prop} (I : Inv X pins σ H s) (e : Rd H a (.dK kvs)) (h : ∀ p s', H p = none → Inv X pins σ (upd H p (.dK kvs)) s' → Q (.ref p) s') : wpAny (model X.prog X.w) A (call (.type "dict") [.ref a]) Q E s := by
  obtain ⟨z, hd, vs, rel, dd⟩ := dk_rd I.hok e
  refine kt_call_dict hd dd (by rw [← rel.length]; exact z) fun h' dd' hs => ?_
  refine h _ _ (I.hok.fresh (Nat.le_refl _)) (I.laid (a := s.heap.objs.size) (o := .dK kvs) (t' := s.toks) (fun b q hq => ?_) (Nat.le_refl _) (dk_new z (beq_eq_false_iff_ne.mpr (Ne.symm (Nat.ne_of_lt I.big))) rel dd'))
  exact (hs.2 b (Nat.ne_of_lt (Heap.lt_size hq))).trans (Heap.get?_push_of_some _ hq)
end


section
variable {X : Cx} {pins : List (Addr × Obj)} {σ : St} {H : Hp} {s : Shared} {a : Addr} {y : V} {u : Value} {A : Around} {E : Value → Shared → Prop}
/-- d[y], not there: a KeyError -/
theorem d_missing {Q : Value → Shared → Prop} (hu : A.units + 1 < cLine) (hh : A.handled = none) (I : Inv X pins σ H s) (g : DGet H a y none) (ry : RelV y u)
    (h : ∀ h' e t', Heap.NewExc s.heap h' e "KeyError" → E (.ref e) { s with heap := h', toks := t' }) : wpAny (model X.prog X.w) A (getItem (.ref a) u) Q E s := by
  rcases g with ⟨kvs, k, e, ey, l⟩ | ⟨kvs, k, b, e, ey, eb, l⟩
  · subst ey
    obtain ⟨z, hd, vs, rel, dd⟩ := dk_rd I.hok e
    have hn : valueAt vs k = none := RelO.none_of (by rw [l]; exact rel.val k)
    exact wpAny_getItem_missing_of (kV_is ry) hd hh dd.mapOf hn fun h' ex ne => h h' ex _ ne
  · subst ey
    cases (show u = Value.ref b from ry)
    obtain ⟨z, hd, xs, rel, dd⟩ := dt_rd I.hok e
    have hn : (atKey xs k).map (·.2) = none := RelO.none_of (by rw [l]; exact rel.val k)
    exact wpAny_getItem_missing_heap (tupleKind_room_in1 hu) (key_of I.hok eb) hd hh dd (Option.map_eq_none_iff.mp hn) fun h' ex ne => h h' ex _ ne
end
end L2

namespace Att
open PySem PySem.W PySem.Calls PyProof.Rows

/-! ### the script -/
theorem ints_of_wellAll {P : Params} {h : Heap} : ∀ (ns : List Int) (vs : List Value), WellAll P h vs (ns.map WData.int) → IntsAre vs ns := by
  intro ns
  induction ns with
  | nil =>
    intro vs w
    rw [List.map_nil] at w
    cases w
    exact .nil
  | cons n ns ih =>
    intro vs w
    rw [List.map_cons] at w
    cases w with
    | cons a b =>
      cases a
      exact .cons _ _ (ih _ b)

theorem script_of {l : OpenLaw} {n : Nat} (hn : l.most = some n) {P : Params} {h : Heap} {args : List WData} {vals : List Value}
    (hpre : l.row.toRowW.claim.pre args = true) (hwl : WellAll P h vals args) :
    ∃ a vs ns, vals = [Value.ref a] ∧ args = [WData.list (ns.map WData.int)] ∧ h.get? a = some { cls := .type "list", data := .seq vs.toArray } ∧ IntsAre vs ns ∧ ns.length ≤ n := by
  have hsh : WShape.hasAll [] args [.list .int] = true := (pre_splitW hpre).1
  have hc : l.pre.holds [] { args := args } = true := (pre_splitW hpre).2
  obtain ⟨d, r, rfl, h1, h2⟩ := hasAllW_cons hsh
  obtain rfl := hasAllW_nil h2
  obtain ⟨xs, rfl, h3⟩ := hasW_list h1
  obtain ⟨ns, rfl⟩ := items_int h3
  have hlen : ns.length ≤ n := by
    unfold OpenLaw.pre at hc
    have h4 : (WTm.not (.lt (.lit (.int (n : Int))) (.len (.arg 0)))).holds [] { args := [.list (ns.map .int)] } = true := by
      have h4 := (holds_andW hc).1
      rw [hn] at h4
      exact h4
    have h5 := condW_of h4 (w_not (w_lt w_lit (w_len_list (w_arg rfl))))
    rw [List.length_map] at h5
    refine Nat.le_of_not_lt fun q => ?_
    have q' : (n : Int) < ((ns.length : Nat) : Int) := by omega
    first
      | (rw [decide_eq_true q'] at h5; exact absurd h5 (by decide))
      | (simp at h5; omega)
  cases hwl with
  | cons w1 w2 =>
    cases w2
    cases w1 with
    | list ho hall => exact ⟨_, _, ns, rfl, rfl, ho, ints_of_wellAll ns _ hall, hlen⟩

theorem post_true (l : OpenLaw) (args : List WData) : l.row.toRowW.claim.post args (.bool true) args = true :=
  postW_of (r := l.row.toRowW) (X := (true == true))
    (show WShape.has [] (.bool true) .bool = true by first | rfl | decide | simp [WShape.has, WShape.arms, WShape.armsAll])
    (show (WTm.eq .res (.lit (.bool true))).value [] { args := args, res := some (.bool true), after := args } = some (.bool (true == true)) from w_eq_bool (w_res rfl) w_lit) rfl

/-! ### the attachment: holds_open's last premise (the goal 'hc' behind k_head) from a wpAny of the law's body -/
theorem attach {l : OpenLaw} {n : Nat} {q : Program} {loose : List Str} {XP : (Str → Option Value) → Heap → Prop} {YP : World → Heap → Prop} {d : DefRec} {x : Str}
    (hn : l.most = some n) (hdf : d.params.defaults = [])
    (hbind : ∀ pm cd doc v : Value, bindArgs (docDef d.name d.params d.body d.scope pm cd doc) ⟨[v], []⟩ = pure [(x, v)])
    (hx : d.scope.names.lookup x = some .local ∨ d.scope.names.lookup x = some .cell)
    (hk : d.scope.kind = .function) (hco : d.scope.isCoroutine = false) (hgen : d.scope.isGenerator = false)
    (body : ∀ (w : World) (s₀ s₁ s : Shared) (mg mb : Str → Option Value) (fa : Addr) (o : Obj) (pm cd doc : Value) (a : Addr) (vs : List Value) (ns : List Int),
      Ground q loose [] XP w s₀ mg mb s₁.heap → YP w s₁.heap →
      s₁.heap.get? fa = some o → o.data = .func (docDef d.name d.params d.body d.scope pm cd doc) → s₁.heap.CodeRec cd d.name → mg d.name = some (.ref fa) →
      s₁.heap.get? a = some { cls := .type "list", data := .seq vs.toArray } → IntsAre vs ns → ns.length ≤ n →
      s.gens = #[] → s.os = s₁.os →
      Fr s₁.heap s₁.heap.objs.size s.heap (bindL (envOfC d.name d.scope s₁.heap.objs.size fa cd).kindOf [(x, .ref a)] fun _ => none) →
      Cl s₁.heap.objs.size (cellsFrom (s₁.heap.objs.size + 1) d.scope.names []) s.heap (bindC (envOfC d.name d.scope s₁.heap.objs.size fa cd).kindOf [(x, .ref a)] fun _ => none) →
      wpAny (model l.prog w) (callerA.deeper (envOfC d.name d.scope s₁.heap.objs.size fa cd)) (execs d.body (envOfC d.name d.scope s₁.heap.objs.size fa cd))
        (fun f s' => f = .ret (.bool true) ∧ OldK s₁.heap s'.heap ∧ s'.os = s₁.os ∧ AllBare s'.gens) (fun _ _ => False) s) :
    WalkO q loose XP YP l.row.toRowW d [] (fun f vs => PySem.call f vs) := by
  intro w s₀ s₁ mg mb G Y fa o pm cd doc dV kV ho hd hcd hD hmg hg args vals as hpre hlay hrd hwl hlo
  obtain rfl : dV = .none := Dflts.none hD hdf
  obtain rfl : kV = .none := Dflts.noKw hD
  obtain ⟨a, vs, ns, rfl, rfl, hobj, hints, hlen⟩ := script_of hn hpre hwl
  refine enter_call ?_
  refine call_cells_ret (o := o) (by rw [depth_caller]; decide) ho (fd_plain hd) G.T.nolimit hcd (hbind pm cd doc (.ref a)) (fun y hy => ?_) (fun h₁ tk F X => ?_) hco hgen hk
  · obtain rfl : y = (x, Value.ref a) := List.mem_singleton.mp hy
    rcases hx with e | e
    · exact .inl e
    · exact .inr ⟨e, cellsFrom_some _ _ _ (.inl e)⟩
  · refine wpAny_mono (body w s₀ s₁ { s₁ with heap := h₁, toks := tk } mg mb fa o pm cd doc a vs ns G Y ho (fd_plain hd) hcd hmg hobj hints hlen hg rfl F X) (fun f s' hq => ?_) (fun _ _ hq => hq)
    obtain ⟨rfl, h2, h3, h4⟩ := hq
    exact ⟨.inl ⟨.bool true, .bool true, [], rfl, fun _ => rfl, .bool true, post_true l _, fun _ => ⟨List.Pairwise.nil, fun _ hm => (nomatch hm)⟩⟩, h2, h3, h4⟩

/-- the same from a codeAny of the CALL (for a layer whose function contracts speak of calls) -/
theorem attach_call {l : OpenLaw} {n : Nat} {q : Program} {loose : List Str} {XP : (Str → Option Value) → Heap → Prop} {YP : World → Heap → Prop} {d : DefRec}
    (hn : l.most = some n) (hdf : d.params.defaults = [])
    (call : ∀ (w : World) (s₀ s₁ : Shared) (mg mb : Str → Option Value) (fa : Addr) (o : Obj) (pm cd doc : Value) (a : Addr) (vs : List Value) (ns : List Int),
      Ground q loose [] XP w s₀ mg mb s₁.heap → YP w s₁.heap →
      s₁.heap.get? fa = some o → o.data = .func (docDef d.name d.params d.body d.scope pm cd doc) → s₁.heap.CodeRec cd d.name → mg d.name = some (.ref fa) →
      s₁.heap.get? a = some { cls := .type "list", data := .seq vs.toArray } → IntsAre vs ns → ns.length ≤ n → s₁.gens = #[] →
      codeAny (model l.prog w) callerA (.call (.ref fa) ⟨[.ref a], []⟩) (fun r s' => r = .ok (.ret (.bool true)) ∧ OldK s₁.heap s'.heap ∧ s'.os = s₁.os ∧ AllBare s'.gens) s₁) :
    WalkO q loose XP YP l.row.toRowW d [] (fun f vs => PySem.call f vs) := by
  intro w s₀ s₁ mg mb G Y fa o pm cd doc dV kV ho hd hcd hD hmg hg args vals as hpre hlay hrd hwl hlo
  obtain rfl : dV = .none := Dflts.none hD hdf
  obtain rfl : kV = .none := Dflts.noKw hD
  obtain ⟨a, vs, ns, rfl, rfl, hobj, hints, hlen⟩ := script_of hn hpre hwl
  refine enter_call (codeAny_mono (call w s₀ s₁ mg mb fa o pm cd doc a vs ns G Y ho (fd_plain hd) hcd hmg hobj hints hlen hg) fun r s' hq => ?_)
  obtain ⟨rfl, h2, h3, h4⟩ := hq
  exact ⟨.inl ⟨.bool true, .bool true, [], rfl, fun _ => rfl, .bool true, post_true l _, fun _ => ⟨List.Pairwise.nil, fun _ hm => (nomatch hm)⟩⟩, h2, h3, h4⟩

/-- the same where the top left finished generators (o_head chose holds_openN): nothing may have changed at all and no generator may be left -/
theorem attachN {l : OpenLaw} {n : Nat} {q : Program} {loose : List Str} {XP : (Str → Option Value) → Heap → Prop} {YP : World → Heap → Prop} {d : DefRec} {x : Str}
    (hn : l.most = some n) (hdf : d.params.defaults = [])
    (hbind : ∀ pm cd doc v : Value, bindArgs (docDef d.name d.params d.body d.scope pm cd doc) ⟨[v], []⟩ = pure [(x, v)])
    (hx : d.scope.names.lookup x = some .local ∨ d.scope.names.lookup x = some .cell)
    (hk : d.scope.kind = .function) (hco : d.scope.isCoroutine = false) (hgen : d.scope.isGenerator = false)
    (body : ∀ (w : World) (s₀ s₁ s : Shared) (mg mb : Str → Option Value) (fa : Addr) (o : Obj) (pm cd doc : Value) (a : Addr) (vs : List Value) (ns : List Int),
      Ground q loose [] XP w s₀ mg mb s₁.heap → YP w s₁.heap →
      s₁.heap.get? fa = some o → o.data = .func (docDef d.name d.params d.body d.scope pm cd doc) → s₁.heap.CodeRec cd d.name → mg d.name = some (.ref fa) →
      s₁.heap.get? a = some { cls := .type "list", data := .seq vs.toArray } → IntsAre vs ns → ns.length ≤ n →
      s.gens = #[] → s.os = s₁.os →
      Fr s₁.heap s₁.heap.objs.size s.heap (bindL (envOfC d.name d.scope s₁.heap.objs.size fa cd).kindOf [(x, .ref a)] fun _ => none) →
      Cl s₁.heap.objs.size (cellsFrom (s₁.heap.objs.size + 1) d.scope.names []) s.heap (bindC (envOfC d.name d.scope s₁.heap.objs.size fa cd).kindOf [(x, .ref a)] fun _ => none) →
      wpAny (model l.prog w) (callerA.deeper (envOfC d.name d.scope s₁.heap.objs.size fa cd)) (execs d.body (envOfC d.name d.scope s₁.heap.objs.size fa cd))
        (fun f s' => f = .ret (.bool true) ∧ (∀ b o, s₁.heap.get? b = some o → s'.heap.get? b = some o) ∧ s'.os = s₁.os ∧ s'.gens = #[]) (fun _ _ => False) s) :
    WalkN q loose XP YP l.row.toRowW d [] (fun f vs => PySem.call f vs) := by
  intro w s₀ s₁ mg mb G Y fa o pm cd doc dV kV ho hd hcd hD hmg hg args vals as hpre hlay hrd hwl hlo
  obtain rfl : dV = .none := Dflts.none hD hdf
  obtain rfl : kV = .none := Dflts.noKw hD
  obtain ⟨a, vs, ns, rfl, rfl, hobj, hints, hlen⟩ := script_of hn hpre hwl
  refine enter_callW ?_
  refine call_cells_ret (o := o) (by rw [depth_caller]; decide) ho (fd_plain hd) G.T.nolimit hcd (hbind pm cd doc (.ref a)) (fun y hy => ?_) (fun h₁ tk F X => ?_) hco hgen hk
  · obtain rfl : y = (x, Value.ref a) := List.mem_singleton.mp hy
    rcases hx with e | e
    · exact .inl e
    · exact .inr ⟨e, cellsFrom_some _ _ _ (.inl e)⟩
  · refine wpAny_mono (body w s₀ s₁ { s₁ with heap := h₁, toks := tk } mg mb fa o pm cd doc a vs ns G Y ho (fd_plain hd) hcd hmg hobj hints hlen hg rfl F X) (fun f s' hq => ?_) (fun _ _ hq => hq)
    obtain ⟨rfl, h2, h3, h4⟩ := hq
    exact ⟨.inl ⟨.bool true, .bool true, [], rfl, fun _ => rfl, .bool true, post_true l _, fun _ => ⟨List.Pairwise.nil, fun _ hm => (nomatch hm)⟩⟩, h2, h3, h4⟩

/-! ### rules over ANY heap (no ledger) from facts about the written part K: the library's own take a ledger (News) for what they write -/
section
variable {prog : Program} {w : World} {A : Around} {E : Value → Shared → Prop} {s : Shared} {K : Frag}

/-- a def of the module, or a method (qual 'C.m'), entered: the frame is the next address; cells behind it -/
theorem call_fn {R : Result → Shared → Prop} {name qual : Str} {params : Arguments} {body : List Stmt} {scope : Scope} {dV kV doc pm cdv ct oc : Value} {an od : Option Addr} {osl : Array (Option Value)} {f : Addr} {args : Args} {binds : List (Str × Value)}
    (X : K.In s.heap) (hlim : s.heap.NoLimit) (ho : K.lookup f = some ⟨oc, od, .func (fnOf name qual params body scope dV kV doc pm an cdv ct), osl⟩) (hcd : codeIn K cdv qual = true) (hroom : A.depth < recursionLimit)
    (hbind : BindsTo s (fnOf name qual params body scope dV kV doc pm an cdv ct) args binds)
    (hkind : (binds.all fun y => scope.names.lookup y.1 == some .local || scope.names.lookup y.1 == some .cell) = true)
    (h : ∀ s₁, InCallC s s.heap.objs.size (bindL (envOfC qual scope s.heap.objs.size f cdv).kindOf binds fun _ => none) (cellsFrom (s.heap.objs.size + 1) scope.names [])
        (bindC (envOfC qual scope s.heap.objs.size f cdv).kindOf binds fun _ => none) s₁ →
      wpAny (model prog w) (A.deeper (envOfC qual scope s.heap.objs.size f cdv)) (execs body (envOfC qual scope s.heap.objs.size f cdv))
        (fun fl s' => R (.ok (.ret (match fl with | .ret v => v | _ => .none))) s')
        (fun e s' => wpAny (model prog w) (A.deeper (envOfC qual scope s.heap.objs.size f cdv)) (leaving (envOfC qual scope s.heap.objs.size f cdv) e) (fun _ s'' => R (.error e) s'') (fun e' s'' => R (.error e') s'') s') s₁)
    (hco : scope.isCoroutine = false) (hgen : scope.isGenerator = false) (hk : scope.kind = .function) : codeAny (model prog w) A (.call (.ref f) args) R s := by
  refine codeAny_call_function hroom (X _ _ ho) rfl hco hgen rfl (codeRec_of X hcd) (hbind _ _ _ _ ?_)
  refine wpAny_newFunctionEnv_cells hk (kindsX hkind _) fun env he s₁ x => ?_
  subst he
  exact ⟨hlim.keeps x.toInCall.keep, codeAny_func (h s₁ x)⟩

/-- C(..): dict at size, instance at size + 1, then __init__ -/
theorem make_obj {R : Result → Shared → Prop} {C fI : Addr} {rest : List Value} {kw : List (Str × Value)}
    (X : K.In s.heap) (hm : makesIn K C = true) (hi : findIn K (.ref C) "__init__" = some (some (.ref fI))) (hf : isFn K (.ref fI) = true)
    (h : codeAny (model prog w) (A.under (.builtin "type.__call__" ⟨.ref C :: rest, kw⟩)) (.call (.ref fI) ⟨.ref (s.heap.objs.size + 1) :: rest, kw⟩) (InitBack (s.heap.objs.size + 1) R)
      { s with heap := (s.heap.push emptyDict).push (instObj C s.heap.objs.size) }) : codeAny (model prog w) A (.call (.ref C) ⟨rest, kw⟩) R s := by
  obtain ⟨hh, g, d, t, os⟩ := s
  exact make_core (makes_of X hm) (looks_findIn X hi) (fun self => bind_fn X self (beq_iff_eq.mp hf)) (.inl rfl) h

/-- x.name where the instance's dict holds the name and the class does not -/
theorem get_field {x C : Addr} {ox : Obj} {es : List DictEntry} {n : Nat} {name : Str} {expr : Bool} {v : Value} {Q : Value → Shared → Prop}
    (X : K.In s.heap) (I : PySem.W.InstAt s.heap x ox C (some (dictOf es n))) (hg : plainGet K C name = true) (hh : hasDictIn K C = true) (ha : findIn K (.ref C) name = some none)
    (hl : getL name es = some (some v)) (hv : handedIn v = true) (h : Q v { s with toks := s.toks + 1 }) : wpAny (model prog w) A (getAttr (.ref x) name expr) Q E s :=
  get_value X I (plainGet_of hg).1 (findObj_own hh ha rfl hl) hv h

/-- x.m(..): the method found in the class -/
theorem get_method {x C f : Addr} {ox : Obj} {es : List DictEntry} {n : Nat} {name : Str} {pl : Sem Bool} {Q : Value × List Value → Shared → Prop}
    (X : K.In s.heap) (I : PySem.W.InstAt s.heap x ox C (some (dictOf es n))) (hg : plainGet K C name = true) (hf : findIn K (.ref C) name = some (some (.ref f))) (ht : isFn K (.ref f) = true)
    (hl : getL name es = some none) (h : Q (.ref f, [.ref x]) s) : wpAny (model prog w) A (getMethod (.ref x) name pl) Q E s :=
  method_fn X I (plainGet_of hg).1 (plainGet_of hg).2 hf (beq_iff_eq.mp ht) (by show (lookIn name (dictOf es n)).map _ = _; rw [lookIn_dict, hl]; rfl) h

/-! the whole heap as the ledger: makes every rule that writes through a ledger a rule over any heap -/
def noObjs (h : Heap) : Heap := { h with objs := #[] }
theorem noObjs_get (h : Heap) (b : Addr) : (noObjs h).get? b = none := by
  cases e : (noObjs h).get? b with
  | none => rfl
  | some o => exact absurd (Heap.lt_size e) (Nat.not_lt_zero _)
def ledger (h : Heap) (L d : Addr) : List (Addr × Obj) := (List.range h.objs.size).filterMap fun a => if a = L ∨ a = d then none else (h.get? a).map fun o => (a, o)
theorem mem_ledger {h : Heap} {L d a : Addr} {o : Obj} : (a, o) ∈ ledger h L d ↔ a ≠ L ∧ a ≠ d ∧ h.get? a = some o := by
  unfold ledger
  rw [List.mem_filterMap]
  constructor
  · rintro ⟨b, _, e⟩
    split at e
    · cases e
    · rename_i hb
      obtain ⟨o', ho, e'⟩ := Option.map_eq_some_iff.mp e
      cases e'
      exact ⟨fun q => hb (.inl q), fun q => hb (.inr q), ho⟩
  · rintro ⟨n1, n2, ho⟩
    refine ⟨a, List.mem_range.mpr (Heap.lt_size ho), ?_⟩
    rw [if_neg (show ¬ (a = L ∨ a = d) from fun q => q.elim n1 n2), ho] <;> rfl
theorem news_ledger {h : Heap} {L d : Addr} {od : Obj} (hne : d ≠ L) (ho : h.get? d = some od) : News (noObjs h) L h ([] ++ (d, od) :: ledger h L d) := by
  rintro ⟨a, o⟩ hp
  rcases List.mem_cons.mp hp with e | hp
  · cases e
    exact ⟨ho, hne, noObjs_get _ _⟩
  · obtain ⟨n1, n2, e⟩ := mem_ledger.mp hp
    exact ⟨e, n1, noObjs_get _ _⟩
theorem fr_all {h : Heap} {L : Addr} {m : Str → Option Value} (n : h.Ns L m) : Fr (noObjs h) L h m :=
  ⟨n, fun b o e => (by rw [noObjs_get] at e; cases e), Nat.zero_le _⟩
/-- Upd of the head entry (for append_K, setItem_K ..) -/
theorem upd_ledger {h : Heap} {L d : Addr} {o o' : Obj} : Upd d o o' ((d, o) :: ledger h L d) ((d, o') :: ledger h L d) :=
  .head fun ⟨_, _⟩ hp => (mem_ledger.mp hp).2.1

/-- x.name = v over any heap: L is any namespace of the heap (the frame's, say): its map stays, its object is not told; all else but the dict stays -/
theorem set_field {x C dx L : Addr} {ox : Obj} {m : Str → Option Value} {es es' : List DictEntry} {n n' : Nat} {name : Str} {v : Value} {Q : Unit → Shared → Prop}
    (X : K.In s.heap) (I : PySem.W.InstAt s.heap x ox C (some (dictOf es n))) (hd : ox.dict = some dx) (hL : s.heap.Ns L m) (hne : dx ≠ L)
    (hs : findIn K (.ref C) "__setattr__" = some (some (.builtin "object.__setattr__"))) (hp : plainOver K C = true) (ht : takerIn K C name = some none) (hh : hasDictIn K C = true) (hl : (getL name es).isSome = true)
    (e : (putL name (PyData.keyHash w.params name) (.str name (s.toks + 1)) v es, putN name es n) = (es', n')) (hz : es'.length ≤ 1000)
    (h : ∀ h' : Heap, h'.Ns L m → h'.get? dx = some (dictOf es' n') → (∀ b o, b ≠ dx → b ≠ L → s.heap.get? b = some o → h'.get? b = some o) → Q () { s with heap := h', toks := s.toks + 2 }) :
    wpAny (model prog w) A (setAttr (.ref x) name v) Q E s := by
  obtain ⟨e1, e2⟩ := Prod.mk.inj e
  have hdx : s.heap.get? dx = some (dictOf es n) := by
    have := I.dict
    rw [hd] at this
    exact this
  refine set_plain X I hs (osa_dict (s := { s with toks := s.toks + 1 }) (h₀ := noObjs s.heap) (L := L) (m := m) (od := dictOf es n) (od' := dictOf es' n') (es := es') (n := n') (pre := []) (post := ledger s.heap L dx)
    (fr_all hL) (news_ledger hne hdx) X I hd hp ht hh hl (fun _ q => nomatch q) (fun ⟨_, _⟩ q => (mem_ledger.mp q).2.1) (by rw [putName_dict, e1, e2]) rfl hz fun h' F' N' => ?_)
  exact h h' F'.ns (N'.get (List.Mem.head _)) fun b o n1 n2 ho => N'.get (List.Mem.tail _ (mem_ledger.mpr ⟨n2, n1, ho⟩))
end
end Att

namespace L2
open PySem PySem.Spec PyProof.Rows

theorem vals_ints : ∀ {vs : List Value} {ns : List Int}, IntsAre vs ns → Vals (ns.map V.int) vs
  | _, _, .nil => .nil
  | _, _, .cons n t h => .cons ⟨t, rfl⟩ (vals_ints h)

/-- nothing is tracked but the script, known to the object (or it is an object of the module) -/
def Only (H : Hp) : Prop := ∀ b, H b = none ∨ ∃ o xs, H b = some (.frz o (.lst xs))

/-- THE HEAD: the law's promise, at the heap behind the top. F, the promise of the law's def, may use that base is part of the heap (so K.In base, base.Ns mainGlobals mg stand in Mod) -/
theorem law_call {P : Program} {w : World} {K : PySem.W.Frag} {mg mb : Str → Option Value} {CX : CXT} {k : Nat} {fa a : Addr} {fd : FuncData} {x : Str} {sp : Sp} {s₁ : Shared} {vs : List Value} {ns : List Int}
    (KX : K.In s₁.heap) (hns : s₁.heap.Ns mainGlobals mg) (hb : s₁.heap.Ns builtinsNs mb) (hbb : ∀ x : Str, x ≠ "__name__" → mb x = bootBuiltins x) (hlim : s₁.heap.NoLimit) (hg : s₁.gens = #[])
    (ha : s₁.heap.get? a = some { cls := .type "list", data := .seq vs.toArray }) (hi : IntsAre vs ns) (hl : ns.length ≤ sizeLine) (hr : Room k callerA)
    (F : ∀ base : Heap, K.In base → base.Ns mainGlobals mg → FnOk P w K mg base CX k fa fd [x] sp) (hbind : ∀ (s : Shared) (u : Value), BindsTo s fd ⟨[u], []⟩ [(x, u)])
    (hsp : ∀ H : Hp, Only H → SqL K H a (ns.map V.int) → sp [.ref a] H (fun v _ => v = .bl true) fun _ _ _ => False)
    (hCX : ∀ H e s', CX [] H s₁ (fun _ _ _ => False) e s' → False) :
    codeAny (model P w) callerA (.call (.ref fa) ⟨[.ref a], []⟩) (fun r s' => r = .ok (.ret (.bool true)) ∧ OldK s₁.heap s'.heap ∧ s'.os = s₁.os ∧ AllBare s'.gens) s₁ := by
  have rv := vals_ints hi
  have lenV := hi.length
  -- from an abstract heap in which nothing but the script may be tracked
  have core : ∀ H : Hp, Only H → SqL K H a (ns.map V.int) → HOk P w H s₁.heap → (∀ b, H b ≠ none → b = a) → (H a ≠ none → K.lookup a = none) →
      codeAny (model P w) callerA (.call (.ref fa) ⟨[.ref a], []⟩) (fun r s' => r = .ok (.ret (.bool true)) ∧ OldK s₁.heap s'.heap ∧ s'.os = s₁.os ∧ AllBare s'.gens) s₁ := by
    intro H hO hS hok hA hK
    have base_of : ∀ {b : Addr} {o : Obj}, s₁.heap.get? b = some o → H b = none → (hidT s₁.heap H).get? b = some o := fun e n => hidT_get e n
    have noA : ∀ {b : Addr} {o : Obj} {es : Array DictEntry} {ep : Nat}, s₁.heap.get? b = some o → o.data = .dict es ep → H b = none := fun {b o es ep} e d => by
      cases q : H b with
      | none => rfl
      | some u =>
        have e' : b = a := hA b (by rw [q]; simp)
        subst e'
        rw [ha] at e; cases e
        have d' : Data.seq vs.toArray _ = Data.dict es ep := d
        cases d'
    have nsK : ∀ {b : Addr} {m : Str → Option Value}, s₁.heap.Ns b m → (hidT s₁.heap H).Ns b m := fun {b m} ⟨o, es, ep, e, d, r⟩ => ⟨o, es, ep, base_of e (noA e d), d, r⟩
    have hKb : K.In (hidT s₁.heap H) := fun b o e => base_of (KX b o e) (by
      cases q : H b with
      | none => rfl
      | some u =>
        have e' : b = a := hA b (by rw [q]; simp)
        subst e'
        rw [hK (by rw [q]; simp)] at e; cases e)
    have hM : Mod K mg (hidT s₁.heap H) := ⟨hKb, nsK hns, ⟨mb, nsK hb, hbb⟩, let ⟨mc, h1, h2⟩ := hlim; ⟨mc, nsK h1, h2⟩⟩
    have e0 : Env0 P w K mg (hidT s₁.heap H) callerA [] s₁ H := ⟨rfl, hM, fun b o e => of_hidT e, Nat.le_of_eq (hidT_size _ _), trivial, fun b hb => absurd (show b ∈ ([] : List Addr) from hb) (by simp), hok, .of_eq hg⟩
    refine codeAny_mono ((F _ hKb (nsK hns)).run callerA [] s₁ H ⟨[.ref a], []⟩ [.ref a] [.ref a] _ _ hr e0 (hbind s₁ (.ref a)) (.cons rfl .nil) (hsp H hO hS)) fun r s' h => ?_
    cases r with
    | error e => exact (hCX H e s' h).elim
    | ok fl =>
      cases fl with
      | next => exact False.elim h
      | brk => exact False.elim h
      | cont => exact False.elim h
      | ret u =>
        obtain ⟨v, H', os, bare, un, hok', r', q⟩ := h
        have q' : v = .bl true := q
        subst q'
        obtain rfl : u = Value.bool true := r'
        refine ⟨rfl, OldK.of_keep fun b o e => ?_, os, bare⟩
        cases q : H b with
        | none => exact un.keep b o e q (by intro z; exact absurd (show b ∈ ([] : List Addr) from z) (by simp)) (by simp)
        | some u =>
          rcases hO b with z | ⟨ob, xs, z⟩
          · rw [q] at z; cases z
          · have z2 := un.frzs b ob _ z
            obtain ⟨e1, _⟩ := hok b _ z
            obtain ⟨e2, _⟩ := hok' b _ z2
            rw [e] at e1; cases e1
            exact e2
  cases hk : K.lookup a with
  | some o =>
    -- the script is one of the module's own objects
    have e := KX a o hk
    rw [ha] at e
    cases e
    refine core (fun _ => none) (fun _ => .inl rfl) (.inr ⟨_, vs.toArray, _, hk, rfl, rfl, rfl, by rw [List.size_toArray, lenV]; exact hl, by simpa using rv⟩) (fun b u z => by have z' : (none : Option HO) = some u := z; cases z') (fun b z => absurd rfl z) fun z => absurd rfl z
  | none =>
    refine core (fun b => if b = a then some (.frz { cls := .type "list", data := .seq vs.toArray } (.lst (ns.map V.int))) else none) (fun b => ?_) (.inl (.inr ⟨{ cls := .type "list", data := .seq vs.toArray }, if_pos rfl⟩)) (fun b u z => ?_) (fun b z => ?_) fun _ => hk
    · by_cases hb : b = a
      · exact .inr ⟨_, _, if_pos hb⟩
      · exact .inl (if_neg hb)
    · by_cases hb : b = a
      · have z' := (if_pos hb).symm.trans z
        cases z'
        subst hb
        exact ⟨ha, by rw [List.length_map]; exact hl, vs, _, rv, ha⟩
      · have z' := (if_neg hb).symm.trans z
        cases z'
    · by_cases hb : b = a
      · exact hb
      · exact absurd (if_neg hb) z
end L2

namespace L2
open PySem PySem.Spec PyProof.Rows

abbrev KOf {K : PySem.W.Frag} {h : Heap} (_ : K.In h) : PySem.W.Frag := K

/-- the goal that k_head leaves (case hc), from the law's promise. F gives the function object fd (K's own) once, then the promise over every base -/
theorem walk_of {l : PySem.W.OpenLaw} {n k : Nat} {q : Program} {loose : List Str} {XP : (Str → Option Value) → Heap → Prop} {YP : World → Heap → Prop} {d : DefRec} {K : Params → PySem.W.Frag} {CX : World → CXT} {sp : World → Sp} {x : Str}
    (hn : l.most = some n) (hn2 : n ≤ sizeLine) (hdf : d.params.defaults = []) (hr : Room k callerA)
    (hY : ∀ (w : World) (h : Heap), YP w h → (K w.params).In h)
    (F : ∀ (w : World) (mg : Str → Option Value) (fa : Addr) (h : Heap), (K w.params).In h → h.Ns mainGlobals mg → mg d.name = some (.ref fa) →
      ∃ fd : FuncData, (∀ (s : Shared) (u : Value), BindsTo s fd ⟨[u], []⟩ [(x, u)]) ∧
        ∀ base : Heap, (K w.params).In base → base.Ns mainGlobals mg → FnOk l.prog w (K w.params) mg base (CX w) k fa fd [x] (sp w))
    (hsp : ∀ (w : World) (H : Hp) (a : Addr) (ns : List Int), ns.length ≤ n → Only H → SqL (K w.params) H a (ns.map V.int) → sp w [.ref a] H (fun v _ => v = .bl true) fun _ _ _ => False)
    (hCX : ∀ (w : World) (H : Hp) (s : Shared) (e : Value) (s' : Shared), CX w [] H s (fun _ _ _ => False) e s' → False) :
    PySem.W.WalkO q loose XP YP l.row.toRowW d [] (fun f vs => PySem.call f vs) := by
  refine Att.attach_call hn hdf fun w s₀ s₁ mg mb fa o pm cd doc a vs ns G Y ho hd hcd hmg hobj hints hlen hg => ?_
  have KX := hY w _ Y
  obtain ⟨fd, hb, hF⟩ := F w mg fa _ KX G.T.g hmg
  exact law_call KX G.T.g G.T.b G.T.builtins G.T.nolimit hg hobj hints (Nat.le_trans hlen hn2) hr hF hb (fun H hO hS => hsp w H a ns hlen hO hS) fun H e s' => hCX w H s₁ e s'
/-- the same where the promise hangs on the written part alone: (sp := My.sp_law), no hole under a binder -/
theorem walk_ofK {l : PySem.W.OpenLaw} {n k : Nat} {q : Program} {loose : List Str} {XP : (Str → Option Value) → Heap → Prop} {YP : World → Heap → Prop} {d : DefRec} {K : Params → PySem.W.Frag} {CX : CXT} {sp : PySem.W.Frag → Sp} {x : Str}
    (hn : l.most = some n) (hn2 : n ≤ sizeLine) (hdf : d.params.defaults = []) (hr : Room k callerA)
    (hY : ∀ (w : World) (h : Heap), YP w h → (K w.params).In h)
    (F : ∀ (w : World) (mg : Str → Option Value) (fa : Addr) (h : Heap), (K w.params).In h → h.Ns mainGlobals mg → mg d.name = some (.ref fa) →
      ∃ fd : FuncData, (∀ (s : Shared) (u : Value), BindsTo s fd ⟨[u], []⟩ [(x, u)]) ∧
        ∀ base : Heap, (K w.params).In base → base.Ns mainGlobals mg → FnOk l.prog w (K w.params) mg base CX k fa fd [x] (sp (K w.params)))
    (hsp : ∀ (K : PySem.W.Frag) (H : Hp) (a : Addr) (ns : List Int), ns.length ≤ n → Only H → SqL K H a (ns.map V.int) → sp K [.ref a] H (fun v _ => v = .bl true) fun _ _ _ => False)
    (hCX : ∀ (H : Hp) (s : Shared) (e : Value) (s' : Shared), CX [] H s (fun _ _ _ => False) e s' → False) :
    PySem.W.WalkO q loose XP YP l.row.toRowW d [] (fun f vs => PySem.call f vs) :=
  walk_of (K := K) (CX := fun _ => CX) (sp := fun w => sp (K w.params)) hn hn2 hdf hr hY F (fun w H a ns h1 h2 h3 => hsp (K w.params) H a ns h1 h2 h3) fun _ H s e s' => hCX H s e s'
end L2

/- THE LAST THEOREM (shape; LID, My.* are yours):
   My.Adr: a structure of the addresses that your layer names (classes, functions); My.Txt K t: a structure (Prop) of the equations over K;
   My.txt_mk : {K} {implicit addresses ..} (e1 : nsIn K mainGlobals "law" = some (some (.ref f))) (e2 : K.lookup f = some ⟨oc, od, .func (fnOf "law" "law" params body scope dV kV doc pm an cdv ct), sl⟩) (e3 : codeIn K cdv "law" = true) .. : ∃ t, My.Txt K t

set_option maxRecDepth 100000 in
set_option maxHeartbeats 0 in
theorem PySem.Challenge.cw_LID_holds : PySem.Challenge.rw_LID.Holds := by
  w_on; o_law; k_head; (case hw => w_witness2)
  k_fill
  refine L2.walk_of (l := PySem.Challenge.rw_LID) (n := 63) (k := 40) (x := "script") (CX := fun w => ..) (sp := fun _ => My.sp_law) rfl (by decide) rfl ⟨rfl, by decide, by decide⟩ (fun w h Y => PySem.W.kIn_of Y) ?F ?S ?C
  case F =>
    intro w mg fa h KX G hmg
    have T : ∃ t, My.Txt (L2.KOf KX) t := by
      dsimp only [L2.KOf]                          -- K must stand as «<heap const> w.params» for k_is
      refine' My.txt_mk ?e1 ?e2 ?e3 ..
      (case e1 => PySem.W.k_is)                    -- in the order: a name -> its address -> its object -> its parts
      (case e2 => PySem.W.k_is)
      ..
    obtain ⟨t, T⟩ := T
    have e0 := hmg.symm.trans (PySem.W.mg_of KX G T.law)
    cases e0                                       -- fa is the law's own address
    exact ⟨_, fun s u => .of_eq rfl, fun base kb nb => My.law_fn T kb nb⟩     -- if «.of_eq rfl» comes too early: refine' ⟨_, ?b, fun base kb nb => My.law_fn T kb nb⟩; exact fun s u => .of_eq rfl
  case S => exact fun w H a ns hl hO hS => ..
  case C => exact ..
(the tactic k_is has no namespace: write k_is) -/

/-! SHORT WORDS over the layer: a def of the text, its body, what a loop and a test want. -/
namespace L2
open PySem PySem.Spec PyProof.Rows

/-! ### the text by places -/
/-- the j-th statement of a class's body -/
def inClass (s : Stmt) (j : Nat) : Stmt := match s with
  | .ClassDef _ _ _ body _ _ _ _ _ _ _ => body.getD j (.Pass ⟨0, 0, 0, 0⟩)
  | _ => .Pass ⟨0, 0, 0, 0⟩
def defArgs (s : Stmt) : Arguments := match s with
  | .FunctionDef _ a _ _ _ _ _ _ _ _ => a
  | _ => { posonlyargs := [], args := [], vararg := none, kwonlyargs := [], kw_defaults := [], kwarg := none, defaults := [] }
def defBody (s : Stmt) : List Stmt := match s with
  | .FunctionDef _ _ b _ _ _ _ _ _ _ => b
  | _ => []
def defScope (s : Stmt) : Scope := match s with
  | .FunctionDef _ _ _ _ _ _ sc _ _ _ => sc
  | _ => { kind := .function, names := [], isGenerator := false, isCoroutine := false }

/-! ### no exception leaves a def -/
abbrev CX0 : CXT := fun _ _ _ _ _ _ => False
abbrev E0 : XK := fun _ _ _ => False
theorem pass0 {X : Cx} : Passes CX0 X E0 := fun _ _ _ _ _ _ _ h => h.elim

/-! ### a def (or method) of the text as it stands behind the top -/
structure Fun (K : PySem.W.Frag) (x qual : Str) (st : Stmt) (f : Addr) (fd : FuncData) : Prop where
  ex : ∃ (oc : Value) (od : Option Addr) (kV doc pm : Value) (an : Option Addr) (cdv ct : Value) (osl : Array (Option Value)),
    fd = PySem.W.fnOf x qual (defArgs st) (defBody st) (defScope st) .none kV doc pm an cdv ct ∧ K.lookup f = some ⟨oc, od, .func fd, osl⟩ ∧ PySem.W.codeIn K cdv qual = true
  kp : PySem.W.keepIn K (.ref f) = true
section
variable {P : Program} {w : World} {K : PySem.W.Frag} {mg : Str → Option Value} {base : Heap}
/-- THE RULE for a def: its body as a term of rules, and the reading of that term -/
theorem Fun.ok {x qual : Str} {st : Stmt} {f : Addr} {fd : FuncData} {N ps : List Str} {k : Nat} {sp : Sp} (F : Fun K x qual st f fd) (S : FnScope N ps (defScope st)) (len : ∀ vs H Q E, sp vs H Q E → vs.length = ps.length)
    (hbody : ∀ (cdv : Value) (A : Around) (outer : List Env) (s : Shared) (H : Hp) (vs : List V) (Q : VK) (E : XK), Room k (A.deeper (envOfC qual (defScope st) s.heap.objs.size f cdv)) → sp vs H Q E →
      ∃ t, PSs (cxOf CX0 P w K mg base N qual (defScope st) f cdv A outer s H E).nox (defBody st) t ∧ t { nx := fun _ H' => Q .non H', rt := Q } (start N vs) H) : FnOk P w K mg base CX0 (k + 1) f fd ps sp := by
  obtain ⟨oc, od, kV, doc, pm, an, cdv, ct, osl, rfl, lk, hcd⟩ := F.ex
  refine fn_of lk hcd S len fun A outer s H vs Q E hr hsp => ?_
  obtain ⟨t, h, q⟩ := hbody cdv A outer s H vs Q E hr hsp
  exact ⟨t, h.nox, q⟩
/-- how its arguments bind (no defaults): h is «fun _ _ _ _ _ _ us hl => match us, hl with | [_, _], _ => rfl», one _ a parameter -/
theorem Fun.binds {x qual : Str} {st : Stmt} {f : Addr} {fd : FuncData} {ps : List Str} (F : Fun K x qual st f fd)
    (h : ∀ (kV doc pm : Value) (an : Option Addr) (cdv ct : Value) (us : List Value), us.length = ps.length → bindArgs (PySem.W.fnOf x qual (defArgs st) (defBody st) (defScope st) .none kV doc pm an cdv ct) ⟨us, []⟩ = pure (ps.zip us)) : Binds K fd ps [] := by
  obtain ⟨oc, od, kV, doc, pm, an, cdv, ct, osl, rfl, lk, hcd⟩ := F.ex
  exact .all (h kV doc pm an cdv ct)
theorem fun_mk {x qual : Str} {st : Stmt} {f : Addr} {oc : Value} {od an : Option Addr} {osl : Array (Option Value)} {kV doc pm cdv ct : Value} (l : K.lookup f = some ⟨oc, od, .func (PySem.W.fnOf x qual (defArgs st) (defBody st) (defScope st) .none kV doc pm an cdv ct), osl⟩)
    (c : PySem.W.codeIn K cdv qual = true) (k : PySem.W.keepIn K (.ref f) = true) : Fun K x qual st f (PySem.W.fnOf x qual (defArgs st) (defBody st) (defScope st) .none kV doc pm an cdv ct) := ⟨⟨oc, od, kV, doc, pm, an, cdv, ct, osl, rfl, l, c⟩, k⟩
end
theorem hu_of {A : Around} {k : Nat} (hr : Room k A) : A.units + 1 < cLine := Nat.lt_of_le_of_lt (Nat.add_le_add_left (by decide : 1 ≤ 64) _) hr.units
theorem small1000 {n : Nat} (h : n ≤ 1000) : n < sizeLine := Nat.lt_of_le_of_lt h (by decide)

/-! ### expressions in short: the name that stands in the i-th slot -/
section
variable {X : Cx}
theorem pv (i : Nat) {x : Str} {pos : Pos} (hN : X.N[i]? = some x := by rfl) (hv : Vis X.env.scope x := by first | exact Or.inl rfl | exact Or.inr (Or.inl rfl) | exact Or.inr (Or.inr rfl)) (hd : (x == ("__debug__" : Str)) = false := by decide)
    (hcd : (x == ("__classdict__" : Str)) = false := by decide) : PE X (.Name x pos) (tVar i) := pe_var hN hv hd hcd
end

/-! ### tests -/
theorem iteF {A B : Prop} (h : B) : if false = true then A else B := by
  rw [if_neg Bool.false_ne_true]
  exact h
theorem iteT {A B : Prop} (h : A) : if true = true then A else B := by
  rw [if_pos rfl]
  exact h
theorem ite2 {c A B : Prop} [Decidable c] (h1 : c → A) (h2 : ¬ c → B) : if c then A else B := by
  by_cases h : c
  · rw [if_pos h]
    exact h1 h
  · rw [if_neg h]
    exact h2 h
theorem iteNS {c A B : Prop} [Decidable c] (hc : c) (h : B) : if (!decide c) = true then A else B := by
  rw [decide_eq_true hc]
  exact iteF h

/-! ### heaps -/
/-- all that was tracked is as it was -/
def Same (H H' : Hp) : Prop := ∀ b o, H b = some o → H' b = some o
theorem Same.refl (H : Hp) : Same H H := fun _ _ h => h
theorem Same.trans {H H1 H2 : Hp} (a : Same H H1) (b : Same H1 H2) : Same H H2 := fun c o h => b c o (a c o h)
theorem Same.free {H H' : Hp} (e : Same H H') {l : Addr} (h : H' l = Option.none) : H l = Option.none := by
  cases q : H l with
  | none => rfl
  | some o =>
    rw [e l o q] at h
    cases h
theorem Same.seq {K : PySem.W.Frag} {H H' : Hp} {a : Addr} {xs : List V} (e : Same H H') (h : SqL K H a xs) : SqL K H' a xs := by
  rcases h with (h | ⟨o, h⟩) | h
  · exact .inl (.inl (e _ _ h))
  · exact .inl (.inr ⟨o, e _ _ h⟩)
  · exact .inr h

end L2
set_option Elab.async false
set_option linter.all false
set_option maxRecDepth 100000
set_option maxHeartbeats 4000000
namespace M
open PySem PySem.Spec PyProof.Rows L2

/-! ### data without a heap -/
abbrev DK := Sum Int (List Nat)
inductive D where
  | non | bl (b : Bool) | int (i : Int) | str (x : List Nat) | tup (xs : List D) | lst (xs : List D) | dic (ks : List DK) (vs : List D) | ref (k : Nat)
def dk : DK → Key
  | .inl i => .inl i
  | .inr x => .inr ⟨x.toArray⟩
/-- what stands at a changing thing's place -/
inductive Cell where
  | lst (ds : List D) | dic (ks : List DK) (vs : List D) | dead
abbrev Mu := List Cell
structure Exc where
  c : Nat
  d : D
inductive Res (α : Type) where
  | ok (a : α) (μ : Mu)
  | exc (x : Exc) (μ : Mu)
  | bad
def Res.bind {α β : Type} : Res α → (α → Mu → Res β) → Res β
  | .ok a μ, f => f a μ
  | .exc x μ, _ => .exc x μ
  | .bad, _ => .bad
def ofO {α : Type} (μ : Mu) : Option α → Res α
  | some a => .ok a μ
  | none => .bad
@[simp] theorem bind_ok {α β : Type} (a : α) (μ : Mu) (f : α → Mu → Res β) : (Res.ok a μ).bind f = f a μ := rfl
@[simp] theorem bind_exc {α β : Type} (x : Exc) (μ : Mu) (f : α → Mu → Res β) : (Res.exc x μ : Res α).bind f = .exc x μ := rfl
@[simp] theorem bind_bad {α β : Type} (f : α → Mu → Res β) : (Res.bad : Res α).bind f = .bad := rfl
@[simp] theorem ofO_some {α : Type} (μ : Mu) (a : α) : ofO μ (some a) = .ok a μ := rfl
@[simp] theorem ofO_none {α : Type} (μ : Mu) : ofO μ (none : Option α) = .bad := rfl
def deref (μ : Mu) : D → D
  | .ref k => match μ[k]? with
    | some (.lst ds) => .lst ds
    | some (.dic ks vs) => .dic ks vs
    | _ => .ref k
  | d => d
@[simp] theorem deref_non (μ : Mu) : deref μ .non = .non := rfl
@[simp] theorem deref_bl (μ : Mu) (b : Bool) : deref μ (.bl b) = .bl b := rfl
@[simp] theorem deref_int (μ : Mu) (i : Int) : deref μ (.int i) = .int i := rfl
@[simp] theorem deref_str (μ : Mu) (x : List Nat) : deref μ (.str x) = .str x := rfl
@[simp] theorem deref_tup (μ : Mu) (x : List D) : deref μ (.tup x) = .tup x := rfl
@[simp] theorem deref_lst (μ : Mu) (x : List D) : deref μ (.lst x) = .lst x := rfl
@[simp] theorem deref_dic (μ : Mu) (x : List DK) (y : List D) : deref μ (.dic x y) = .dic x y := rfl

abbrev En := List (Option D)
abbrev MX := En → Mu → Res D
abbrev MB := En → Mu → Res Bool
abbrev MAs := En → Mu → Res (List D)
inductive Out where
  | nx (ρ : En) | rt (d : D) | bk (ρ : En) | ct (ρ : En)
abbrev MSt := En → Mu → Res Out

/-! ### how data lies in the heap -/
mutual
def Rep (K : PySem.W.Frag) (F : Hp) (α : List Addr) : D → V → Prop
  | .non, v => v = .non
  | .bl b, v => v = .bl b
  | .int i, v => v = .int i
  | .str x, v => v = .str ⟨x.toArray⟩
  | .tup ds, v => ∃ a vs, v = .ref a ∧ SqT K F a vs ∧ Reps K F α ds vs
  | .lst ds, v => ∃ a vs, v = .ref a ∧ SqL K F a vs ∧ Reps K F α ds vs
  | .dic ks ds, v => ∃ a vs, v = .ref a ∧ F a = some (.dK ((ks.map dk).zip vs)) ∧ ks.length = ds.length ∧ Reps K F α ds vs
  | .ref k, v => ∃ a, α[k]? = some a ∧ v = .ref a
def Reps (K : PySem.W.Frag) (F : Hp) (α : List Addr) : List D → List V → Prop
  | [], vs => vs = []
  | d :: ds, vs => ∃ v r, vs = v :: r ∧ Rep K F α d v ∧ Reps K F α ds r
end
/-- more is frozen, more things change -/
structure Ext (α : List Addr) (F : Hp) (α' : List Addr) (F' : Hp) : Prop where
  fr : Same F F'
  al : ∀ (k : Nat) (a : Addr), α[k]? = some a → α'[k]? = some a
theorem Ext.refl (α : List Addr) (F : Hp) : Ext α F α F := ⟨Same.refl F, fun _ _ h => h⟩
theorem Ext.trans {α α1 α2 : List Addr} {F F1 F2 : Hp} (a : Ext α F α1 F1) (b : Ext α1 F1 α2 F2) : Ext α F α2 F2 := ⟨a.fr.trans b.fr, fun k x h => b.al k x (a.al k x h)⟩
theorem Same.tup {K : PySem.W.Frag} {H H' : Hp} {a : Addr} {xs : List V} (e : Same H H') (h : SqT K H a xs) : SqT K H' a xs := by
  rcases h with (h | ⟨o, h⟩) | h
  · exact .inl (.inl (e _ _ h))
  · exact .inl (.inr ⟨o, e _ _ h⟩)
  · exact .inr h
section
variable {K : PySem.W.Frag} {F F' H H' : Hp} {α α' : List Addr}
mutual
theorem Rep.mono (e : Ext α F α' F') : ∀ {d : D} {v : V}, Rep K F α d v → Rep K F' α' d v
  | .non, _, h => h
  | .bl _, _, h => h
  | .int _, _, h => h
  | .str _, _, h => h
  | .tup ds, v, h => by
    unfold Rep at h ⊢
    obtain ⟨a, vs, hv, hs, hr⟩ := h
    exact ⟨a, vs, hv, Same.tup e.fr hs, Reps.mono e hr⟩
  | .lst ds, v, h => by
    unfold Rep at h ⊢
    obtain ⟨a, vs, hv, hs, hr⟩ := h
    exact ⟨a, vs, hv, e.fr.seq hs, Reps.mono e hr⟩
  | .dic ks ds, v, h => by
    unfold Rep at h ⊢
    obtain ⟨a, vs, hv, hs, hl, hr⟩ := h
    exact ⟨a, vs, hv, e.fr _ _ hs, hl, Reps.mono e hr⟩
  | .ref k, v, h => by
    unfold Rep at h ⊢
    obtain ⟨a, ha, hv⟩ := h
    exact ⟨a, e.al k a ha, hv⟩
theorem Reps.mono (e : Ext α F α' F') : ∀ {ds : List D} {vs : List V}, Reps K F α ds vs → Reps K F' α' ds vs
  | [], _, h => h
  | d :: ds, vs, h => by
    unfold Reps at h ⊢
    obtain ⟨v, r, hv, h1, h2⟩ := h
    exact ⟨v, r, hv, Rep.mono e h1, Reps.mono e h2⟩
end
theorem Reps.length : ∀ {ds : List D} {vs : List V}, Reps K F α ds vs → ds.length = vs.length
  | [], vs, h => by unfold Reps at h; subst h; rfl
  | d :: ds, vs, h => by
    unfold Reps at h
    obtain ⟨v, r, hv, _, h2⟩ := h
    subst hv
    simp [Reps.length h2]
theorem Reps.get : ∀ {ds : List D} {vs : List V} {i : Nat} {d : D}, Reps K F α ds vs → ds[i]? = some d → ∃ v, vs[i]? = some v ∧ Rep K F α d v
  | [], _, _, _, _, e => by simp at e
  | d :: ds, vs, 0, d', h, e => by
    unfold Reps at h
    obtain ⟨v, r, hv, h1, _⟩ := h
    subst hv
    simp at e
    subst e
    exact ⟨v, rfl, h1⟩
  | d :: ds, vs, i + 1, d', h, e => by
    unfold Reps at h
    obtain ⟨v, r, hv, _, h2⟩ := h
    subst hv
    obtain ⟨u, hu, hr⟩ := Reps.get (i := i) (d := d') h2 (by simpa using e)
    exact ⟨u, by simpa using hu, hr⟩
theorem Reps.append : ∀ {ds es : List D} {vs us : List V}, Reps K F α ds vs → Reps K F α es us → Reps K F α (ds ++ es) (vs ++ us)
  | [], _, _, _, h, h' => by unfold Reps at h; subst h; exact h'
  | d :: ds, es, vs, us, h, h' => by
    unfold Reps at h
    obtain ⟨v, r, hv, h1, h2⟩ := h
    subst hv
    show Reps K F α (d :: (ds ++ es)) (v :: (r ++ us))
    unfold Reps
    exact ⟨v, _, rfl, h1, Reps.append h2 h'⟩
theorem reps_nil : Reps K F α [] [] := by unfold Reps; rfl
theorem reps_cons {d : D} {ds : List D} {v : V} {vs : List V} (h : Rep K F α d v) (h' : Reps K F α ds vs) : Reps K F α (d :: ds) (v :: vs) := by unfold Reps; exact ⟨v, vs, rfl, h, h'⟩
theorem Reps.one {d : D} {vs : List V} (h : Reps K F α [d] vs) : ∃ v, vs = [v] ∧ Rep K F α d v := by
  unfold Reps at h
  obtain ⟨v, r, hv, h1, h2⟩ := h
  unfold Reps at h2
  subst h2
  exact ⟨v, hv, h1⟩
theorem Reps.two {d e : D} {vs : List V} (h : Reps K F α [d, e] vs) : ∃ v u, vs = [v, u] ∧ Rep K F α d v ∧ Rep K F α e u := by
  unfold Reps at h
  obtain ⟨v, r, hv, h1, h2⟩ := h
  obtain ⟨u, hr, h3⟩ := h2.one
  subst hr
  exact ⟨v, u, hv, h1, h3⟩
theorem Reps.three {d e f : D} {vs : List V} (h : Reps K F α [d, e, f] vs) : ∃ v u w, vs = [v, u, w] ∧ Rep K F α d v ∧ Rep K F α e u ∧ Rep K F α f w := by
  unfold Reps at h
  obtain ⟨v, r, hv, h1, h2⟩ := h
  obtain ⟨u, w, hr, h3, h4⟩ := h2.two
  subst hr
  exact ⟨v, u, w, hv, h1, h3, h4⟩
theorem Reps.take : ∀ {ds : List D} {vs : List V} (n : Nat), Reps K F α ds vs → Reps K F α (ds.take n) (vs.take n)
  | _, _, 0, _ => by simp; exact reps_nil
  | [], vs, n + 1, h => by unfold Reps at h; subst h; exact reps_nil
  | d :: ds, vs, n + 1, h => by
    unfold Reps at h
    obtain ⟨v, r, hv, h1, h2⟩ := h
    subst hv
    simp only [List.take_succ_cons]
    exact reps_cons h1 (Reps.take n h2)
theorem Reps.drop : ∀ {ds : List D} {vs : List V} (n : Nat), Reps K F α ds vs → Reps K F α (ds.drop n) (vs.drop n)
  | _, _, 0, h => h
  | [], vs, n + 1, h => by unfold Reps at h; subst h; exact reps_nil
  | d :: ds, vs, n + 1, h => by
    unfold Reps at h
    obtain ⟨v, r, hv, h1, h2⟩ := h
    subst hv
    exact Reps.drop n h2
theorem Reps.set {d : D} {v : V} (h' : Rep K F α d v) : ∀ {ds : List D} {vs : List V} (n : Nat), Reps K F α ds vs → Reps K F α (ds.set n d) (vs.set n v)
  | [], vs, n, h => by unfold Reps at h; subst h; exact reps_nil
  | e :: ds, vs, 0, h => by
    unfold Reps at h
    obtain ⟨u, r, hv, h1, h2⟩ := h
    subst hv
    exact reps_cons h' h2
  | e :: ds, vs, n + 1, h => by
    unfold Reps at h
    obtain ⟨u, r, hv, h1, h2⟩ := h
    subst hv
    exact reps_cons h1 (Reps.set h' n h2)
end

/-! ### the state -/
def CellOk (K : PySem.W.Frag) (α : List Addr) (F H : Hp) (a : Addr) : Cell → Prop
  | .lst ds => F a = none ∧ ∃ vs, H a = some (.lst vs) ∧ Reps K F α ds vs
  | .dic ks ds => F a = none ∧ ∃ vs, H a = some (.dK ((ks.map dk).zip vs)) ∧ ks.length = ds.length ∧ Reps K F α ds vs
  | .dead => True
structure RH (K : PySem.W.Frag) (Z : Hp) (α : List Addr) (F H : Hp) (μ : Mu) : Prop where
  sub : Same F H
  len : α.length = μ.length
  cell : ∀ (k : Nat) (a : Addr) (c : Cell), α[k]? = some a → μ[k]? = some c → CellOk K α F H a c
  zs : Same Z H
  zf : ∀ (a : Addr) (o : HO), Z a = some o → F a = none
  zc : ∀ (k : Nat) (a : Addr) (c : Cell), α[k]? = some a → μ[k]? = some c → c ≠ .dead → Z a = none
  dis : ∀ (j k : Nat) (a : Addr) (c c' : Cell), α[j]? = some a → α[k]? = some a → μ[j]? = some c → μ[k]? = some c' → c ≠ .dead → c' ≠ .dead → j = k
structure RS (K : PySem.W.Frag) (Z : Hp) (α : List Addr) (F H : Hp) (σ : L2.St) (ρ : En) (μ : Mu) : Prop where
  hp : RH K Z α F H μ
  len : ρ.length = σ.length
  sl : ∀ (i : Nat) (d : D), ρ[i]? = some (some d) → ∃ v, σ[i]? = some (some v) ∧ Rep K F α d v
theorem RS.to {K : PySem.W.Frag} {Z : Hp} {α α' : List Addr} {F H F' H' : Hp} {σ : L2.St} {ρ : En} {μ μ' : Mu} (r : RS K Z α F H σ ρ μ) (h : RH K Z α' F' H' μ') (e : Ext α F α' F') : RS K Z α' F' H' σ ρ μ' :=
  ⟨h, r.len, fun i d hd => let ⟨v, h1, h2⟩ := r.sl i d hd; ⟨v, h1, h2.mono e⟩⟩
theorem same_upd {F H : Hp} {p : Addr} {o : HO} (hs : Same F H) (hp : H p = none) : Same F (upd F p o) := fun b u e => by
  have : b ≠ p := fun z => by subst z; rw [hs _ _ e] at hp; cases hp
  rw [upd_ne this]; exact e
/-- a new frozen object -/
theorem RH.lay {K : PySem.W.Frag} {Z : Hp} {α : List Addr} {F H : Hp} {μ : Mu} {p : Addr} (o : HO) (r : RH K Z α F H μ) (hp : H p = none) : RH K Z α (upd F p o) (upd H p o) μ := by
  have sF := same_upd (o := o) r.sub hp
  have ex : Ext α F α (upd F p o) := ⟨sF, fun _ _ h => h⟩
  refine ⟨fun b u e => ?_, r.len, fun k a c ha hc => ?_, fun b u e => ?_, fun b u e => ?_, r.zc, r.dis⟩
  · by_cases hb : b = p
    · subst hb; rw [upd_same] at e ⊢; exact e
    · rw [upd_ne hb] at e ⊢; exact r.sub b u e
  · have h := r.cell k a c ha hc
    cases c with
    | lst ds =>
      obtain ⟨h1, vs, h2, h3⟩ := h
      have ne : a ≠ p := ne_of_none h2 hp
      exact ⟨by rw [upd_ne ne]; exact h1, vs, by rw [upd_ne ne]; exact h2, h3.mono ex⟩
    | dic ks ds =>
      obtain ⟨h1, vs, h2, hl, h3⟩ := h
      have ne : a ≠ p := ne_of_none h2 hp
      exact ⟨by rw [upd_ne ne]; exact h1, vs, by rw [upd_ne ne]; exact h2, hl, h3.mono ex⟩
    | dead => trivial
  · rw [upd_ne (ne_of_none (r.zs b u e) hp)]; exact r.zs b u e
  · rw [upd_ne (ne_of_none (r.zs b u e) hp)]; exact r.zf b u e
theorem RH.layExt {K : PySem.W.Frag} {Z : Hp} {α : List Addr} {F H : Hp} {μ : Mu} {p : Addr} (o : HO) (r : RH K Z α F H μ) (hp : H p = none) : Ext α F α (upd F p o) := ⟨same_upd r.sub hp, fun _ _ h => h⟩
/-- a thing that is only read: frozen, or a cell's content -/
def Pk (K : PySem.W.Frag) (α : List Addr) (F H : Hp) : D → V → Prop
  | .lst ds, v => ∃ a vs, v = .ref a ∧ SqL K H a vs ∧ Reps K F α ds vs
  | .dic ks ds, v => ∃ a vs, v = .ref a ∧ H a = some (.dK ((ks.map dk).zip vs)) ∧ ks.length = ds.length ∧ Reps K F α ds vs
  | d, v => Rep K F α d v
theorem RH.pk {K : PySem.W.Frag} {Z : Hp} {α : List Addr} {F H : Hp} {μ : Mu} {d : D} {v : V} (r : RH K Z α F H μ) (h : Rep K F α d v) : Pk K α F H (deref μ d) v := by
  cases d with
  | non => exact h
  | bl b => exact h
  | int i => exact h
  | str x => exact h
  | tup ds => exact h
  | lst ds =>
    unfold Rep at h
    obtain ⟨a, vs, hv, hs, hr⟩ := h
    exact ⟨a, vs, hv, r.sub.seq hs, hr⟩
  | dic ks ds =>
    unfold Rep at h
    obtain ⟨a, vs, hv, hs, hl, hr⟩ := h
    exact ⟨a, vs, hv, r.sub _ _ hs, hl, hr⟩
  | ref k =>
    have h0 := h
    unfold Rep at h
    obtain ⟨a, ha, hv⟩ := h
    cases e : μ[k]? with
    | none => rw [show deref μ (.ref k) = .ref k by simp only [deref, e]]; exact h0
    | some c =>
      have hc := r.cell k a c ha e
      cases c with
      | lst ds =>
        obtain ⟨_, vs, h2, h3⟩ := hc
        rw [show deref μ (.ref k) = .lst ds by simp only [deref, e]]
        exact ⟨a, vs, hv, SqL.of h2, h3⟩
      | dic ks ds =>
        obtain ⟨_, vs, h2, hl, h3⟩ := hc
        rw [show deref μ (.ref k) = .dic ks ds by simp only [deref, e]]
        exact ⟨a, vs, hv, h2, hl, h3⟩
      | dead => rw [show deref μ (.ref k) = .ref k by simp only [deref, e]]; exact h0

/-! ### judgements -/
abbrev EXT := Exc → Mu → Prop
def GE (K : PySem.W.Frag) (EX : EXT) (Z : Hp) (α : List Addr) (F : Hp) (Q : VK) : Res D → Prop
  | .ok d μ' => ∀ v α' F' H', RH K Z α' F' H' μ' → Ext α F α' F' → Rep K F' α' d v → Q v H'
  | .exc x μ' => EX x μ'
  | .bad => False
def GB (K : PySem.W.Frag) (EX : EXT) (Z : Hp) (α : List Addr) (F : Hp) (Q : Bool → Hp → Prop) : Res Bool → Prop
  | .ok b μ' => ∀ α' F' H', RH K Z α' F' H' μ' → Ext α F α' F' → Q b H'
  | .exc x μ' => EX x μ'
  | .bad => False
def GA (K : PySem.W.Frag) (EX : EXT) (Z : Hp) (α : List Addr) (F : Hp) (Q : List V → Hp → Prop) : Res (List D) → Prop
  | .ok ds μ' => ∀ vs α' F' H', RH K Z α' F' H' μ' → Ext α F α' F' → Reps K F' α' ds vs → Q vs H'
  | .exc x μ' => EX x μ'
  | .bad => False
def GS (K : PySem.W.Frag) (EX : EXT) (Z : Hp) (α : List Addr) (F : Hp) (N : Ends) : Res Out → Prop
  | .ok (.nx ρ') μ' => ∀ σ' α' F' H', RS K Z α' F' H' σ' ρ' μ' → Ext α F α' F' → N.nx σ' H'
  | .ok (.bk ρ') μ' => ∀ σ' α' F' H', RS K Z α' F' H' σ' ρ' μ' → Ext α F α' F' → N.bk σ' H'
  | .ok (.ct ρ') μ' => ∀ σ' α' F' H', RS K Z α' F' H' σ' ρ' μ' → Ext α F α' F' → N.ct σ' H'
  | .ok (.rt d) μ' => ∀ v α' F' H', RH K Z α' F' H' μ' → Ext α F α' F' → Rep K F' α' d v → N.rt v H'
  | .exc x μ' => EX x μ'
  | .bad => False
def ME (X : Cx) (EX : EXT) (e : Expr) (m : MX) : Prop := ∃ t : TE, PE X e t ∧ ∀ Z α F H σ ρ μ Q, RS X.K Z α F H σ ρ μ → GE X.K EX Z α F Q (m ρ μ) → t σ H Q
def MT (X : Cx) (EX : EXT) (e : Expr) (m : MB) : Prop := ∃ t : TT, PT X e t ∧ ∀ Z α F H σ ρ μ Q, RS X.K Z α F H σ ρ μ → GB X.K EX Z α F Q (m ρ μ) → t σ H Q
def MW (X : Cx) (EX : EXT) (e : Expr) (m : MB) : Prop := ∃ t : TT, PW X e t ∧ ∀ Z α F H σ ρ μ Q, RS X.K Z α F H σ ρ μ → GB X.K EX Z α F Q (m ρ μ) → t σ H Q
def MA (X : Cx) (EX : EXT) (es : List Expr) (m : MAs) : Prop := ∃ t : TA, PA X es t ∧ (∀ Z α F H σ ρ μ Q, RS X.K Z α F H σ ρ μ → GA X.K EX Z α F Q (m ρ μ) → t σ H Q) ∧ ∀ ρ μ ds μ', m ρ μ = .ok ds μ' → ds.length = es.length
def MS (X : Cx) (EX : EXT) (st : Stmt) (m : MSt) : Prop := ∃ t : TS, PS X st t ∧ ∀ Z α F H σ ρ μ N, RS X.K Z α F H σ ρ μ → GS X.K EX Z α F N (m ρ μ) → t N σ H
def MSs (X : Cx) (EX : EXT) (st : List Stmt) (m : MSt) : Prop := ∃ t : TS, PSs X st t ∧ ∀ Z α F H σ ρ μ N, RS X.K Z α F H σ ρ μ → GS X.K EX Z α F N (m ρ μ) → t N σ H
theorem GE.ext {K : PySem.W.Frag} {EX : EXT} {Z : Hp} {α α1 : List Addr} {F F1 : Hp} {Q : VK} {r : Res D} (e : Ext α F α1 F1) (h : GE K EX Z α F Q r) : GE K EX Z α1 F1 Q r := by
  cases r with
  | ok d μ => exact fun v α' F' H' R e' q => h v α' F' H' R (e.trans e') q
  | exc x μ => exact h
  | bad => exact h
theorem GB.ext {K : PySem.W.Frag} {EX : EXT} {Z : Hp} {α α1 : List Addr} {F F1 : Hp} {Q : Bool → Hp → Prop} {r : Res Bool} (e : Ext α F α1 F1) (h : GB K EX Z α F Q r) : GB K EX Z α1 F1 Q r := by
  cases r with
  | ok d μ => exact fun α' F' H' R e' => h α' F' H' R (e.trans e')
  | exc x μ => exact h
  | bad => exact h
theorem GA.ext {K : PySem.W.Frag} {EX : EXT} {Z : Hp} {α α1 : List Addr} {F F1 : Hp} {Q : List V → Hp → Prop} {r : Res (List D)} (e : Ext α F α1 F1) (h : GA K EX Z α F Q r) : GA K EX Z α1 F1 Q r := by
  cases r with
  | ok d μ => exact fun v α' F' H' R e' q => h v α' F' H' R (e.trans e') q
  | exc x μ => exact h
  | bad => exact h
theorem GS.ext {K : PySem.W.Frag} {EX : EXT} {Z : Hp} {α α1 : List Addr} {F F1 : Hp} {N : Ends} {r : Res Out} (e : Ext α F α1 F1) (h : GS K EX Z α F N r) : GS K EX Z α1 F1 N r := by
  cases r with
  | ok o μ =>
    cases o with
    | nx ρ => exact fun σ' α' F' H' R e' => h σ' α' F' H' R (e.trans e')
    | bk ρ => exact fun σ' α' F' H' R e' => h σ' α' F' H' R (e.trans e')
    | ct ρ => exact fun σ' α' F' H' R e' => h σ' α' F' H' R (e.trans e')
    | rt d => exact fun v α' F' H' R e' q => h v α' F' H' R (e.trans e') q
  | exc x μ => exact h
  | bad => exact h
/-- an expression, then what comes behind it -/
theorem GE.step {K : PySem.W.Frag} {EX : EXT} {Z : Hp} {α : List Addr} {F : Hp} {r : Res D} {β : Type} {f : D → Mu → Res β} {G : Res β → Prop} {Q : VK} (h : G (r.bind f)) (hx : ∀ x μ, G (.exc x μ) → EX x μ) (hb : ¬ G .bad)
    (hk : ∀ d μ' v α' F' H', RH K Z α' F' H' μ' → Ext α F α' F' → Rep K F' α' d v → G (f d μ') → Q v H') : GE K EX Z α F Q r := by
  cases r with
  | ok d μ => exact fun v α' F' H' R e q => hk d μ v α' F' H' R e q h
  | exc x μ => exact hx _ _ h
  | bad => exact hb h
theorem GB.step {K : PySem.W.Frag} {EX : EXT} {Z : Hp} {α : List Addr} {F : Hp} {r : Res Bool} {β : Type} {f : Bool → Mu → Res β} {G : Res β → Prop} {Q : Bool → Hp → Prop} (h : G (r.bind f)) (hx : ∀ x μ, G (.exc x μ) → EX x μ) (hb : ¬ G .bad)
    (hk : ∀ d μ' α' F' H', RH K Z α' F' H' μ' → Ext α F α' F' → G (f d μ') → Q d H') : GB K EX Z α F Q r := by
  cases r with
  | ok d μ => exact fun α' F' H' R e => hk d μ α' F' H' R e h
  | exc x μ => exact hx _ _ h
  | bad => exact hb h
theorem GA.step {K : PySem.W.Frag} {EX : EXT} {Z : Hp} {α : List Addr} {F : Hp} {r : Res (List D)} {β : Type} {f : List D → Mu → Res β} {G : Res β → Prop} {Q : List V → Hp → Prop} (h : G (r.bind f)) (hx : ∀ x μ, G (.exc x μ) → EX x μ) (hb : ¬ G .bad)
    (hk : ∀ d μ' v α' F' H', RH K Z α' F' H' μ' → Ext α F α' F' → Reps K F' α' d v → G (f d μ') → Q v H') : GA K EX Z α F Q r := by
  cases r with
  | ok d μ => exact fun v α' F' H' R e q => hk d μ v α' F' H' R e q h
  | exc x μ => exact hx _ _ h
  | bad => exact hb h
theorem GA.stepE {K : PySem.W.Frag} {EX : EXT} {Z : Hp} {α : List Addr} {F : Hp} {r : Res (List D)} {β : Type} {f : List D → Mu → Res β} {G : Res β → Prop} {Q : List V → Hp → Prop} (h : G (r.bind f)) (hx : ∀ x μ, G (.exc x μ) → EX x μ) (hb : ¬ G .bad)
    (hk : ∀ d μ' v α' F' H', r = .ok d μ' → RH K Z α' F' H' μ' → Ext α F α' F' → Reps K F' α' d v → G (f d μ') → Q v H') : GA K EX Z α F Q r := by
  cases r with
  | ok d μ => exact fun v α' F' H' R e q => hk d μ v α' F' H' rfl R e q h
  | exc x μ => exact hx _ _ h
  | bad => exact hb h
end M
set_option Elab.async false
set_option linter.all false
set_option maxRecDepth 100000
set_option maxHeartbeats 4000000
namespace M
open PySem PySem.Spec PyProof.Rows L2

/-! ### names, constants -/
section
variable {X : Cx} {EX : EXT} {e a b c : Expr} {pos : Pos} {m ma mb mc : MX} {es rest : List Expr}
def mVar (i : Nat) : MX := fun ρ μ => match ρ[i]? with
  | some (some d) => .ok d μ
  | _ => .bad
def mC (d : D) : MX := fun _ μ => .ok d μ
theorem me_var {i : Nat} {x : Str} (hN : X.N[i]? = some x) (hv : Vis X.env.scope x) (hd : (x == ("__debug__" : Str)) = false) (hcd : (x == ("__classdict__" : Str)) = false) : ME X EX (.Name x pos) (mVar i) := by
  refine ⟨tVar i, pe_var hN hv hd hcd, fun Z α F H σ ρ μ Q R g => ?_⟩
  unfold mVar at g
  cases e : ρ[i]? with
  | none => rw [e] at g; exact g.elim
  | some o =>
    cases o with
    | none => rw [e] at g; exact g.elim
    | some d =>
      rw [e] at g
      obtain ⟨v, h1, h2⟩ := R.sl i d e
      exact ⟨v, h1, g v α F H R.hp (Ext.refl _ _) h2⟩
theorem me_c {v : V} {d : D} (h : PE X e (tC v)) (r : ∀ (F : Hp) (α : List Addr), Rep X.K F α d v) : ME X EX e (mC d) :=
  ⟨_, h, fun Z α F H σ ρ μ Q R g => g v α F H R.hp (Ext.refl _ _) (r F α)⟩
theorem me_int {i j} : ME X EX (.Constant (.int i) j pos) (mC (.int i)) := me_c pe_int fun _ _ => by unfold Rep; rfl
theorem me_bl {i j} : ME X EX (.Constant (.bool i) j pos) (mC (.bl i)) := me_c pe_bl fun _ _ => by unfold Rep; rfl
theorem me_non {j} : ME X EX (.Constant .none j pos) (mC .non) := me_c pe_non fun _ _ => by unfold Rep; rfl
theorem me_str {x : Str} {cs : List Nat} {j} (h : x = ⟨cs.toArray⟩) : ME X EX (.Constant (.str x) j pos) (mC (.str cs)) := me_c pe_str fun _ _ => by unfold Rep; rw [h]

/-! ### two-place operations -/
abbrev G2 := D → D → Option D
def mBin (g : G2) (ma mb : MX) : MX := fun ρ μ => (ma ρ μ).bind fun x μ1 => (mb ρ μ1).bind fun y μ2 => ofO μ2 (g (deref μ2 x) (deref μ2 y))
/-- a rule of values r serves g -/
def Serves (K : PySem.W.Frag) (r : R2) (g : G2) : Prop := ∀ Z α F H μ a b c x y Q, RH K Z α F H μ → Pk K α F H a x → Pk K α F H b y → g a b = some c →
  (∀ v F' H', RH K Z α F' H' μ → Same F F' → Rep K F' α c v → Q v H') → r x y H Q
def OpM (X : Cx) (f : Value → Value → Sem Value) (g : G2) : Prop := ∃ r, OpR X f r ∧ Serves X.K r g
def Good (X : Cx) (EX : EXT) (t : TE) (m : MX) : Prop := ∀ Z α F H σ ρ μ Q, RS X.K Z α F H σ ρ μ → GE X.K EX Z α F Q (m ρ μ) → t σ H Q
theorem good_two {ta tb : TE} {r : R2} {g : G2} (sa : Good X EX ta ma) (sb : Good X EX tb mb) (ho : Serves X.K r g) : Good X EX (tOp r ta tb) (mBin g ma mb) := by
  intro Z α F H σ ρ μ Q R gd
  refine sa Z α F H σ ρ μ _ R (GE.step (G := GE X.K EX Z α F Q) gd (fun _ _ h => h) (fun h => h) fun d1 μ1 v1 α1 F1 H1 R1 e1 p1 g1 => ?_)
  refine sb Z α1 F1 H1 σ ρ μ1 _ (R.to R1 e1) (GE.step (G := GE X.K EX Z α F Q) g1 (fun _ _ h => h) (fun h => h) fun d2 μ2 v2 α2 F2 H2 R2 e2 p2 g2 => ?_)
  cases hg : g (deref μ2 d1) (deref μ2 d2) with
  | none => rw [hg] at g2; exact g2.elim
  | some c =>
    rw [hg] at g2
    exact ho Z α2 F2 H2 μ2 _ _ c v1 v2 Q R2 (R2.pk (p1.mono e2)) (R2.pk p2) hg fun v F' H' R' sf rp => g2 v α2 F' H' R' (e1.trans (e2.trans ⟨sf, fun _ _ h => h⟩)) rp
theorem me_bin {op : Operator} {g : G2} (ho : OpM X (binaryOp op) g) (ha : ME X EX a ma) (hb : ME X EX b mb) : ME X EX (.BinOp a op b pos) (mBin g ma mb) := by
  obtain ⟨r, h1, h2⟩ := ho
  obtain ⟨ta, pa, sa⟩ := ha
  obtain ⟨tb, pb, sb⟩ := hb
  exact ⟨_, pe_op h1 pa pb, good_two sa sb h2⟩
/-- a comparison -/
theorem me_cmp {op : CmpOp} {g : G2} (ho : OpM X (compareOp op) g) (ha : ME X EX a ma) (hb : ME X EX b mb) (hm : behindInMarks op b = false) : ME X EX (.Compare a [op] [b] pos) (mBin g ma mb) := by
  obtain ⟨r, h1, h2⟩ := ho
  obtain ⟨ta, pa, sa⟩ := ha
  obtain ⟨tb, pb, sb⟩ := hb
  exact ⟨_, pe_cmpR h1 pa pb hm, good_two sa sb h2⟩
def asB (d : D) : Option Bool := match d with
  | .bl b => some b
  | _ => none
def mTest (m : MX) : MB := fun ρ μ => (m ρ μ).bind fun d μ1 => ofO μ1 (asB d)
def GoodB (X : Cx) (EX : EXT) (t : TT) (m : MB) : Prop := ∀ Z α F H σ ρ μ Q, RS X.K Z α F H σ ρ μ → GB X.K EX Z α F Q (m ρ μ) → t σ H Q
theorem good_test {t : TE} (h : Good X EX t m) : GoodB X EX (fun σ H Q => t σ H fun x H' => ∃ k, x = .bl k ∧ Q k H') (mTest m) := by
  intro Z α F H σ ρ μ Q R g
  refine h Z α F H σ ρ μ _ R (GE.step (G := GB X.K EX Z α F Q) g (fun _ _ h => h) (fun h => h) fun d μ1 v α1 F1 H1 R1 e1 p g1 => ?_)
  cases d with
  | bl k => unfold Rep at p; exact ⟨k, p, g1 α1 F1 H1 R1 e1⟩
  | _ => exact g1.elim
theorem mt_cmp {op : CmpOp} {g : G2} (ho : OpM X (compareOp op) g) (ha : ME X EX a ma) (hb : ME X EX b mb) (hm : behindInMarks op b = false) : MT X EX (.Compare a [op] [b] pos) (mTest (mBin g ma mb)) := by
  obtain ⟨r, h1, h2⟩ := ho
  obtain ⟨ta, pa, sa⟩ := ha
  obtain ⟨tb, pb, sb⟩ := hb
  exact ⟨_, pt_cmpR h1 pa pb hm, good_test (good_two sa sb h2)⟩
/-- a op b op' c -/
def mChain (g g' : G2) (ma mb mc : MX) : MX := fun ρ μ => (ma ρ μ).bind fun x μ1 => (mb ρ μ1).bind fun y μ2 => (ofO μ2 ((g (deref μ2 x) (deref μ2 y)).bind asB)).bind fun k μ3 =>
  match k with
  | true => (mc ρ μ3).bind fun z μ4 => ofO μ4 (g' (deref μ4 y) (deref μ4 z))
  | false => .ok (.bl false) μ3
theorem good_chain {ta tb tc : TE} {r r' : R2} {g g' : G2} (sa : Good X EX ta ma) (sb : Good X EX tb mb) (sc : Good X EX tc mc) (ho : Serves X.K r g) (ho' : Serves X.K r' g') :
    Good X EX (tChain r r' ta tb tc) (mChain g g' ma mb mc) := by
  intro Z α F H σ ρ μ Q R gd
  refine sa Z α F H σ ρ μ _ R (GE.step (G := GE X.K EX Z α F Q) gd (fun _ _ h => h) (fun h => h) fun d1 μ1 v1 α1 F1 H1 R1 e1 p1 g1 => ?_)
  refine sb Z α1 F1 H1 σ ρ μ1 _ (R.to R1 e1) (GE.step (G := GE X.K EX Z α F Q) g1 (fun _ _ h => h) (fun h => h) fun d2 μ2 v2 α2 F2 H2 R2 e2 p2 g2 => ?_)
  cases hg : g (deref μ2 d1) (deref μ2 d2) with
  | none => rw [hg] at g2; exact g2.elim
  | some c =>
    rw [hg] at g2
    cases c with
    | bl k =>
      refine ho Z α2 F2 H2 μ2 _ _ (.bl k) v1 v2 _ R2 (R2.pk (p1.mono e2)) (R2.pk p2) hg fun v F' H' R' sf rp => ?_
      unfold Rep at rp
      refine ⟨k, rp, ?_⟩
      have e3 : Ext α2 F2 α2 F' := ⟨sf, fun _ _ h => h⟩
      cases k with
      | false => exact g2 _ α2 F' H' R' (e1.trans (e2.trans e3)) (by unfold Rep; rfl)
      | true =>
        refine sc Z α2 F' H' σ ρ μ2 _ (R.to R' (e1.trans (e2.trans e3))) (GE.step (G := GE X.K EX Z α F Q) g2 (fun _ _ h => h) (fun h => h) fun d4 μ4 v4 α4 F4 H4 R4 e4 p4 g4 => ?_)
        cases hg' : g' (deref μ4 d2) (deref μ4 d4) with
        | none => rw [hg'] at g4; exact g4.elim
        | some c' =>
          rw [hg'] at g4
          exact ho' Z α4 F4 H4 μ4 _ _ c' v2 v4 Q R4 (R4.pk (p2.mono (e3.trans e4))) (R4.pk p4) hg' fun v F' H' R' sf rp => g4 v α4 F' H' R' (e1.trans (e2.trans (e3.trans (e4.trans ⟨sf, fun _ _ h => h⟩)))) rp
    | _ => exact g2.elim
theorem me_chain {op op' : CmpOp} {g g' : G2} (ho : OpM X (compareOp op) g) (ho' : OpM X (compareOp op') g') (ha : ME X EX a ma) (hb : ME X EX b mb) (hc : ME X EX c mc)
    (hm : lastMarks [op, op'] [b, c] = false) : ME X EX (.Compare a [op, op'] [b, c] pos) (mChain g g' ma mb mc) := by
  obtain ⟨r, h1, h2⟩ := ho
  obtain ⟨r', h1', h2'⟩ := ho'
  obtain ⟨ta, pa, sa⟩ := ha
  obtain ⟨tb, pb, sb⟩ := hb
  obtain ⟨tc, pc, sc⟩ := hc
  exact ⟨_, pe_chain h1 h1' pa pb pc hm, good_chain sa sb sc h2 h2'⟩
theorem mt_chain {op op' : CmpOp} {g g' : G2} (ho : OpM X (compareOp op) g) (ho' : OpM X (compareOp op') g') (ha : ME X EX a ma) (hb : ME X EX b mb) (hc : ME X EX c mc)
    (hm : lastMarks [op, op'] [b, c] = false) : MT X EX (.Compare a [op, op'] [b, c] pos) (mTest (mChain g g' ma mb mc)) := by
  obtain ⟨r, h1, h2⟩ := ho
  obtain ⟨r', h1', h2'⟩ := ho'
  obtain ⟨ta, pa, sa⟩ := ha
  obtain ⟨tb, pb, sb⟩ := hb
  obtain ⟨tc, pc, sc⟩ := hc
  exact ⟨_, pt_chain h1 h1' pa pb pc hm, good_test (good_chain sa sb sc h2 h2')⟩
/-- is None, is not None -/
def isN (d : D) : Bool := match d with
  | .non => true
  | _ => false
def mIsN (m : MX) : MX := fun ρ μ => (m ρ μ).bind fun d μ1 => .ok (.bl (isN d)) μ1
def mNotN (m : MX) : MX := fun ρ μ => (m ρ μ).bind fun d μ1 => .ok (.bl (!isN d)) μ1
theorem isN_rep {K : PySem.W.Frag} {F : Hp} {α : List Addr} {d : D} {v : V} (h : Rep K F α d v) : decide (v = .non) = isN d := by
  cases d with
  | non => unfold Rep at h; subst h; rfl
  | bl _ => unfold Rep at h; subst h; rfl
  | int _ => unfold Rep at h; subst h; rfl
  | str _ => unfold Rep at h; subst h; rfl
  | tup _ => unfold Rep at h; obtain ⟨a, vs, h, _⟩ := h; subst h; rfl
  | lst _ => unfold Rep at h; obtain ⟨a, vs, h, _⟩ := h; subst h; rfl
  | dic _ _ => unfold Rep at h; obtain ⟨a, vs, h, _⟩ := h; subst h; rfl
  | ref _ => unfold Rep at h; obtain ⟨a, _, h⟩ := h; subst h; rfl
theorem good_isN {t : TE} (h : Good X EX t m) : Good X EX (tIsN t) (mIsN m) := by
  intro Z α F H σ ρ μ Q R g
  refine h Z α F H σ ρ μ _ R (GE.step (G := GE X.K EX Z α F Q) g (fun _ _ h => h) (fun h => h) fun d μ1 v α1 F1 H1 R1 e1 p g1 => ?_)
  rw [isN_rep p]
  exact g1 _ α1 F1 H1 R1 e1 (by unfold Rep; rfl)
theorem good_notN {t : TE} (h : Good X EX t m) : Good X EX (tNotN t) (mNotN m) := by
  intro Z α F H σ ρ μ Q R g
  refine h Z α F H σ ρ μ _ R (GE.step (G := GE X.K EX Z α F Q) g (fun _ _ h => h) (fun h => h) fun d μ1 v α1 F1 H1 R1 e1 p g1 => ?_)
  rw [isN_rep p]
  exact g1 _ α1 F1 H1 R1 e1 (by unfold Rep; rfl)
theorem me_isN {j pos'} (ha : ME X EX a m) : ME X EX (.Compare a [.Is] [.Constant .none j pos'] pos) (mIsN m) := by
  obtain ⟨t, p, s⟩ := ha
  exact ⟨_, pe_cmp (pc_isN p) rfl, good_isN s⟩
theorem me_notN {j pos'} (ha : ME X EX a m) : ME X EX (.Compare a [.IsNot] [.Constant .none j pos'] pos) (mNotN m) := by
  obtain ⟨t, p, s⟩ := ha
  exact ⟨_, pe_cmp (pc_notN p) rfl, good_notN s⟩
theorem mt_isN {j pos'} (ha : ME X EX a m) : MT X EX (.Compare a [.Is] [.Constant .none j pos'] pos) (mTest (mIsN m)) := by
  obtain ⟨t, p, s⟩ := ha
  exact ⟨_, pt_cmp (pc_isN p) rfl, good_test (good_isN s)⟩
theorem mt_notN {j pos'} (ha : ME X EX a m) : MT X EX (.Compare a [.IsNot] [.Constant .none j pos'] pos) (mTest (mNotN m)) := by
  obtain ⟨t, p, s⟩ := ha
  exact ⟨_, pt_cmp (pc_notN p) rfl, good_test (good_notN s)⟩

/-! ### truth -/
def truD (d : D) : Option Bool := match d with
  | .non => some false
  | .bl b => some b
  | .int i => some (i != 0)
  | .str x => if x.length ≤ 16777216 then some (!x.isEmpty) else none
  | .tup xs => some (!xs.isEmpty)
  | .lst xs => some (!xs.isEmpty)
  | .dic ks vs => some (!vs.isEmpty)
  | .ref _ => none
def mTru (m : MX) : MB := fun ρ μ => (m ρ μ).bind fun d μ1 => ofO μ1 (truD (deref μ1 d))
theorem isEmpty_len {β γ : Type} {l : List β} {r : List γ} (h : l.length = r.length) : l.isEmpty = r.isEmpty := by
  cases l <;> cases r <;> simp_all
theorem tru_pk {K : PySem.W.Frag} {α : List Addr} {F H : Hp} {d : D} {v : V} {k : Bool} (sub : Same F H) (h : Pk K α F H d v) (e : truD d = some k) : TruV K v H k := by
  cases d with
  | non => unfold Pk Rep at h; subst h; cases e; rfl
  | bl _ => unfold Pk Rep at h; subst h; cases e; rfl
  | int _ => unfold Pk Rep at h; subst h; cases e; rfl
  | str x =>
    unfold Pk Rep at h
    subst h
    unfold truD at e
    simp only at e
    split at e
    · rename_i hl
      cases e
      refine ⟨?_, ?_⟩
      · rw [sizeLine_eq]; simpa [Str.length] using hl
      · cases x with
        | nil => rfl
        | cons c r => simp [Str.length]; omega
    · cases e
  | tup xs =>
    unfold Pk Rep at h
    obtain ⟨a, vs, rfl, hs, hr⟩ := h
    cases e
    exact .inr (.inl ⟨vs, Same.tup sub hs, by rw [isEmpty_len hr.length]⟩)
  | lst xs =>
    unfold Pk at h
    obtain ⟨a, vs, rfl, hs, hr⟩ := h
    cases e
    exact .inl ⟨vs, hs, by rw [isEmpty_len hr.length]⟩
  | dic ks xs =>
    unfold Pk at h
    obtain ⟨a, vs, rfl, hs, hl, hr⟩ := h
    cases e
    refine .inr (.inr ⟨_, hs, ?_⟩)
    congr 1
    refine isEmpty_len ?_
    have := hr.length
    simp
    omega
  | ref _ => cases e
theorem mt_truth (ha : ME X EX a m) (he : ∀ whole, isTrue a X.env whole = (do let v ← whole; standAt a.pos; holding [v] (truthy v))) : MT X EX a (mTru m) := by
  obtain ⟨t, p, s⟩ := ha
  refine ⟨_, pt_truth p he, fun Z α F H σ ρ μ Q R g => ?_⟩
  refine s Z α F H σ ρ μ _ R (GE.step (G := GB X.K EX Z α F Q) g (fun _ _ h => h) (fun h => h) fun d μ1 v α1 F1 H1 R1 e1 p g1 => ?_)
  cases hk : truD (deref μ1 d) with
  | none => rw [hk] at g1; exact g1.elim
  | some k => rw [hk] at g1; exact ⟨k, tru_pk R1.sub (R1.pk p) hk, g1 α1 F1 H1 R1 e1⟩

/-! ### and, or, not, if else -/
variable {n na nb : MB}
def mAnd (m n : MB) : MB := fun ρ μ => (m ρ μ).bind fun k μ1 => match k with
  | true => n ρ μ1
  | false => .ok false μ1
def mOr (m n : MB) : MB := fun ρ μ => (m ρ μ).bind fun k μ1 => match k with
  | true => .ok true μ1
  | false => n ρ μ1
def mNot (m : MB) : MB := fun ρ μ => (m ρ μ).bind fun k μ1 => .ok (!k) μ1
theorem MW.t (h : MW X EX e n) : MT X EX e n := let ⟨t, p, s⟩ := h; ⟨t, p.pt, s⟩
theorem mw_and1 (ha : MT X EX a na) : MW X EX (.BoolOp .And [a] pos) na := let ⟨t, p, s⟩ := ha; ⟨t, pw_and1 p, s⟩
theorem mw_or1 (ha : MT X EX a na) : MW X EX (.BoolOp .Or [a] pos) na := let ⟨t, p, s⟩ := ha; ⟨t, pw_or1 p, s⟩
theorem mw_and (ha : MT X EX a na) (hb : MW X EX (.BoolOp .And (b :: rest) pos) nb) : MW X EX (.BoolOp .And (a :: b :: rest) pos) (mAnd na nb) := by
  obtain ⟨ta, pa, sa⟩ := ha
  obtain ⟨tb, pb, sb⟩ := hb
  refine ⟨_, pw_and pa pb, fun Z α F H σ ρ μ Q R g => ?_⟩
  refine sa Z α F H σ ρ μ _ R (GB.step (G := GB X.K EX Z α F Q) g (fun _ _ h => h) (fun h => h) fun k μ1 α1 F1 H1 R1 e1 g1 => ?_)
  cases k with
  | true => exact (if_pos rfl).mpr (sb Z α1 F1 H1 σ ρ μ1 Q (R.to R1 e1) (GB.ext e1 g1))
  | false => exact g1 α1 F1 H1 R1 e1
theorem mw_or (ha : MT X EX a na) (hb : MW X EX (.BoolOp .Or (b :: rest) pos) nb) : MW X EX (.BoolOp .Or (a :: b :: rest) pos) (mOr na nb) := by
  obtain ⟨ta, pa, sa⟩ := ha
  obtain ⟨tb, pb, sb⟩ := hb
  refine ⟨_, pw_or pa pb, fun Z α F H σ ρ μ Q R g => ?_⟩
  refine sa Z α F H σ ρ μ _ R (GB.step (G := GB X.K EX Z α F Q) g (fun _ _ h => h) (fun h => h) fun k μ1 α1 F1 H1 R1 e1 g1 => ?_)
  cases k with
  | true => exact g1 α1 F1 H1 R1 e1
  | false => exact sb Z α1 F1 H1 σ ρ μ1 Q (R.to R1 e1) (GB.ext e1 g1)
theorem mt_not (ha : MT X EX a na) : MT X EX (.UnaryOp .Not a pos) (mNot na) := by
  obtain ⟨ta, pa, sa⟩ := ha
  refine ⟨_, pt_not pa, fun Z α F H σ ρ μ Q R g => ?_⟩
  exact sa Z α F H σ ρ μ _ R (GB.step (G := GB X.K EX Z α F Q) g (fun _ _ h => h) (fun h => h) fun k μ1 α1 F1 H1 R1 e1 g1 => g1 α1 F1 H1 R1 e1)
def mAndV (ma mb : MX) : MX := fun ρ μ => (ma ρ μ).bind fun x μ1 => match x with
  | .bl true => mb ρ μ1
  | .bl false => .ok (.bl false) μ1
  | _ => .bad
def mOrV (ma mb : MX) : MX := fun ρ μ => (ma ρ μ).bind fun x μ1 => match x with
  | .bl true => .ok (.bl true) μ1
  | .bl false => mb ρ μ1
  | _ => .bad
def mNotV (ma : MX) : MX := fun ρ μ => (ma ρ μ).bind fun x μ1 => match x with
  | .bl k => .ok (.bl (!k)) μ1
  | _ => .bad
theorem me_one {op} (h : ME X EX a m) : ME X EX (.BoolOp op [a] pos) m := let ⟨t, p, s⟩ := h; ⟨t, pe_one p, s⟩
theorem me_and (ha : ME X EX a ma) (hb : ME X EX (.BoolOp .And (b :: rest) pos) mb) : ME X EX (.BoolOp .And (a :: b :: rest) pos) (mAndV ma mb) := by
  obtain ⟨ta, pa, sa⟩ := ha
  obtain ⟨tb, pb, sb⟩ := hb
  refine ⟨_, pe_and pa pb, fun Z α F H σ ρ μ Q R g => ?_⟩
  refine sa Z α F H σ ρ μ _ R (GE.step (G := GE X.K EX Z α F Q) g (fun _ _ h => h) (fun h => h) fun d μ1 v α1 F1 H1 R1 e1 p g1 => ?_)
  cases d with
  | bl k =>
    unfold Rep at p
    refine ⟨k, p, ?_⟩
    cases k with
    | true => exact sb Z α1 F1 H1 σ ρ μ1 Q (R.to R1 e1) (GE.ext e1 g1)
    | false => exact g1 _ α1 F1 H1 R1 e1 (by unfold Rep; rfl)
  | _ => exact g1.elim
theorem me_or (ha : ME X EX a ma) (hb : ME X EX (.BoolOp .Or (b :: rest) pos) mb) : ME X EX (.BoolOp .Or (a :: b :: rest) pos) (mOrV ma mb) := by
  obtain ⟨ta, pa, sa⟩ := ha
  obtain ⟨tb, pb, sb⟩ := hb
  refine ⟨_, pe_or pa pb, fun Z α F H σ ρ μ Q R g => ?_⟩
  refine sa Z α F H σ ρ μ _ R (GE.step (G := GE X.K EX Z α F Q) g (fun _ _ h => h) (fun h => h) fun d μ1 v α1 F1 H1 R1 e1 p g1 => ?_)
  cases d with
  | bl k =>
    unfold Rep at p
    refine ⟨k, p, ?_⟩
    cases k with
    | false => exact sb Z α1 F1 H1 σ ρ μ1 Q (R.to R1 e1) (GE.ext e1 g1)
    | true => exact g1 _ α1 F1 H1 R1 e1 (by unfold Rep; rfl)
  | _ => exact g1.elim
theorem me_not (ha : ME X EX a ma) : ME X EX (.UnaryOp .Not a pos) (mNotV ma) := by
  obtain ⟨ta, pa, sa⟩ := ha
  refine ⟨_, pe_not pa, fun Z α F H σ ρ μ Q R g => ?_⟩
  refine sa Z α F H σ ρ μ _ R (GE.step (G := GE X.K EX Z α F Q) g (fun _ _ h => h) (fun h => h) fun d μ1 v α1 F1 H1 R1 e1 p g1 => ?_)
  cases d with
  | bl k => unfold Rep at p; exact ⟨k, p, g1 _ α1 F1 H1 R1 e1 (by unfold Rep; rfl)⟩
  | _ => exact g1.elim
def mIf (n : MB) (ma mb : MX) : MX := fun ρ μ => (n ρ μ).bind fun k μ1 => match k with
  | true => ma ρ μ1
  | false => mb ρ μ1
theorem me_if (hc : MT X EX c n) (ha : ME X EX a ma) (hb : ME X EX b mb) : ME X EX (.IfExp c a b pos) (mIf n ma mb) := by
  obtain ⟨tc, pc, sc⟩ := hc
  obtain ⟨ta, pa, sa⟩ := ha
  obtain ⟨tb, pb, sb⟩ := hb
  refine ⟨_, pe_ifExp pc pa pb, fun Z α F H σ ρ μ Q R g => ?_⟩
  refine sc Z α F H σ ρ μ _ R (GB.step (G := GE X.K EX Z α F Q) g (fun _ _ h => h) (fun h => h) fun k μ1 α1 F1 H1 R1 e1 g1 => ?_)
  cases k with
  | true => exact sa Z α1 F1 H1 σ ρ μ1 Q (R.to R1 e1) (GE.ext e1 g1)
  | false => exact sb Z α1 F1 H1 σ ρ μ1 Q (R.to R1 e1) (GE.ext e1 g1)

/-! ### several, tuples, lists -/
variable {ms : MAs}
def mNil : MAs := fun _ μ => .ok [] μ
def mCons (m : MX) (ms : MAs) : MAs := fun ρ μ => (m ρ μ).bind fun d μ1 => (ms ρ μ1).bind fun ds μ2 => .ok (d :: ds) μ2
theorem ma_nil : MA X EX [] mNil := ⟨_, pa_nil, fun Z α F H σ ρ μ Q R g => g [] α F H R.hp (Ext.refl _ _) reps_nil, fun ρ μ ds μ' h => by cases h; rfl⟩
theorem ma_cons (ha : ME X EX e m) (hr : MA X EX es ms) (hs : starEach (e :: es) X.env = (false, eval e X.env) :: starEach es X.env) : MA X EX (e :: es) (mCons m ms) := by
  obtain ⟨ta, pa, sa⟩ := ha
  obtain ⟨tr, pr, sr, lr⟩ := hr
  refine ⟨_, pa_cons pa pr hs, fun Z α F H σ ρ μ Q R g => ?_, fun ρ μ ds μ' h => ?_⟩
  rotate_left
  · unfold mCons at h
    cases e1 : m ρ μ with
    | ok d μ1 =>
      rw [e1] at h
      simp only [bind_ok] at h
      cases e2 : ms ρ μ1 with
      | ok dr μ2 =>
        rw [e2] at h
        simp only [bind_ok] at h
        cases h
        simp [lr _ _ _ _ e2]
      | exc x μ2 => rw [e2] at h; cases h
      | bad => rw [e2] at h; cases h
    | exc x μ1 => rw [e1] at h; cases h
    | bad => rw [e1] at h; cases h
  refine sa Z α F H σ ρ μ _ R (GE.step (G := GA X.K EX Z α F Q) g (fun _ _ h => h) (fun h => h) fun d μ1 v α1 F1 H1 R1 e1 p g1 => ?_)
  refine sr Z α1 F1 H1 σ ρ μ1 _ (R.to R1 e1) (GA.step (G := GA X.K EX Z α F Q) g1 (fun _ _ h => h) (fun h => h) fun ds μ2 vs α2 F2 H2 R2 e2 p2 g2 => ?_)
  exact g2 (v :: vs) α2 F2 H2 R2 (e1.trans e2) (reps_cons (p.mono e2) p2)
def mTup (ms : MAs) : MX := fun ρ μ => (ms ρ μ).bind fun ds μ1 => .ok (.tup ds) μ1
def mLst (ms : MAs) : MX := fun ρ μ => (ms ρ μ).bind fun ds μ1 => .ok (.lst ds) μ1
theorem lay_tup {K : PySem.W.Frag} {Z F H : Hp} {α : List Addr} {μ : Mu} {ds : List D} {vs : List V} {p : Addr} (R : RH K Z α F H μ) (r : Reps K F α ds vs) (hp : H p = none) :
    RH K Z α (upd F p (.tup vs)) (upd H p (.tup vs)) μ ∧ Same F (upd F p (.tup vs)) ∧ Rep K (upd F p (.tup vs)) α (.tup ds) (.ref p) :=
  ⟨R.lay _ hp, same_upd R.sub hp, by unfold Rep; exact ⟨p, vs, rfl, SqT.of upd_same, r.mono (R.layExt _ hp)⟩⟩
theorem lay_lst {K : PySem.W.Frag} {Z F H : Hp} {α : List Addr} {μ : Mu} {ds : List D} {vs : List V} {p : Addr} (R : RH K Z α F H μ) (r : Reps K F α ds vs) (hp : H p = none) :
    RH K Z α (upd F p (.lst vs)) (upd H p (.lst vs)) μ ∧ Same F (upd F p (.lst vs)) ∧ Rep K (upd F p (.lst vs)) α (.lst ds) (.ref p) :=
  ⟨R.lay _ hp, same_upd R.sub hp, by unfold Rep; exact ⟨p, vs, rfl, SqL.of upd_same, r.mono (R.layExt _ hp)⟩⟩
theorem me_tup {x1} (h : MA X EX es ms) (hl : es.length ≤ 16777216 := by decide) : ME X EX (.Tuple es x1 pos) (mTup ms) := by
  obtain ⟨t, p, s, l⟩ := h
  refine ⟨_, pe_tup p, fun Z α F H σ ρ μ Q R g => ?_⟩
  refine s Z α F H σ ρ μ _ R (GA.stepE (G := GE X.K EX Z α F Q) g (fun _ _ h => h) (fun h => h) fun ds μ1 vs α1 F1 H1 hm R1 e1 p1 g1 => ?_)
  refine ⟨by rw [← p1.length, sizeLine_eq, l _ _ _ _ hm]; exact hl, fun q hq => ?_⟩
  obtain ⟨a1, a2, a3⟩ := lay_tup R1 p1 hq
  exact g1 _ α1 _ _ a1 (e1.trans ⟨a2, fun _ _ h => h⟩) a3
theorem me_lst (h : MA X EX es ms) (hl : es.length ≤ 16777216 := by decide) : ME X EX (.List es pos) (mLst ms) := by
  obtain ⟨t, p, s, l⟩ := h
  refine ⟨_, pe_lst p, fun Z α F H σ ρ μ Q R g => ?_⟩
  refine s Z α F H σ ρ μ _ R (GA.stepE (G := GE X.K EX Z α F Q) g (fun _ _ h => h) (fun h => h) fun ds μ1 vs α1 F1 H1 hm R1 e1 p1 g1 => ?_)
  refine ⟨by rw [← p1.length, sizeLine_eq, l _ _ _ _ hm]; exact hl, fun q hq => ?_⟩
  obtain ⟨a1, a2, a3⟩ := lay_lst R1 p1 hq
  exact g1 _ α1 _ _ a1 (e1.trans ⟨a2, fun _ _ h => h⟩) a3

/-! ### subscripts of lists, tuples, texts -/
def gIdx : G2 := fun a b => match a, b with
  | .lst ds, .int i => atI ds i
  | .tup ds, .int i => atI ds i
  | .str cs, .int i => if cs.length ≤ 16777216 then (atI cs i).map fun c => .str [c] else none
  | _, _ => none
theorem reps_atI {K : PySem.W.Frag} {F : Hp} {α : List Addr} {ds : List D} {vs : List V} {i : Int} {d : D} (r : Reps K F α ds vs) (h : atI ds i = some d) : ∃ v, atI vs i = some v ∧ Rep K F α d v := by
  unfold atI at h ⊢
  rw [← r.length]
  cases e : ixN ds.length i with
  | none => rw [e] at h; cases h
  | some j => rw [e] at h; exact r.get h
theorem serves_idx {K : PySem.W.Frag} : Serves K (rIx K) gIdx := by
  intro Z α F H μ a b c x y Q R ha hb hg k
  cases b with
  | int i =>
    unfold Pk Rep at hb
    subst hb
    cases a with
    | lst ds =>
      obtain ⟨p, vs, rfl, hs, hr⟩ := ha
      obtain ⟨v, h1, h2⟩ := reps_atI hr hg
      exact .inl ⟨p, vs, i, v, rfl, rfl, hs, h1, k v F H R (Same.refl _) h2⟩
    | tup ds =>
      unfold Pk Rep at ha
      obtain ⟨p, vs, rfl, hs, hr⟩ := ha
      obtain ⟨v, h1, h2⟩ := reps_atI hr hg
      exact .inr (.inl ⟨p, vs, i, v, rfl, rfl, Same.tup R.sub hs, h1, k v F H R (Same.refl _) h2⟩)
    | str cs =>
      unfold Pk Rep at ha
      subst ha
      simp only [gIdx] at hg
      split at hg
      · rename_i hl
        cases e : atI cs i with
        | none => rw [e] at hg; cases hg
        | some c' =>
          rw [e] at hg
          cases hg
          exact .inr (.inr ⟨_, i, c', rfl, rfl, by rw [sizeLine_eq]; simpa [Str.length] using hl, by simpa using e, k _ F H R (Same.refl _) (by unfold Rep; rfl)⟩)
      · cases hg
    | _ => cases hg
  | _ => cases a <;> cases hg
theorem me_idx (ha : ME X EX a ma) (hb : ME X EX b mb) (hs : PlainIx b) : ME X EX (.Subscript a b pos) (mBin gIdx ma mb) := by
  obtain ⟨ta, pa, sa⟩ := ha
  obtain ⟨tb, pb, sb⟩ := hb
  exact ⟨_, pe_ix ix_seq pa pb hs, good_two sa sb serves_idx⟩
end
end M
set_option Elab.async false
set_option linter.all false
set_option maxRecDepth 100000
set_option maxHeartbeats 4000000
namespace M
open PySem PySem.Spec PyProof.Rows L2

/-! ### the operations -/
theorem rep_int {K : PySem.W.Frag} {F : Hp} {α : List Addr} (i : Int) : Rep K F α (.int i) (.int i) := by unfold Rep; rfl
theorem rep_bl {K : PySem.W.Frag} {F : Hp} {α : List Addr} (i : Bool) : Rep K F α (.bl i) (.bl i) := by unfold Rep; rfl
theorem rep_non {K : PySem.W.Frag} {F : Hp} {α : List Addr} : Rep K F α .non .non := by unfold Rep; rfl
theorem rep_str {K : PySem.W.Frag} {F : Hp} {α : List Addr} (x : List Nat) : Rep K F α (.str x) (.str ⟨x.toArray⟩) := by unfold Rep; rfl
theorem pk_int {K : PySem.W.Frag} {F H : Hp} {α : List Addr} {i : Int} {v : V} (h : Pk K α F H (.int i) v) : v = .int i := by unfold Pk Rep at h; exact h
theorem pk_bl {K : PySem.W.Frag} {F H : Hp} {α : List Addr} {i : Bool} {v : V} (h : Pk K α F H (.bl i) v) : v = .bl i := by unfold Pk Rep at h; exact h
theorem pk_str {K : PySem.W.Frag} {F H : Hp} {α : List Addr} {x : List Nat} {v : V} (h : Pk K α F H (.str x) v) : v = .str ⟨x.toArray⟩ := by unfold Pk Rep at h; exact h
theorem pk_non {K : PySem.W.Frag} {F H : Hp} {α : List Addr} {v : V} (h : Pk K α F H .non v) : v = .non := by unfold Pk Rep at h; exact h
def gInt (h : Int → Int → Option Int) : G2 := fun a b => match a, b with
  | .int i, .int j => (h i j).map .int
  | _, _ => none
def gIntB (h : Int → Int → Bool) : G2 := fun a b => match a, b with
  | .int i, .int j => some (.bl (h i j))
  | _, _ => none
section
variable {X : Cx} {EX : EXT}
theorem sv_int {K : PySem.W.Frag} {C : Int → Int → Prop} [inst : ∀ i j, Decidable (C i j)] {h : Int → Int → Int} : Serves K (rI C fun i j => .int (h i j)) (gInt fun i j => if C i j then some (h i j) else none) := by
  intro Z α F H μ a b c x y Q R ha hb hg k
  cases a with
  | int i =>
    cases b with
    | int j =>
      have ha := pk_int ha
      have hb := pk_int hb
      simp only [gInt] at hg
      by_cases hc : C i j
      · rw [if_pos hc] at hg
        cases hg
        exact ⟨i, j, ha, hb, hc, k _ F H R (Same.refl _) (rep_int _)⟩
      · rw [if_neg hc] at hg; cases hg
    | _ => cases hg
  | _ => cases hg
theorem sv_int0 {K : PySem.W.Frag} {h : Int → Int → Int} : Serves K (rI0 fun i j => .int (h i j)) (gInt fun i j => some (h i j)) := by
  intro Z α F H μ a b c x y Q R ha hb hg k
  cases a with
  | int i =>
    cases b with
    | int j =>
      have ha := pk_int ha
      have hb := pk_int hb
      cases hg
      exact ⟨i, j, ha, hb, k _ F H R (Same.refl _) (rep_int _)⟩
    | _ => cases hg
  | _ => cases hg
theorem sv_intB {K : PySem.W.Frag} {h : Int → Int → Bool} : Serves K (rI0 fun i j => .bl (h i j)) (gIntB h) := by
  intro Z α F H μ a b c x y Q R ha hb hg k
  cases a with
  | int i =>
    cases b with
    | int j =>
      have ha := pk_int ha
      have hb := pk_int hb
      cases hg
      exact ⟨i, j, ha, hb, k _ F H R (Same.refl _) (rep_bl _)⟩
    | _ => cases hg
  | _ => cases hg
/-- two rules side by side -/
def gOr (g h : G2) : G2 := fun a b => match g a b with
  | some c => some c
  | none => h a b
theorem Serves.or {K : PySem.W.Frag} {r r' : R2} {g g' : G2} (h : Serves K r g) (h' : Serves K r' g') : Serves K (fun x y H Q => r x y H Q ∨ r' x y H Q) (gOr g g') := by
  intro Z α F H μ a b c x y Q R ha hb hg k
  unfold gOr at hg
  cases e : g a b with
  | some d => rw [e] at hg; have hg : d = c := Option.some.inj hg; subst hg; exact .inl (h Z α F H μ a b _ x y Q R ha hb e k)
  | none => rw [e] at hg; exact .inr (h' Z α F H μ a b c x y Q R ha hb hg k)
theorem OpM.or {f : Value → Value → Sem Value} {g g' : G2} (h : OpM X f g) (h' : OpM X f g') : OpM X f (gOr g g') := by
  obtain ⟨r, a, b⟩ := h
  obtain ⟨r', a', b'⟩ := h'
  exact ⟨_, a.or a', b.or b'⟩
/-- the same by another writing -/
theorem OpM.as {f : Value → Value → Sem Value} {g g' : G2} (h : OpM X f g) (e : ∀ a b c, g' a b = some c → g a b = some c) : OpM X f g' := by
  obtain ⟨r, a, b⟩ := h
  exact ⟨r, a, fun Z α F H μ p q c x y Q R ha hb hg k => b Z α F H μ p q c x y Q R ha hb (e p q c hg) k⟩

/-! #### + -/
def gAddT : G2 := fun a b => match a, b with
  | .tup xs, .tup ys => if decide (xs.length + ys.length ≤ 16777216) && !xs.isEmpty then some (.tup (xs ++ ys)) else none
  | _, _ => none
def gAddT0 : G2 := fun a b => match a, b with
  | .tup [], .tup ys => some (.tup ys)
  | _, _ => none
def gAddL : G2 := fun a b => match a, b with
  | .lst xs, .lst ys => if xs.length + ys.length ≤ 16777216 then some (.lst (xs ++ ys)) else none
  | _, _ => none
def gAddS : G2 := fun a b => match a, b with
  | .str xs, .str ys => if xs.length + ys.length ≤ 16777216 then some (.str (xs ++ ys)) else none
  | _, _ => none
def gAdd : G2 := fun a b => match a, b with
  | .int i, .int j => some (.int (i + j))
  | .str xs, .str ys => if xs.length + ys.length ≤ 16777216 then some (.str (xs ++ ys)) else none
  | .tup xs, .tup ys => if xs.length + ys.length ≤ 16777216 then some (.tup (xs ++ ys)) else none
  | .lst xs, .lst ys => if xs.length + ys.length ≤ 16777216 then some (.lst (xs ++ ys)) else none
  | _, _ => none
theorem str_append (x y : List Nat) : (⟨x.toArray⟩ : Str) ++ (⟨y.toArray⟩ : Str) = ⟨(x ++ y).toArray⟩ := by
  show Str.append _ _ = _
  unfold Str.append
  simp
theorem om_addS : OpM X (binaryOp .Add) gAddS := by
  refine ⟨_, op_add_str, fun Z α F H μ a b c x y Q R ha hb hg k => ?_⟩
  cases a with
  | str i =>
    cases b with
    | str j =>
      have ha := pk_str ha
      have hb := pk_str hb
      simp only [gAddS] at hg
      split at hg
      · rename_i hl
        cases hg
        refine ⟨_, _, ha, hb, by rw [sizeLine_eq]; simpa [Str.length] using hl, ?_⟩
        rw [str_append]
        exact k _ F H R (Same.refl _) (rep_str _)
      · cases hg
    | _ => cases hg
  | _ => cases hg
theorem om_addT : OpM X (binaryOp .Add) gAddT := by
  refine ⟨_, op_catT, fun Z α F H μ a b c x y Q R ha hb hg k => ?_⟩
  cases a with
  | tup i =>
    cases b with
    | tup j =>
      have ha0 := ha
      unfold Pk Rep at ha hb
      obtain ⟨p, vs, rfl, hs, hr⟩ := ha
      obtain ⟨p', vs', rfl, hs', hr'⟩ := hb
      simp only [gAddT] at hg
      split at hg
      · rename_i hl
        cases hg
        rw [Bool.and_eq_true] at hl
        have h1 := of_decide_eq_true hl.1
        refine ⟨p, p', vs, vs', rfl, rfl, Same.tup R.sub hs, Same.tup R.sub hs', ?_, by rw [sizeLine_eq, ← hr.length, ← hr'.length]; exact h1, fun he => ?_, fun _ q hq => ?_⟩
        · intro he
          subst he
          have := hr.length
          cases i with
          | nil => simp at hl
          | cons _ _ => simp at this
        · subst he
          have := hr'.length
          cases j with
          | nil => rw [List.append_nil] at k; exact k _ F H R (Same.refl _) ha0
          | cons _ _ => simp at this
        · obtain ⟨a1, a2, a3⟩ := lay_tup R (hr.append hr') hq
          exact k _ _ _ a1 a2 a3
      · cases hg
    | _ => cases hg
  | _ => cases hg

def rCatL (K : PySem.W.Frag) : R2 := fun x y H Q => ∃ l b xs zs, x = .ref l ∧ y = .ref b ∧ SqL K H l xs ∧ SqL K H b zs ∧ xs.length + zs.length ≤ sizeLine ∧ ∀ p, H p = none → Q (.ref p) (upd H p (.lst (xs ++ zs)))
theorem op_catL : OpR X (binaryOp .Add) (rCatL X.K) := by
  intro pins s σ H x y v u Q I rx ry h
  obtain ⟨l, b, xs, zs, rfl, rfl, hH, hB, hz, q⟩ := h
  cases rx
  cases ry
  obtain ⟨its, r, pl, _⟩ := I.list hH
  obtain ⟨its2, r2, pl2, _⟩ := I.list hB
  obtain ⟨m, F⟩ := I.fr
  have e1 := r.length
  have e2 := r2.length
  obtain ⟨⟨cls, dd, data, sl⟩, n, ho, hc, hd, hs⟩ := pl
  obtain ⟨⟨cls2, dd2, data2, sl2⟩, n2, ho2, hc2, hd2, hs2⟩ := pl2
  simp only at hc hd hs hc2 hd2 hs2
  subst hc hd hs hc2 hd2 hs2
  have ea : its.toArray ++ its2.toArray = (its ++ its2).toArray := by simp
  refine concat_meets ⟨_, ho, rfl⟩ ⟨_, ho2, rfl⟩ noFill_list_add seq_list_add PySem.F.slot_list_add PySem.F.entry_list_add (PySem.F.args_list_add_2 _ _) (list_addW l b its.toArray its2.toArray n n2 _ _ sl sl2 (by simp only [List.size_toArray]; omega)) ⟨ho, ho2, ?_⟩
  rw [ea]
  exact ⟨.ref _, _, I.lnew (t' := s.toks) (r.append r2) (by rw [List.length_append]; omega), rfl, q _ I.fresh⟩
theorem op_catT0 : OpR X (binaryOp .Add) (fun x y H Q => ∃ a b ys, x = .ref a ∧ y = .ref b ∧ SqT X.K H a [] ∧ SqT X.K H b ys ∧ Q (.ref b) H) := by
  intro pins s σ H x y v u Q I rx ry h
  obtain ⟨a, b, ys, rfl, rfl, ha, hb, q⟩ := h
  cases rx
  cases ry
  obtain ⟨its, r1, p1, _⟩ := I.tuple ha
  obtain ⟨its2, r2, p2, _⟩ := I.tuple hb
  have e1 : its.length = 0 := r1.length.symm
  obtain rfl := List.length_eq_zero_iff.mp e1
  obtain ⟨o1, g1, c1, n1, d1⟩ := p1
  obtain ⟨o2, g2, c2, n2, d2⟩ := p2
  obtain ⟨k1, f1, w1, z1⟩ := o1
  obtain ⟨k2, f2, w2, z2⟩ := o2
  dsimp only at c1 d1 c2 d2
  subst c1 d1 c2 d2
  exact concat_meets ⟨_, g1, rfl⟩ ⟨_, g2, rfl⟩ noFill_tuple_add seq_tuple_add PySem.F.slot_tuple_add PySem.F.entry_tuple_add (PySem.F.args_tuple_add_2 _ _)
    (tuple_addW0 a b #[] its2.toArray n1 n2 f1 f2 z1 z2 rfl) ⟨g1, g2, .ref b, H, I, rfl, q⟩
theorem om_addT0 : OpM X (binaryOp .Add) gAddT0 := by
  refine ⟨_, op_catT0, fun Z α F H μ a b c x y Q R ha hb hg k => ?_⟩
  cases a with
  | tup i =>
    cases i with
    | nil =>
      cases b with
      | tup j =>
        have hb0 := hb
        unfold Pk Rep at ha hb
        obtain ⟨p, vs, rfl, hs, hr⟩ := ha
        obtain ⟨p', vs', rfl, hs', hr'⟩ := hb
        cases hg
        have := hr.length
        cases vs with
        | nil => exact ⟨p, p', vs', rfl, rfl, Same.tup R.sub hs, Same.tup R.sub hs', k _ F H R (Same.refl _) hb0⟩
        | cons _ _ => simp at this
      | _ => cases hg
    | cons _ _ => cases b <;> cases hg
  | _ => cases hg
theorem om_addL : OpM X (binaryOp .Add) gAddL := by
  refine ⟨_, op_catL, fun Z α F H μ a b c x y Q R ha hb hg k => ?_⟩
  cases a with
  | lst i =>
    cases b with
    | lst j =>
      unfold Pk at ha hb
      obtain ⟨p, vs, rfl, hs, hr⟩ := ha
      obtain ⟨p', vs', rfl, hs', hr'⟩ := hb
      simp only [gAddL] at hg
      split at hg
      · rename_i hl
        cases hg
        refine ⟨p, p', vs, vs', rfl, rfl, hs, hs', by rw [sizeLine_eq, ← hr.length, ← hr'.length]; exact hl, fun q hq => ?_⟩
        obtain ⟨a1, a2, a3⟩ := lay_lst R (hr.append hr') hq
        exact k _ _ _ a1 a2 a3
      · cases hg
    | _ => cases hg
  | _ => cases hg
theorem om_add : OpM X (binaryOp .Add) gAdd := by
  have h0 : OpM X (binaryOp .Add) (gInt fun i j => some (i + j)) := ⟨_, op_add, sv_int0⟩
  refine OpM.as (OpM.or h0 (OpM.or om_addS (OpM.or om_addT0 (OpM.or om_addT om_addL)))) fun a b c h => ?_
  cases a with
  | int i => cases b with
    | int j => exact h
    | _ => cases h
  | str i => cases b with
    | str j => have h : gAddS (.str i) (.str j) = some c := h; simp only [gOr, gInt, h]
    | _ => cases h
  | tup i => cases b with
    | tup j =>
      cases i with
      | nil =>
        simp only [gAdd] at h
        split at h
        · cases h; rfl
        · cases h
      | cons i0 ir =>
        simp only [gAdd] at h
        split at h
        · rename_i hl
          cases h
          have e : gAddT (.tup (i0 :: ir)) (.tup j) = some (.tup (i0 :: ir ++ j)) := by
            simp only [gAddT, List.isEmpty_cons, Bool.not_false, Bool.and_true]
            rw [if_pos (by simpa using hl)]
          simp only [gOr, gInt, gAddS, gAddT0, e]
        · cases h
    | _ => cases h
  | lst i => cases b with
    | lst j => exact h
    | _ => cases h
  | _ => cases h

def gSub : G2 := gInt fun i j => some (i - j)
theorem om_sub : OpM X (binaryOp .Sub) gSub := ⟨_, op_sub, sv_int0⟩
instance (i j : Int) : Decidable (CMul i j) := by unfold CMul; infer_instance
instance (i j : Int) : Decidable (CPow i j) := by unfold CPow; infer_instance
def gMul : G2 := gInt fun i j => if CMul i j then some (i * j) else none
theorem om_mul : OpM X (binaryOp .Mult) gMul := ⟨_, op_mul, sv_int⟩
/-- by a positive number below 2 ^ 64 -/
def CDv (i j : Int) : Prop := 0 < j ∧ j < 18446744073709551616
instance (i j : Int) : Decidable (CDv i j) := by unfold CDv; infer_instance
theorem op_div : OpR X (binaryOp .FloorDiv) (rI CDv fun i j => .int (i / j)) := opI fun i j _ _ _ _ _ hc q => by
  have h1 : (0 : Int) < j := hc.1
  have h2 : j < 18446744073709551616 := hc.2
  refine floordiv_int (by omega) (by rw [Int.fdiv_eq_ediv_of_nonneg i (by omega)]; exact q) (.inl (PyProof.noPylong_of_log2 ?_))
  have h3 : j.natAbs < 2 ^ 64 := by omega
  have h4 : j.natAbs ≠ 0 := by omega
  have := (Nat.log2_lt h4).mpr h3
  omega
def gDiv : G2 := gInt fun i j => if CDv i j then some (i / j) else none
theorem om_div : OpM X (binaryOp .FloorDiv) gDiv := ⟨_, op_div, sv_int⟩
def gMod : G2 := gInt fun i j => if 0 < j then some (i % j) else none
theorem om_mod : OpM X (binaryOp .Mod) gMod := ⟨_, op_mod, sv_int⟩
def gAnd : G2 := gInt fun i j => some (Builtin.bitAnd i j)
theorem om_band : OpM X (binaryOp .BitAnd) gAnd := ⟨_, op_and, sv_int0⟩
def gOrB : G2 := gInt fun i j => some (Builtin.bitOr i j)
theorem om_bor : OpM X (binaryOp .BitOr) gOrB := ⟨_, op_or, sv_int0⟩
def gXor : G2 := gInt fun i j => some (Builtin.bitXor i j)
theorem om_bxor : OpM X (binaryOp .BitXor) gXor := ⟨_, op_xor, sv_int0⟩
def gShl : G2 := gInt fun i j => if CPow i j then some (i * 2 ^ j.toNat) else none
theorem om_shl : OpM X (binaryOp .LShift) gShl := ⟨_, op_shl, sv_int⟩
def gShr : G2 := gInt fun i j => if 0 ≤ j then some (i / 2 ^ j.toNat) else none
theorem om_shr : OpM X (binaryOp .RShift) gShr := ⟨_, op_shr, sv_int⟩
def gPow : G2 := gInt fun i j => if CPow i j then some (i ^ j.toNat) else none
theorem om_pow : OpM X (binaryOp .Pow) gPow := ⟨_, op_pow, sv_int⟩
def gLt : G2 := gIntB fun i j => decide (i < j)
def gLe : G2 := gIntB fun i j => decide (i ≤ j)
def gGt : G2 := gIntB fun i j => decide (j < i)
def gGe : G2 := gIntB fun i j => decide (j ≤ i)
theorem om_lt : OpM X (compareOp .Lt) gLt := ⟨_, op_lt, sv_intB⟩
theorem om_le : OpM X (compareOp .LtE) gLe := ⟨_, op_le, sv_intB⟩
theorem om_gt : OpM X (compareOp .Gt) gGt := ⟨_, op_gt, sv_intB⟩
theorem om_ge : OpM X (compareOp .GtE) gGe := ⟨_, op_ge, sv_intB⟩

/-! #### == and != of data -/
end
mutual
def plainD : D → Bool
  | .non => true
  | .bl _ => true
  | .int _ => true
  | .str x => x.all (· < 0x110000)
  | .tup xs => plainDs xs
  | .lst xs => plainDs xs
  | .dic _ _ => false
  | .ref _ => false
def plainDs : List D → Bool
  | [] => true
  | d :: ds => plainD d && plainDs ds
end
mutual
def dpt : D → Nat
  | .tup xs => dpts xs + 1
  | .lst xs => dpts xs + 1
  | _ => 0
def dpts : List D → Nat
  | [] => 0
  | d :: ds => max (dpt d) (dpts ds)
end
mutual
def toPy : D → PyData
  | .non => .none
  | .bl b => .bool b
  | .int i => .int i
  | .str x => .str ⟨x.toArray⟩
  | .tup xs => .tuple (toPys xs)
  | .lst xs => .list (toPys xs)
  | .dic _ _ => .none
  | .ref _ => .none
def toPys : List D → List PyData
  | [] => []
  | d :: ds => toPy d :: toPys ds
end
mutual
def eqD : D → D → Bool
  | .non, b => match b with
    | .non => true
    | _ => false
  | .bl a, b => match b with
    | .bl c => a == c
    | .int j => (if a then 1 else 0) == j
    | _ => false
  | .int i, b => match b with
    | .int j => i == j
    | .bl c => i == (if c then 1 else 0)
    | _ => false
  | .str x, b => match b with
    | .str y => x == y
    | _ => false
  | .tup xs, b => match b with
    | .tup ys => eqDs xs ys
    | _ => false
  | .lst xs, b => match b with
    | .lst ys => eqDs xs ys
    | _ => false
  | .dic _ _, _ => false
  | .ref _, _ => false
def eqDs : List D → List D → Bool
  | [], b => b.isEmpty
  | x :: xs, b => match b with
    | [] => false
    | y :: ys => eqD x y && eqDs xs ys
end
theorem str_eq_iff (x y : List Nat) : ((⟨x.toArray⟩ : Str) == (⟨y.toArray⟩ : Str)) = (x == y) := by
  rw [Bool.eq_iff_iff]
  simp
mutual
theorem eqv_toPy : ∀ (a b : D), plainD a = true → plainD b = true → PyData.eqv (toPy a) (toPy b) = eqD a b
  | .non, b, _, hb => by cases b <;> first | (simp [plainD] at hb; done) | (simp [toPy, eqD, PyData.eqv]; done)
  | .bl a, b, _, hb => by cases b <;> first | (simp [plainD] at hb; done) | (simp [toPy, eqD, PyData.eqv]; done)
  | .int a, b, _, hb => by cases b <;> first | (simp [plainD] at hb; done) | (simp [toPy, eqD, PyData.eqv]; done)
  | .str a, b, _, hb => by
    cases b with
    | str y => simp only [toPy, eqD, PyData.eqv]; exact str_eq_iff _ _
    | dic _ _ => simp [plainD] at hb
    | ref _ => simp [plainD] at hb
    | _ => simp [toPy, eqD, PyData.eqv]
  | .tup a, b, ha, hb => by
    cases b with
    | tup b => simp only [toPy, eqD, PyData.eqv]; exact eqvs_toPys a b (by simpa [plainD] using ha) (by simpa [plainD] using hb)
    | dic _ _ => simp [plainD] at hb
    | ref _ => simp [plainD] at hb
    | _ => simp [toPy, eqD, PyData.eqv]
  | .lst a, b, ha, hb => by
    cases b with
    | lst b => simp only [toPy, eqD, PyData.eqv]; exact eqvs_toPys a b (by simpa [plainD] using ha) (by simpa [plainD] using hb)
    | dic _ _ => simp [plainD] at hb
    | ref _ => simp [plainD] at hb
    | _ => simp [toPy, eqD, PyData.eqv]
  | .dic _ _, _, ha, _ => by simp [plainD] at ha
  | .ref _, _, ha, _ => by simp [plainD] at ha
theorem eqvs_toPys : ∀ (a b : List D), plainDs a = true → plainDs b = true → PyData.eqvAll (toPys a) (toPys b) = eqDs a b
  | [], [], _, _ => by simp [toPys, eqDs, PyData.eqvAll]
  | [], _ :: _, _, _ => by simp [toPys, eqDs, PyData.eqvAll]
  | _ :: _, [], _, _ => by simp [toPys, eqDs, PyData.eqvAll]
  | x :: xs, y :: ys, ha, hb => by
    simp only [plainDs, Bool.and_eq_true] at ha hb
    simp only [toPys, eqDs, PyData.eqvAll]
    rw [eqv_toPy x y ha.1 hb.1, eqvs_toPys xs ys ha.2 hb.2]
end
mutual
theorem canLay_toPy : ∀ (a : D), plainD a = true → (toPy a).canLay0 = true
  | .non, _ => by simp [toPy, PyData.canLay0]
  | .bl _, _ => by simp [toPy, PyData.canLay0]
  | .int _, _ => by simp [toPy, PyData.canLay0]
  | .str x, h => by simp only [toPy, PyData.canLay0, PyData.strOk]; simpa [plainD] using h
  | .tup xs, h => by simp only [toPy, PyData.canLay0]; exact canLays_toPy xs (by simpa [plainD] using h)
  | .lst xs, h => by simp only [toPy, PyData.canLay0]; exact canLays_toPy xs (by simpa [plainD] using h)
  | .dic _ _, h => by simp [plainD] at h
  | .ref _, h => by simp [plainD] at h
theorem canLays_toPy : ∀ (a : List D), plainDs a = true → PyData.canLayAll0 (toPys a) = true
  | [], _ => by simp [toPys, PyData.canLayAll0]
  | x :: xs, h => by
    simp only [plainDs, Bool.and_eq_true] at h
    simp only [toPys, PyData.canLayAll0, canLay_toPy x h.1, canLays_toPy xs h.2, Bool.and_self]
end
mutual
theorem depth_toPy : ∀ (a : D), (toPy a).depth = dpt a
  | .non => by simp [toPy, PyData.depth, dpt]
  | .bl _ => by simp [toPy, PyData.depth, dpt]
  | .int _ => by simp [toPy, PyData.depth, dpt]
  | .str x => by simp [toPy, PyData.depth, dpt]
  | .tup xs => by simp only [toPy, PyData.depth, dpt]; rw [depths_toPys xs]
  | .lst xs => by simp only [toPy, PyData.depth, dpt]; rw [depths_toPys xs]
  | .dic _ _ => by simp [toPy, PyData.depth, dpt]
  | .ref _ => by simp [toPy, PyData.depth, dpt]
theorem depths_toPys : ∀ (a : List D), PyData.depthAll (toPys a) = dpts a
  | [] => by simp [toPys, PyData.depthAll, dpts]
  | x :: xs => by simp only [toPys, PyData.depthAll, dpts]; rw [depth_toPy x, depths_toPys xs]
end
section
variable {X : Cx} {EX : EXT}
mutual
theorem reads_of {pins : List (Addr × Obj)} {σ : L2.St} {H F : Hp} {s : Shared} {α : List Addr} (I : Inv X pins σ H s) (sub : Same F H) : ∀ (d : D) (v : V) (u : Value), plainD d = true → Rep X.K F α d v → RelV v u → ∃ as, Reads s.heap u (toPy d) as
  | .non, v, u, _, h, r => by unfold Rep at h; subst h; cases r; exact ⟨_, by rw [toPy]; exact .none⟩
  | .bl b, v, u, _, h, r => by unfold Rep at h; subst h; cases r; exact ⟨_, by rw [toPy]; exact .bool b⟩
  | .int b, v, u, _, h, r => by unfold Rep at h; subst h; obtain ⟨t, rfl⟩ := r; exact ⟨_, by rw [toPy]; exact .int b t⟩
  | .str b, v, u, _, h, r => by unfold Rep at h; subst h; obtain ⟨t, rfl⟩ := r; exact ⟨_, by rw [toPy]; exact .str _ t⟩
  | .tup ds, v, u, hp, h, r => by
    unfold Rep at h
    obtain ⟨a, vs, rfl, hs, hr⟩ := h
    cases r
    obtain ⟨its, rv, ⟨o, e1, e2, n, e3⟩, _⟩ := I.tuple (Same.tup sub hs)
    obtain ⟨as, q⟩ := readsAll_of I sub ds vs its (by simpa [plainD] using hp) hr rv
    exact ⟨_, by rw [toPy]; exact .tuple e1 e2 e3 (by simpa using q)⟩
  | .lst ds, v, u, hp, h, r => by
    unfold Rep at h
    obtain ⟨a, vs, rfl, hs, hr⟩ := h
    cases r
    obtain ⟨its, rv, ⟨o, n, e1, e2, _, e3⟩, _⟩ := I.list (sub.seq hs)
    obtain ⟨as, q⟩ := readsAll_of I sub ds vs its (by simpa [plainD] using hp) hr rv
    exact ⟨_, by rw [toPy]; exact .list e1 e2 e3 (by simpa using q)⟩
  | .dic _ _, _, _, hp, _, _ => by simp [plainD] at hp
  | .ref _, _, _, hp, _, _ => by simp [plainD] at hp
theorem readsAll_of {pins : List (Addr × Obj)} {σ : L2.St} {H F : Hp} {s : Shared} {α : List Addr} (I : Inv X pins σ H s) (sub : Same F H) : ∀ (ds : List D) (vs : List V) (us : List Value), plainDs ds = true → Reps X.K F α ds vs → Vals vs us → ∃ as, ReadsAll s.heap us (toPys ds) as
  | [], vs, us, _, h, r => by unfold Reps at h; subst h; cases r; exact ⟨_, by rw [toPys]; exact .nil⟩
  | d :: ds, vs, us, hp, h, r => by
    unfold Reps at h
    obtain ⟨v, vr, rfl, h1, h2⟩ := h
    cases r with
    | cons r1 r2 =>
      simp only [plainDs, Bool.and_eq_true] at hp
      obtain ⟨as, q1⟩ := reads_of I sub d v _ hp.1 h1 r1
      obtain ⟨bs, q2⟩ := readsAll_of I sub ds vr _ hp.2 h2 r2
      exact ⟨_, by rw [toPys]; exact .cons q1 q2⟩
end
theorem reads_pk {pins : List (Addr × Obj)} {σ : L2.St} {H F : Hp} {s : Shared} {α : List Addr} (I : Inv X pins σ H s) (sub : Same F H) {d : D} {v : V} {u : Value} (hp : plainD d = true) (h : Pk X.K α F H d v) (r : RelV v u) : ∃ as, Reads s.heap u (toPy d) as := by
  cases d with
  | lst ds =>
    obtain ⟨a, vs, rfl, hs, hr⟩ := h
    cases r
    obtain ⟨its, rv, ⟨o, n, e1, e2, _, e3⟩, _⟩ := I.list hs
    obtain ⟨as, q⟩ := readsAll_of I sub ds vs its (by simpa [plainD] using hp) hr rv
    exact ⟨_, by rw [toPy]; exact .list e1 e2 e3 (by simpa using q)⟩
  | dic _ _ => simp [plainD] at hp
  | _ => exact reads_of (α := α) I sub _ v u hp h r
/-- both are data, one of them not deep -/
def cmpOk (a b : D) : Bool := plainD a && plainD b && decide (min (dpt a) (dpt b) ≤ 100)
def gEq : G2 := fun a b => if cmpOk a b then some (.bl (eqD a b)) else none
def gNe : G2 := fun a b => if cmpOk a b then some (.bl (!eqD a b)) else none
/-- the values read as the data a, b -/
def rDat (K : PySem.W.Frag) (neg : Bool) : R2 := fun x y H Q => ∃ F α a b, Same F H ∧ Pk K α F H a x ∧ Pk K α F H b y ∧ cmpOk a b = true ∧ Q (.bl (if neg then !eqD a b else eqD a b)) H
theorem cmp_room {A : Around} {a b : D} (hu : A.units + 200 < cLine) (h : cmpOk a b = true) : A.units + min (toPy a).depth (toPy b).depth < cLine := by
  unfold cmpOk at h
  simp only [Bool.and_eq_true, decide_eq_true_eq] at h
  rw [depth_toPy, depth_toPy]
  omega
theorem op_eqD (hu : X.A.units + 200 < cLine) : OpR X (compareOp .Eq) (rDat X.K false) := by
  intro pins s σ H x y v u Q I rx ry h
  obtain ⟨F, α, a, b, sub, ha, hb, hc, q⟩ := h
  have hc' := hc
  unfold cmpOk at hc'
  simp only [Bool.and_eq_true] at hc'
  obtain ⟨as, r1⟩ := reads_pk I sub hc'.1.1 ha rx
  obtain ⟨bs, r2⟩ := reads_pk I sub hc'.1.2 hb ry
  refine PySem.SeqAt.compareEq_reads r1 r2 (canLay_toPy _ hc'.1.1) (canLay_toPy _ hc'.1.2) (cmp_room hu hc) ?_
  rw [eqv_toPy _ _ hc'.1.1 hc'.1.2]
  exact ⟨.bl _, H, I, rfl, q⟩
theorem op_neD (hu : X.A.units + 200 < cLine) : OpR X (compareOp .NotEq) (rDat X.K true) := by
  intro pins s σ H x y v u Q I rx ry h
  obtain ⟨F, α, a, b, sub, ha, hb, hc, q⟩ := h
  have hc' := hc
  unfold cmpOk at hc'
  simp only [Bool.and_eq_true] at hc'
  obtain ⟨as, r1⟩ := reads_pk I sub hc'.1.1 ha rx
  obtain ⟨bs, r2⟩ := reads_pk I sub hc'.1.2 hb ry
  refine PySem.SeqAt.compareNe_reads r1 r2 (canLay_toPy _ hc'.1.1) (canLay_toPy _ hc'.1.2) (cmp_room hu hc) ?_
  rw [eqv_toPy _ _ hc'.1.1 hc'.1.2]
  exact ⟨.bl _, H, I, rfl, q⟩
theorem om_eq (hu : X.A.units + 200 < cLine) : OpM X (compareOp .Eq) gEq := by
  refine ⟨_, op_eqD hu, fun Z α F H μ a b c x y Q R ha hb hg k => ?_⟩
  unfold gEq at hg
  split at hg
  · rename_i hc
    cases hg
    exact ⟨F, α, a, b, R.sub, ha, hb, hc, k _ F H R (Same.refl _) (rep_bl _)⟩
  · cases hg
theorem om_ne (hu : X.A.units + 200 < cLine) : OpM X (compareOp .NotEq) gNe := by
  refine ⟨_, op_neD hu, fun Z α F H μ a b c x y Q R ha hb hg k => ?_⟩
  unfold gNe at hg
  split at hg
  · rename_i hc
    cases hg
    exact ⟨F, α, a, b, R.sub, ha, hb, hc, k _ F H R (Same.refl _) (rep_bl _)⟩
  · cases hg

/-! #### in, not in -/
def inD (x : D) (ds : List D) : Bool := ds.any fun y => eqD y x
def inOk (x : D) (ds : List D) : Bool := plainD x && plainDs ds && decide (dpt x ≤ 100)
def gInG (neg : Bool) : G2 := fun a b => match b with
  | .lst ds => if inOk a ds then some (.bl (if neg then !inD a ds else inD a ds)) else none
  | .tup ds => if inOk a ds then some (.bl (if neg then !inD a ds else inD a ds)) else none
  | _ => none
def gIn : G2 := gInG false
def gNotIn : G2 := gInG true
/-- the items' answers, by a choice function on the values: a value tells its own datum's answer -/
theorem in_fun {pins : List (Addr × Obj)} {σ : L2.St} {H F : Hp} {s : Shared} {α : List Addr} {A : Around} (hu : A.units + 150 < cLine) (I : Inv X pins σ H s) (sub : Same F H) {x : D} {v : V} {u : Value} (hx : plainD x = true) (hd : dpt x ≤ 100)
    (h : Pk X.K α F H x v) (r : RelV v u) (ds : List D) (vs : List V) (us : List Value) (hp : plainDs ds = true) (hr : Reps X.K F α ds vs) (rv : Vals vs us) :
    ∃ e : Value → Bool, (∀ w ∈ us, SeqAt.EqAt A s w u (e w)) ∧ us.any e = inD x ds := by
  obtain ⟨bs, rx⟩ := reads_pk I sub hx h r
  have hone : ∀ (d : D) (w : Value) (as : List Addr), plainD d = true → Reads s.heap w (toPy d) as → SeqAt.EqAt A s w u (eqD d x) := fun d w as hd' q => by
    have := PySem.SeqAt.eqAt_reads (toPy d) (toPy x) A s w u as bs q rx (canLay_toPy _ hd') (canLay_toPy _ hx) (by rw [depth_toPy, depth_toPy]; omega)
    rw [eqv_toPy _ _ hd' hx] at this
    exact this
  classical
  let e : Value → Bool := fun w => decide (∃ d as, plainD d = true ∧ Reads s.heap w (toPy d) as ∧ eqD d x = true)
  have he : ∀ (d : D) (w : Value) (as : List Addr), plainD d = true → Reads s.heap w (toPy d) as → e w = eqD d x := fun d w as hd' q => by
    cases hq : eqD d x with
    | true => exact decide_eq_true ⟨d, as, hd', q, hq⟩
    | false =>
      refine decide_eq_false ?_
      rintro ⟨d2, as2, hp2, q2, e2⟩
      have e3 := PySem.SeqAt.Reads.unique (toPy d) (toPy d2) w as as2 (canLay_toPy _ hd') q q2
      rw [← eqv_toPy _ _ hp2 hx, ← e3, eqv_toPy _ _ hd' hx, hq] at e2
      cases e2
  have all : ∀ (ds : List D) (vs : List V) (us : List Value), plainDs ds = true → Reps X.K F α ds vs → Vals vs us → (∀ w ∈ us, SeqAt.EqAt A s w u (e w)) ∧ us.any e = inD x ds := by
    intro ds
    induction ds with
    | nil =>
      intro vs us _ hr rv
      unfold Reps at hr
      subst hr
      cases rv
      exact ⟨fun w hw => (nomatch hw), rfl⟩
    | cons d ds ih =>
      intro vs us hp hr rv
      unfold Reps at hr
      obtain ⟨v1, vr, rfl, h1, h2⟩ := hr
      simp only [plainDs, Bool.and_eq_true] at hp
      cases rv with
      | cons r1 r2 =>
        obtain ⟨as, q1⟩ := reads_of I sub d v1 _ hp.1 h1 r1
        obtain ⟨a1, a2⟩ := ih vr _ hp.2 h2 r2
        refine ⟨fun w hw => ?_, ?_⟩
        · rcases List.mem_cons.mp hw with rfl | hw
          · rw [he d _ as hp.1 q1]; exact hone d _ as hp.1 q1
          · exact a1 w hw
        · rw [List.any_cons, he d _ as hp.1 q1, a2]
          rfl
  exact ⟨e, (all ds vs us hp hr rv).1, (all ds vs us hp hr rv).2⟩
def rInD (K : PySem.W.Frag) (neg : Bool) : R2 := fun x y H Q => ∃ F α a ds p vs, Same F H ∧ Pk K α F H a x ∧ y = .ref p ∧ (SqL K H p vs ∨ SqT K H p vs) ∧ Reps K F α ds vs ∧ inOk a ds = true ∧ Q (.bl (if neg then !inD a ds else inD a ds)) H
theorem op_inD (hu : X.A.units + 200 < cLine) : OpR X (compareOp .In) (rInD X.K false) := by
  intro pins s σ H x y v u Q I rx ry h
  obtain ⟨F, α, a, ds, p, vs, sub, ha, rfl, hq, hr, hc, q⟩ := h
  unfold inOk at hc
  simp only [Bool.and_eq_true, decide_eq_true_eq] at hc
  cases ry
  rcases hq with hq | hq
  · obtain ⟨its, r, pl, hz⟩ := I.list hq
    obtain ⟨e, e1, e2⟩ := in_fun (A := X.A.in1) (by show X.A.units + 1 + 150 < cLine; omega) I sub hc.1.1 hc.2 ha rx ds vs its hc.1.2 hr r
    refine SeqAt.in_listAt e pl.isList (fun w hw => e1 w (by simpa using hw)) ⟨.bl _, H, I, rfl, ?_⟩
    rw [show its.toArray.any e = its.any e by simp, e2]
    exact q
  · obtain ⟨its, r, pl, hz⟩ := I.tuple hq
    obtain ⟨e, e1, e2⟩ := in_fun (A := X.A.in1) (by show X.A.units + 1 + 150 < cLine; omega) I sub hc.1.1 hc.2 ha rx ds vs its hc.1.2 hr r
    refine SeqAt.in_tupleAt e pl (fun w hw => e1 w (by simpa using hw)) ⟨.bl _, H, I, rfl, ?_⟩
    rw [show its.toArray.any e = its.any e by simp, e2]
    exact q
theorem op_notInD (hu : X.A.units + 200 < cLine) : OpR X (compareOp .NotIn) (rInD X.K true) := by
  intro pins s σ H x y v u Q I rx ry h
  obtain ⟨F, α, a, ds, p, vs, sub, ha, rfl, hq, hr, hc, q⟩ := h
  unfold inOk at hc
  simp only [Bool.and_eq_true, decide_eq_true_eq] at hc
  cases ry
  rcases hq with hq | hq
  · obtain ⟨its, r, pl, hz⟩ := I.list hq
    obtain ⟨e, e1, e2⟩ := in_fun (A := X.A.in1) (by show X.A.units + 1 + 150 < cLine; omega) I sub hc.1.1 hc.2 ha rx ds vs its hc.1.2 hr r
    refine SeqAt.notIn_listAt e pl.isList (fun w hw => e1 w (by simpa using hw)) ⟨.bl _, H, I, rfl, ?_⟩
    rw [show its.toArray.any e = its.any e by simp, e2]
    exact q
  · obtain ⟨its, r, pl, hz⟩ := I.tuple hq
    obtain ⟨e, e1, e2⟩ := in_fun (A := X.A.in1) (by show X.A.units + 1 + 150 < cLine; omega) I sub hc.1.1 hc.2 ha rx ds vs its hc.1.2 hr r
    refine SeqAt.notIn_tupleAt e pl (fun w hw => e1 w (by simpa using hw)) ⟨.bl _, H, I, rfl, ?_⟩
    rw [show its.toArray.any e = its.any e by simp, e2]
    exact q
theorem sv_in {K : PySem.W.Frag} (neg : Bool) : Serves K (rInD K neg) (gInG neg) := by
  intro Z α F H μ a b c x y Q R ha hb hg k
  cases b with
  | lst ds =>
    simp only [gInG] at hg
    split at hg
    · rename_i hc
      have hg := Option.some.inj hg
      subst hg
      obtain ⟨p, vs, rfl, hs, hr⟩ := hb
      exact ⟨F, α, a, ds, p, vs, R.sub, ha, rfl, .inl hs, hr, hc, k _ F H R (Same.refl _) (rep_bl _)⟩
    · cases hg
  | tup ds =>
    simp only [gInG] at hg
    split at hg
    · rename_i hc
      have hg := Option.some.inj hg
      subst hg
      unfold Pk Rep at hb
      obtain ⟨p, vs, rfl, hs, hr⟩ := hb
      exact ⟨F, α, a, ds, p, vs, R.sub, ha, rfl, .inr (Same.tup R.sub hs), hr, hc, k _ F H R (Same.refl _) (rep_bl _)⟩
    · cases hg
  | _ => cases hg
theorem om_in (hu : X.A.units + 200 < cLine) : OpM X (compareOp .In) gIn := ⟨_, op_inD hu, sv_in false⟩
theorem om_notIn (hu : X.A.units + 200 < cLine) : OpM X (compareOp .NotIn) gNotIn := ⟨_, op_notInD hu, sv_in true⟩
end
end M
set_option Elab.async false
set_option linter.all false
set_option maxRecDepth 100000
set_option maxHeartbeats 4000000
namespace M
open PySem PySem.Spec PyProof.Rows L2

/-! ### dicts that are only read -/
def keyD (d : D) : Option DK := match d with
  | .int i => some (.inl i)
  | .str x => some (.inr x)
  | _ => none
def lookK : List DK → List D → DK → Option D
  | k :: ks, v :: vs, q => if k = q then some v else lookK ks vs q
  | _, _, _ => none
theorem dk_inj {a b : DK} (h : dk a = dk b) : a = b := by
  cases a with
  | inl i =>
    cases b with
    | inl j => exact congrArg _ (Sum.inl.inj h)
    | inr y => cases h
  | inr x =>
    cases b with
    | inl j => cases h
    | inr y =>
      have h2 : (⟨x.toArray⟩ : Str) = ⟨y.toArray⟩ := Sum.inr.inj h
      have h3 : x.toArray = y.toArray := by injection h2
      have h4 : x = y := by simpa using congrArg Array.toList h3
      rw [h4]
theorem key_pk {K : PySem.W.Frag} {α : List Addr} {F H : Hp} {d : D} {v : V} {k : DK} (h : Pk K α F H d v) (e : keyD d = some k) : v = kV (dk k) := by
  cases d with
  | int i => cases e; exact pk_int h
  | str x => cases e; exact pk_str h
  | _ => cases e
theorem look_val {K : PySem.W.Frag} {F : Hp} {α : List Addr} : ∀ {ks : List DK} {ds : List D} {vs : List V} {k : DK}, Reps K F α ds vs → ks.length = ds.length →
    (∃ d v, lookK ks ds k = some d ∧ valV ((ks.map dk).zip vs) (dk k) = some v ∧ Rep K F α d v) ∨ (lookK ks ds k = none ∧ valV ((ks.map dk).zip vs) (dk k) = none)
  | [], _, _, _, _, _ => .inr ⟨rfl, rfl⟩
  | q :: ks, [], vs, k, _, hl => by simp at hl
  | q :: ks, d :: ds, vs, k, h, hl => by
    unfold Reps at h
    obtain ⟨v, vr, rfl, h1, h2⟩ := h
    by_cases e : q = k
    · subst e
      refine .inl ⟨d, v, by simp [lookK], ?_, h1⟩
      exact valV_pos (p := (dk q, v)) rfl
    · have e2 : ¬ dk q = dk k := fun z => e (dk_inj z)
      have ih := look_val (k := k) h2 (by simpa using hl)
      rw [show lookK (q :: ks) (d :: ds) k = lookK ks ds k by simp [lookK, e], show valV (((q :: ks).map dk).zip (v :: vr)) (dk k) = valV ((ks.map dk).zip vr) (dk k) from valV_neg (p := (dk q, v)) e2]
      exact ih
def gDGet : G2 := fun a b => match a with
  | .dic ks vs => (keyD b).bind (lookK ks vs)
  | _ => none
def gDIn (neg : Bool) : G2 := fun b a => match a with
  | .dic ks vs => (keyD b).map fun k => .bl (if neg then !(lookK ks vs k).isSome else (lookK ks vs k).isSome)
  | _ => none
section
variable {X : Cx} {EX : EXT} {e a b c : Expr} {pos : Pos} {m ma mb mc : MX} {es rest : List Expr}
theorem sv_dget {K : PySem.W.Frag} : Serves K (fun x y H Q => ∃ a v, x = .ref a ∧ DGet H a y (some v) ∧ Q v H) gDGet := by
  intro Z α F H μ a b c x y Q R ha hb hg k
  cases a with
  | dic ks ds =>
    simp only [gDGet] at hg
    cases hk : keyD b with
    | none => rw [hk] at hg; cases hg
    | some q =>
      rw [hk] at hg
      have hy := key_pk hb hk
      obtain ⟨p, vs, rfl, hs, hl, hr⟩ := ha
      rcases look_val (k := q) hr hl with ⟨d, v, h1, h2, h3⟩ | ⟨h1, h2⟩
      · have hg : lookK ks ds q = some c := hg
        rw [h1] at hg
        cases hg
        subst hy
        exact ⟨p, v, rfl, by rw [← h2]; exact DGet.k hs, k v F H R (Same.refl _) h3⟩
      · have hg : lookK ks ds q = some c := hg
        rw [h1] at hg
        cases hg
  | _ => cases hg
theorem me_dget (hu : X.A.units + 200 < cLine) (ha : ME X EX a ma) (hb : ME X EX b mb) (hs : NoSl b) : ME X EX (.Subscript a b pos) (mBin gDGet ma mb) := by
  obtain ⟨ta, pa, sa⟩ := ha
  obtain ⟨tb, pb, sb⟩ := hb
  exact ⟨_, pe_dget (by omega) pa pb hs, good_two (r := fun x y H Q => ∃ a v, x = .ref a ∧ DGet H a y (some v) ∧ Q v H) sa sb sv_dget⟩
theorem sv_din {K : PySem.W.Frag} (neg : Bool) : Serves K (fun y x H Q => ∃ a o, x = .ref a ∧ DGet H a y o ∧ Q (.bl (if neg then !o.isSome else o.isSome)) H) (gDIn neg) := by
  intro Z α F H μ b a c y x Q R hb ha hg k
  cases a with
  | dic ks ds =>
    simp only [gDIn] at hg
    cases hk : keyD b with
    | none => rw [hk] at hg; cases hg
    | some q =>
      rw [hk] at hg
      have hg := Option.some.inj hg
      subst hg
      have hy := key_pk hb hk
      subst hy
      obtain ⟨p, vs, rfl, hs, hl, hr⟩ := ha
      refine ⟨p, _, rfl, DGet.k hs, k _ F H R (Same.refl _) ?_⟩
      show Rep K F α (D.bl (if neg = true then !(lookK ks ds q).isSome else (lookK ks ds q).isSome)) _
      rcases look_val (k := q) hr hl with ⟨d, v, h1, h2, h3⟩ | ⟨h1, h2⟩
      · rw [h1, h2]; exact rep_bl _
      · rw [h1, h2]; exact rep_bl _
  | _ => cases hg

theorem me_din (hu : X.A.units + 200 < cLine) (ha : ME X EX a ma) (hb : ME X EX b mb) (hm : behindInMarks .In b = false) : ME X EX (.Compare a [.In] [b] pos) (mBin (gDIn false) ma mb) := by
  obtain ⟨ta, pa, sa⟩ := ha
  obtain ⟨tb, pb, sb⟩ := hb
  exact ⟨_, pe_cmp (pc_din (by omega) pa pb) hm, good_two (r := fun y x H Q => ∃ a o, x = .ref a ∧ DGet H a y o ∧ Q (.bl (if false then !o.isSome else o.isSome)) H) sa sb (sv_din false)⟩
theorem mt_din (hu : X.A.units + 200 < cLine) (ha : ME X EX a ma) (hb : ME X EX b mb) (hm : behindInMarks .In b = false) : MT X EX (.Compare a [.In] [b] pos) (mTest (mBin (gDIn false) ma mb)) := by
  obtain ⟨ta, pa, sa⟩ := ha
  obtain ⟨tb, pb, sb⟩ := hb
  exact ⟨_, pt_cmp (pc_din (by omega) pa pb) hm, good_test (good_two (r := fun y x H Q => ∃ a o, x = .ref a ∧ DGet H a y o ∧ Q (.bl (if false then !o.isSome else o.isSome)) H) sa sb (sv_din false))⟩
theorem me_dnotin (hu : X.A.units + 200 < cLine) (ha : ME X EX a ma) (hb : ME X EX b mb) (hm : behindInMarks .NotIn b = false) : ME X EX (.Compare a [.NotIn] [b] pos) (mBin (gDIn true) ma mb) := by
  obtain ⟨ta, pa, sa⟩ := ha
  obtain ⟨tb, pb, sb⟩ := hb
  exact ⟨_, pe_cmp (pc_dnotin (by omega) pa pb) hm, good_two (r := fun y x H Q => ∃ a o, x = .ref a ∧ DGet H a y o ∧ Q (.bl (if true then !o.isSome else o.isSome)) H) sa sb (sv_din true)⟩
theorem mt_dnotin (hu : X.A.units + 200 < cLine) (ha : ME X EX a ma) (hb : ME X EX b mb) (hm : behindInMarks .NotIn b = false) : MT X EX (.Compare a [.NotIn] [b] pos) (mTest (mBin (gDIn true) ma mb)) := by
  obtain ⟨ta, pa, sa⟩ := ha
  obtain ⟨tb, pb, sb⟩ := hb
  exact ⟨_, pt_cmp (pc_dnotin (by omega) pa pb) hm, good_test (good_two (r := fun y x H Q => ∃ a o, x = .ref a ∧ DGet H a y o ∧ Q (.bl (if true then !o.isSome else o.isSome)) H) sa sb (sv_din true))⟩

/-! ### a dict display: its keys written -/
/-- an object that is kept for another use -/
theorem RH.hold {K : PySem.W.Frag} {Z F H : Hp} {α : List Addr} {μ : Mu} {p : Addr} (o : HO) (r : RH K Z α F H μ) (hp : H p = none) : RH K (upd Z p o) α F (upd H p o) μ := by
  have fp : F p = none := by
    cases e : F p with
    | none => rfl
    | some u => rw [r.sub _ _ e] at hp; cases hp
  refine ⟨fun b u e => ?_, r.len, fun k a c ha hc => ?_, fun b u e => ?_, fun b u e => ?_, fun k a c ha hc hd => ?_, r.dis⟩
  · rw [upd_ne (ne_of_none (r.sub b u e) hp)]; exact r.sub b u e
  · have h := r.cell k a c ha hc
    cases c with
    | lst ds =>
      obtain ⟨h1, vs, h2, h3⟩ := h
      exact ⟨h1, vs, by rw [upd_ne (ne_of_none h2 hp)]; exact h2, h3⟩
    | dic ks ds =>
      obtain ⟨h1, vs, h2, hl, h3⟩ := h
      exact ⟨h1, vs, by rw [upd_ne (ne_of_none h2 hp)]; exact h2, hl, h3⟩
    | dead => trivial
  · by_cases hb : b = p
    · subst hb; rw [upd_same] at e ⊢; exact e
    · rw [upd_ne hb] at e ⊢; exact r.zs b u e
  · by_cases hb : b = p
    · subst hb; exact fp
    · rw [upd_ne hb] at e; exact r.zf b u e
  · have h := r.cell k a c ha hc
    have hz := r.zc k a c ha hc hd
    cases c with
    | lst ds =>
      obtain ⟨h1, vs, h2, h3⟩ := h
      rw [upd_ne (ne_of_none h2 hp)]; exact hz
    | dic ks ds =>
      obtain ⟨h1, vs, h2, hl, h3⟩ := h
      rw [upd_ne (ne_of_none h2 hp)]; exact hz
    | dead => exact absurd rfl hd
/-- what was held is changed, and frozen -/
theorem RH.unhold {K : PySem.W.Frag} {Z F H : Hp} {α : List Addr} {μ : Mu} {p : Addr} {o : HO} (o' : HO) (r : RH K (upd Z p o) α F H μ) (hz : Z p = none) : RH K Z α (upd F p o') (upd H p o') μ ∧ Same F (upd F p o') := by
  have fp : F p = none := r.zf p o upd_same
  have sF : Same F (upd F p o') := fun b u e => by rw [upd_ne (ne_of_none e fp)]; exact e
  have ex : Ext α F α (upd F p o') := ⟨sF, fun _ _ h => h⟩
  have nc : ∀ (k : Nat) (a : Addr) (c : Cell), α[k]? = some a → μ[k]? = some c → c ≠ .dead → a ≠ p := fun k a c ha hc hd z => by
    have := r.zc k a c ha hc hd
    rw [z, upd_same] at this
    cases this
  refine ⟨⟨fun b u e => ?_, r.len, fun k a c ha hc => ?_, fun b u e => ?_, fun b u e => ?_, fun k a c ha hc hd => ?_, r.dis⟩, sF⟩
  · by_cases hb : b = p
    · subst hb; rw [upd_same] at e ⊢; exact e
    · rw [upd_ne hb] at e ⊢; exact r.sub b u e
  · have h := r.cell k a c ha hc
    cases c with
    | lst ds =>
      obtain ⟨h1, vs, h2, h3⟩ := h
      have ne := nc k a _ ha hc (by intro z; cases z)
      exact ⟨by rw [upd_ne ne]; exact h1, vs, by rw [upd_ne ne]; exact h2, h3.mono ex⟩
    | dic ks ds =>
      obtain ⟨h1, vs, h2, hl, h3⟩ := h
      have ne := nc k a _ ha hc (by intro z; cases z)
      exact ⟨by rw [upd_ne ne]; exact h1, vs, by rw [upd_ne ne]; exact h2, hl, h3.mono ex⟩
    | dead => trivial
  · have hb : b ≠ p := ne_of_none e hz
    rw [upd_ne hb]
    exact r.zs b u (by rw [upd_ne hb]; exact e)
  · have hb : b ≠ p := ne_of_none e hz
    rw [upd_ne hb]
    exact r.zf b u (by rw [upd_ne hb]; exact e)
  · have ne := nc k a c ha hc hd
    have := r.zc k a c ha hc hd
    rw [upd_ne ne] at this
    exact this
def MPs (X : Cx) (EX : EXT) (pos : Pos) (keys : List (Option Expr)) (values : List Expr) (ks : List DK) (ms : MAs) : Prop :=
  keys.length = ks.length ∧ (∃ trs, PPs X pos keys values trs ∧ ∀ Z α F H σ ρ μ Q, RS X.K Z α F H σ ρ μ → GA X.K EX Z α F (fun vs H' => Q ((ks.map fun k => kV (dk k)).zip vs) H') (ms ρ μ) → tPairs trs σ H Q) ∧ ∀ ρ μ ds μ', ms ρ μ = .ok ds μ' → ds.length = ks.length
theorem mps_nil : MPs X EX pos [] [] [] mNil := ⟨rfl, ⟨[], pps_nil, fun Z α F H σ ρ μ Q R g => g [] α F H R.hp (Ext.refl _ _) reps_nil⟩, fun ρ μ ds μ' h => by cases h; rfl⟩
theorem mps_cons {x : Str} {cs : List Nat} {j : Nat} {p : Pos} {v : Expr} {ks : List (Option Expr)} {vs : List Expr} {kd : List DK} {ms : MAs} (hx : x = ⟨cs.toArray⟩) (hv : ME X EX v m) (hr : MPs X EX pos ks vs kd ms) :
    MPs X EX pos (some (.Constant (.str x) j p) :: ks) (v :: vs) (.inr cs :: kd) (mCons m ms) := by
  obtain ⟨tv, pv, sv⟩ := hv
  obtain ⟨hk, ⟨trs, pr, sr⟩, lr⟩ := hr
  refine ⟨by simp [hk], ⟨_, pps_cons pe_str pv pr, fun Z α F H σ ρ μ Q R g => ?_⟩, fun ρ μ ds μ' h => ?_⟩
  rotate_left
  · unfold mCons at h
    cases e1 : m ρ μ with
    | ok d μ1 =>
      rw [e1] at h
      simp only [bind_ok] at h
      cases e2 : ms ρ μ1 with
      | ok dr μ2 =>
        rw [e2] at h
        simp only [bind_ok] at h
        cases h
        simp [lr _ _ _ _ e2]
      | exc x μ2 => rw [e2] at h; cases h
      | bad => rw [e2] at h; cases h
    | exc x μ1 => rw [e1] at h; cases h
    | bad => rw [e1] at h; cases h
  show tv σ H _
  refine sv Z α F H σ ρ μ _ R (GE.step (G := GA X.K EX Z α F fun vs H' => Q (((Sum.inr cs :: kd).map fun k => kV (dk k)).zip vs) H') g (fun _ _ h => h) (fun h => h) fun d μ1 v α1 F1 H1 R1 e1 p1 g1 => ?_)
  refine sr Z α1 F1 H1 σ ρ μ1 _ (R.to R1 e1) (GA.step (G := GA X.K EX Z α F fun vs H' => Q (((Sum.inr cs :: kd).map fun k => kV (dk k)).zip vs) H') g1 (fun _ _ h => h) (fun h => h) fun ds μ2 vs α2 F2 H2 R2 e2 p2 g2 => ?_)
  have := g2 (v :: vs) α2 F2 H2 R2 (e1.trans e2) (reps_cons (p1.mono e2) p2)
  subst hx
  exact this
theorem merge_new : ∀ (more acc : List (Key × V)), ((acc ++ more).map (·.1)).Nodup → mergeK acc more = acc ++ more
  | [], acc, _ => by simp [mergeK]
  | kv :: more, acc, h => by
    have hn : valV acc kv.1 = none := by
      cases e : valV acc kv.1 with
      | none => rfl
      | some v =>
        exfalso
        have hm : kv.1 ∈ acc.map (·.1) := by
          have q : (acc.any fun x => decide (x.1 = kv.1)) = true := by rw [valV_any, e]; rfl
          obtain ⟨p, hp, e⟩ := List.any_eq_true.mp q
          exact List.mem_map.mpr ⟨p, hp, of_decide_eq_true e⟩
        rw [List.map_append, List.nodup_append] at h
        exact h.2.2 _ hm _ (by simp) rfl
    show mergeK (putK acc kv.1 kv.2) more = _
    rw [putK_new _ hn]
    rw [merge_new more (acc ++ [(kv.1, kv.2)]) (by simpa using h)]
    simp
theorem zip_map1 {β γ δ : Type} (f : β → γ) : ∀ (l : List β) (r : List δ), (l.map f).zip r = (l.zip r).map fun p => (f p.1, p.2)
  | [], _ => by simp
  | _ :: _, [] => by simp
  | a :: l, b :: r => by simp only [List.map_cons, List.zip_cons_cons]; rw [zip_map1 f l r]
theorem nodup_dk : ∀ {ks : List DK}, ks.Nodup → (ks.map dk).Nodup
  | [], _ => List.nodup_nil
  | k :: ks, h => by
    rw [List.nodup_cons] at h
    rw [List.map_cons, List.nodup_cons]
    refine ⟨fun hm => ?_, nodup_dk h.2⟩
    obtain ⟨q, hq, e⟩ := List.mem_map.mp hm
    exact h.1 (dk_inj e ▸ hq)
def mDic (ks : List DK) (ms : MAs) : MX := fun ρ μ => (ms ρ μ).bind fun ds μ1 => .ok (.dic ks ds) μ1
theorem me_dic {keys : List (Option Expr)} {values : List Expr} {ks : List DK} {ms : MAs} (h : MPs X EX pos keys values ks ms) (nd : ks.Nodup) (hall : keys.all (·.isSome) = true) (hl : keys.length = values.length) (h0 : keys ≠ []) (h15 : keys.length ≤ 15) :
    ME X EX (.Dict keys values pos) (mDic ks ms) := by
  obtain ⟨hk, ⟨trs, pp, sp⟩, lp⟩ := h
  refine ⟨_, pe_disp pp hall hl h0 h15, fun Z α F H σ ρ μ Q R g => ?_⟩
  intro p hp
  have hz : Z p = none := by
    cases e : Z p with
    | none => rfl
    | some u => rw [R.hp.zs _ _ e] at hp; cases hp
  refine sp (upd Z p (.dK [])) α F (upd H p (.dK [])) σ ρ μ _ ⟨R.hp.hold _ hp, R.len, R.sl⟩ (GA.stepE (G := GE X.K EX Z α F Q) g (fun _ _ h => h) (fun h => h) fun ds μ1 vs α1 F1 H1 hm R1 e1 p1 g1 => ?_)
  have hlen := lp _ _ _ _ hm
  have hlen2 := p1.length
  refine ⟨R1.zs _ _ upd_same, (ks.map dk).zip vs, ?_, ?_, ?_⟩
  · show (ks.map fun k => kV (dk k)).zip vs = ((ks.map dk).zip vs).map fun kv => (kV kv.1, kv.2)
    have : (ks.map fun k => kV (dk k)) = (ks.map dk).map kV := by simp
    rw [this]
    exact zip_map1 kV _ _
  · rw [List.length_zip, List.length_map]; omega
  · have nd2 : (((ks.map dk).zip vs).map (·.1)).Nodup := by
      rw [List.map_fst_zip (by simp; omega)]
      exact nodup_dk nd
    rw [merge_new _ [] (by simpa using nd2), List.nil_append]
    obtain ⟨R2, s2⟩ := R1.unhold (.dK ((ks.map dk).zip vs)) hz
    refine g1 _ α1 _ _ R2 (e1.trans ⟨s2, fun _ _ h => h⟩) ?_
    unfold Rep
    exact ⟨p, vs, rfl, upd_same, by omega, p1.mono ⟨s2, fun _ _ h => h⟩⟩

/-! ### calls of built-ins -/
abbrev GL := List D → Option D
def Pks (K : PySem.W.Frag) (α : List Addr) (F H : Hp) : List D → List V → Prop
  | [], vs => vs = []
  | d :: ds, vs => ∃ v r, vs = v :: r ∧ Pk K α F H d v ∧ Pks K α F H ds r
theorem RH.pks {K : PySem.W.Frag} {Z : Hp} {α : List Addr} {F H : Hp} {μ : Mu} (r : RH K Z α F H μ) : ∀ {ds : List D} {vs : List V}, Reps K F α ds vs → Pks K α F H (ds.map (deref μ)) vs
  | [], vs, h => by unfold Reps at h; exact h
  | d :: ds, vs, h => by
    unfold Reps at h
    obtain ⟨v, vr, hv, h1, h2⟩ := h
    exact ⟨v, vr, hv, r.pk h1, RH.pks r h2⟩
def ServesL (K : PySem.W.Frag) (r : List V → Hp → VK → Prop) (g : GL) : Prop := ∀ Z α F H μ ds c vs Q, RH K Z α F H μ → Pks K α F H ds vs → g ds = some c →
  (∀ v F' H', RH K Z α F' H' μ → Same F F' → Rep K F' α c v → Q v H') → r vs H Q
def CallM (X : Cx) (f : Value) (g : GL) : Prop := ∃ r, CallR X f r ∧ ServesL X.K r g
def mCallB (g : GL) (ms : MAs) : MX := fun ρ μ => (ms ρ μ).bind fun ds μ1 => ofO μ1 (g (ds.map (deref μ1)))
theorem good_callB {t : TA} {ms : MAs} {r : List V → Hp → VK → Prop} {g : GL} (st : ∀ Z α F H σ ρ μ Q, RS X.K Z α F H σ ρ μ → GA X.K EX Z α F Q (ms ρ μ) → t σ H Q) (hs : ServesL X.K r g) : Good X EX (tCB r t) (mCallB g ms) := by
  intro Z α F H σ ρ μ Q R gd
  refine st Z α F H σ ρ μ _ R (GA.step (G := GE X.K EX Z α F Q) gd (fun _ _ h => h) (fun h => h) fun ds μ1 vs α1 F1 H1 R1 e1 p1 g1 => ?_)
  cases hg : g (ds.map (deref μ1)) with
  | none => rw [hg] at g1; exact g1.elim
  | some c =>
    rw [hg] at g1
    exact hs Z α1 F1 H1 μ1 _ c vs Q R1 (R1.pks p1) hg fun v F' H' R' sf rp => g1 v α1 F' H' R' (e1.trans ⟨sf, fun _ _ h => h⟩) rp
theorem me_callB {x : Str} {p : Pos} {id : String} {g : GL} {ms : MAs} (hc : CallM X (.builtin id) g) (hg : Gl X x) (hm : X.mg x = none) (hv : bootBuiltins x = some (.builtin id)) (ha : MA X EX (e :: es) ms) (hn : x ≠ "__name__" := by decide) (hdb : (x == ("__debug__" : Str)) = false := by decide)
    (he : starEach (e :: es) X.env = (false, eval e X.env) :: starEach es X.env := by rfl) (hpl : (backTo pos (starEach es X.env)).any (·.1) = false := by rfl) : ME X EX (.Call (.Name x p) (e :: es) [] pos) (mCallB g ms) := by
  obtain ⟨r, h1, h2⟩ := hc
  obtain ⟨t, pt, st, _⟩ := ha
  exact ⟨_, pe_callB h1 hg hm hv pt hn hdb he hpl, good_callB st h2⟩
theorem me_callTy {x : Str} {p : Pos} {T : String} {g : GL} {ms : MAs} (hc : CallM X (.type T) g) (hg : Gl X x) (hm : X.mg x = none) (hv : bootBuiltins x = some (.type T)) (ha : MA X EX (e :: es) ms) (hn : x ≠ "__name__" := by decide) (hdb : (x == ("__debug__" : Str)) = false := by decide)
    (he : starEach (e :: es) X.env = (false, eval e X.env) :: starEach es X.env := by rfl) (hpl : (backTo pos (starEach es X.env)).any (·.1) = false := by rfl) : ME X EX (.Call (.Name x p) (e :: es) [] pos) (mCallB g ms) := by
  obtain ⟨r, h1, h2⟩ := hc
  obtain ⟨t, pt, st, _⟩ := ha
  exact ⟨_, pe_callTy h1 hg hm hv pt hn hdb he hpl, good_callB st h2⟩
def gLen : GL := fun ds => match ds with
  | [.lst xs] => some (.int xs.length)
  | [.tup xs] => some (.int xs.length)
  | [.str xs] => if xs.length ≤ 16777216 then some (.int xs.length) else none
  | _ => none
theorem cm_len : CallM X (.builtin "len") gLen := by
  refine ⟨_, call_len, fun Z α F H μ ds c vs Q R hp hg k => ?_⟩
  match ds, hg with
  | [.lst xs], hg =>
    obtain ⟨v, r, rfl, ⟨a, us, rfl, hs, hr⟩, hq⟩ := hp
    have hq : r = [] := hq
    subst hq
    cases hg
    exact ⟨_, _, rfl, .inl ⟨us, hs, rfl⟩, by rw [← hr.length]; exact k _ F H R (Same.refl _) (rep_int _)⟩
  | [.tup xs], hg =>
    obtain ⟨v, r, rfl, hv, hq⟩ := hp
    have hq : r = [] := hq
    subst hq
    unfold Pk Rep at hv
    obtain ⟨a, us, rfl, hs, hr⟩ := hv
    cases hg
    exact ⟨_, _, rfl, .inr ⟨us, Same.tup R.sub hs, rfl⟩, by rw [← hr.length]; exact k _ F H R (Same.refl _) (rep_int _)⟩
  | [.str xs], hg =>
    obtain ⟨v, r, rfl, hv, hq⟩ := hp
    have hq : r = [] := hq
    subst hq
    have hv := pk_str hv
    subst hv
    simp only [gLen] at hg
    split at hg
    · rename_i hl
      cases hg
      refine ⟨_, xs.length, rfl, ⟨by rw [sizeLine_eq]; simpa [Str.length] using hl, by simp [Str.length]⟩, k _ F H R (Same.refl _) (rep_int _)⟩
    · cases hg
def gMax : GL := fun ds => match ds with
  | [.int i, .int j] => some (.int (if j > i then j else i))
  | _ => none
def gMin : GL := fun ds => match ds with
  | [.int i, .int j] => some (.int (if j < i then j else i))
  | _ => none
theorem pks2 {K : PySem.W.Frag} {α : List Addr} {F H : Hp} {a b : D} {vs : List V} (h : Pks K α F H [a, b] vs) : ∃ v u, vs = [v, u] ∧ Pk K α F H a v ∧ Pk K α F H b u := by
  obtain ⟨v, r, rfl, h1, u, r', rfl, h2, h3⟩ := h
  have h3 : r' = [] := h3
  subst h3
  exact ⟨v, u, rfl, h1, h2⟩
theorem pks1 {K : PySem.W.Frag} {α : List Addr} {F H : Hp} {a : D} {vs : List V} (h : Pks K α F H [a] vs) : ∃ v, vs = [v] ∧ Pk K α F H a v := by
  obtain ⟨v, r, rfl, h1, h3⟩ := h
  have h3 : r = [] := h3
  subst h3
  exact ⟨v, rfl, h1⟩
theorem cm_max (hc : X.calm = true) : CallM X (.builtin "max") gMax := by
  refine ⟨_, call_max2 hc, fun Z α F H μ ds c vs Q R hp hg k => ?_⟩
  match ds, hg with
  | [.int i, .int j], hg =>
    obtain ⟨v, u, rfl, h1, h2⟩ := pks2 hp
    rw [pk_int h1, pk_int h2]
    cases hg
    exact ⟨i, j, rfl, k _ F H R (Same.refl _) (rep_int _)⟩
theorem cm_min (hc : X.calm = true) : CallM X (.builtin "min") gMin := by
  refine ⟨_, call_min2 hc, fun Z α F H μ ds c vs Q R hp hg k => ?_⟩
  match ds, hg with
  | [.int i, .int j], hg =>
    obtain ⟨v, u, rfl, h1, h2⟩ := pks2 hp
    rw [pk_int h1, pk_int h2]
    cases hg
    exact ⟨i, j, rfl, k _ F H R (Same.refl _) (rep_int _)⟩
def gIntC : GL := fun ds => match ds with
  | [.int i] => some (.int i)
  | [.bl k] => some (.int (if k then 1 else 0))
  | _ => none
theorem cm_int : CallM X (.type "int") gIntC := by
  refine ⟨_, call_int1, fun Z α F H μ ds c vs Q R hp hg k => ?_⟩
  match ds, hg with
  | [.int i], hg =>
    obtain ⟨v, rfl, h1⟩ := pks1 hp
    rw [pk_int h1]
    cases hg
    exact .inl ⟨i, rfl, k _ F H R (Same.refl _) (rep_int _)⟩
  | [.bl i], hg =>
    obtain ⟨v, rfl, h1⟩ := pks1 hp
    rw [pk_bl h1]
    cases hg
    exact .inr ⟨i, rfl, k _ F H R (Same.refl _) (rep_int _)⟩

/-! ### isinstance against one built-in class -/
inductive Ki where
  | int | bool | str | list | tuple
def Ki.nm : Ki → String
  | .int => "int"
  | .bool => "bool"
  | .str => "str"
  | .list => "list"
  | .tuple => "tuple"
def isI (k : Ki) (d : D) : Option Bool := match d, k with
  | .non, _ => some false
  | .bl _, .bool => some true
  | .bl _, .int => some true
  | .bl _, _ => some false
  | .int _, .int => some true
  | .int _, _ => some false
  | .str _, .str => some true
  | .str _, _ => some false
  | .tup _, .tuple => some true
  | .tup _, _ => some false
  | .lst _, .list => some true
  | .lst _, _ => some false
  | .dic _ _, _ => some false
  | .ref _, _ => none
def tyD : D → Option String
  | .non => some "NoneType"
  | .bl _ => some "bool"
  | .int _ => some "int"
  | .str _ => some "str"
  | .tup _ => some "tuple"
  | .lst _ => some "list"
  | .dic _ _ => some "dict"
  | .ref _ => none
theorem isI_kit {K : PySem.W.Frag} {k : Ki} {d : D} {b : Bool} {t : String} (h : isI k d = some b) (ht : tyD d = some t) : PySem.W.kitOne K (.type t) (.type k.nm) = some b := by
  cases d <;> cases ht <;> cases k <;> cases h <;> rfl
/-- isinstance(x, c) of a module's list, tuple too -/
theorem isinst_pk {pins : List (Addr × Obj)} {σ : L2.St} {H F : Hp} {s : Shared} {α : List Addr} {A : Around} {E : Value → Shared → Prop} {Q : Value → Shared → Prop} {cl : Value} {b : Bool} {d : D} {v : V} {u : Value} {t : String}
    (I : Inv X pins σ H s) (sub : Same F H) (h : Pk X.K α F H d v) (r : RelV v u) (ht : tyD d = some t) (e : PySem.W.kitOne X.K (.type t) cl = some b) (q : ∀ tk, Q (.bool b) { s with toks := tk }) :
    wpAny (model X.prog X.w) A (call (.builtin "isinstance") [u, cl]) Q E s := by
  cases d with
  | non => cases ht; have := pk_non h; subst this; exact isinst_ok I r .non e q
  | bl x => cases ht; have := pk_bl h; subst this; exact isinst_ok I r (.bl x) e q
  | int x => cases ht; have := pk_int h; subst this; exact isinst_ok I r (.int x) e q
  | str x => cases ht; have := pk_str h; subst this; exact isinst_ok I r (.str _) e q
  | tup x =>
    cases ht
    unfold Pk Rep at h
    obtain ⟨a, vs, rfl, hs, hr⟩ := h
    cases r
    obtain ⟨its, rv, ⟨o, h1, h2, _⟩, _⟩ := I.tuple (Same.tup sub hs)
    exact PySem.W.kia_one PySem.W.kitx_tuple I.kIn ⟨o, h1, h2⟩ e (fun z => nomatch z) q
  | lst x =>
    cases ht
    obtain ⟨a, vs, rfl, hs, hr⟩ := h
    cases r
    obtain ⟨its, rv, ⟨o, n, h1, h2, _⟩, _⟩ := I.list hs
    exact PySem.W.kia_one PySem.W.kitx_list I.kIn ⟨o, h1, h2⟩ e (fun z => nomatch z) q
  | dic ks x =>
    cases ht
    obtain ⟨a, vs, rfl, hs, _⟩ := h
    exact isinst_ok I r (.dK hs) e q
  | ref x => cases ht
def mIsI (k : Ki) (m : MX) : MX := fun ρ μ => (m ρ μ).bind fun d μ1 => ofO μ1 ((isI k (deref μ1 d)).map .bl)
theorem call_isI (k : Ki) : CallR X (.builtin "isinstance") (fun xs H Q => ∃ F α d v b, Same F H ∧ xs = [v, .ty k.nm] ∧ Pk X.K α F H d v ∧ isI k d = some b ∧ Q (.bl b) H) := by
  intro pins s σ H xs us Q I r h
  obtain ⟨F, α, d, v, b, sub, rfl, hp, hk, q⟩ := h
  obtain ⟨u, w', rfl, h1, h2⟩ := vals2 r
  cases h2
  obtain ⟨t, ht⟩ : ∃ t, tyD d = some t := by
    cases d <;> first | exact ⟨_, rfl⟩ | (cases hk)
  exact isinst_pk I sub hp h1 ht (isI_kit hk ht) fun tk => ⟨.bl b, H, I.tok _, rfl, q⟩
theorem me_isI {x : Str} {p p2 : Pos} (k : Ki) (hx : bootBuiltins x = some (.type k.nm)) (hg : Gl X "isinstance") (hm : X.mg "isinstance" = none) (hg2 : Gl X x) (hm2 : X.mg x = none) (ha : ME X EX e m) (hn2 : x ≠ "__name__" := by decide) (hd2 : (x == ("__debug__" : Str)) = false := by decide)
    (hs : starEach [e, .Name x p2] X.env = (false, eval e X.env) :: starEach [.Name x p2] X.env := by rfl) (hs2 : starEach [.Name x p2] X.env = [(false, eval (.Name x p2) X.env)] := by rfl) : ME X EX (.Call (.Name "isinstance" p) [e, .Name x p2] [] pos) (mIsI k m) := by
  obtain ⟨t, pt, st⟩ := ha
  refine ⟨_, pe_callB (call_isI k) hg hm PyProof.Rows.boot_isinstance (pa_cons pt (pa_cons (pe_bltn (v := .ty k.nm) hg2 hm2 hx rfl hn2 hd2) pa_nil hs2) hs) (by decide) (by decide) hs (by rw [hs2]; rfl), fun Z α F H σ ρ μ Q R g => ?_⟩
  refine st Z α F H σ ρ μ _ R (GE.step (G := GE X.K EX Z α F Q) g (fun _ _ h => h) (fun h => h) fun d μ1 v α1 F1 H1 R1 e1 p1 g1 => ?_)
  cases hk : isI k (deref μ1 d) with
  | none => rw [hk] at g1; exact g1.elim
  | some b =>
    rw [hk] at g1
    exact ⟨F1, α1, deref μ1 d, v, b, R1.sub, rfl, R1.pk p1, hk, g1 _ α1 F1 H1 R1 e1 (rep_bl _)⟩
end
end M
set_option Elab.async false
set_option linter.all false
set_option maxRecDepth 100000
set_option maxHeartbeats 4000000
namespace M
open PySem PySem.Spec PyProof.Rows L2

/-! ### own defs, without exceptions -/
def NoX : EXT := fun _ _ => False
abbrev Fn := List D → Mu → Res D
def noX {α : Type} : Res α → Res α
  | .exc _ _ => .bad
  | r => r
@[simp] theorem noX_ok {α : Type} (a : α) (μ : Mu) : noX (.ok a μ) = .ok a μ := rfl
def spM (K : PySem.W.Frag) (n : Nat) (φ : Fn) : Sp := fun vs H Q _ => ∃ Z α F ds μ, RH K Z α F H μ ∧ Reps K F α ds vs ∧ ds.length = n ∧ GE K NoX Z α F Q (φ ds μ)
def mCall (φ : Fn) (ms : MAs) : MX := fun ρ μ => (ms ρ μ).bind fun ds μ1 => noX (φ ds μ1)
section
variable {X : Cx} {EX : EXT} {e a b c : Expr} {pos : Pos} {m ma mb mc : MX} {es rest : List Expr} {ms : MAs}
theorem GE.noX {K : PySem.W.Frag} {Z : Hp} {α : List Addr} {F : Hp} {Q : VK} {r : Res D} (h : GE K EX Z α F Q (M.noX r)) : GE K NoX Z α F Q r := by
  cases r with
  | ok d μ => exact h
  | exc x μ => exact h.elim
  | bad => exact h
theorem me_call {x : Str} {p : Pos} {k : Nat} {f : Addr} {fd : FuncData} {ps : List Str} {φ : Fn} (F : FnOk X.prog X.w X.K X.mg X.base CX0 k f fd ps (spM X.K ps.length φ)) (hr : Room k X.A) (hg : Gl X x) (hm : X.mg x = some (.ref f)) (hk : PySem.W.keepIn X.K (.ref f) = true) (hb : Binds X.K fd ps [])
    (ha : MA X EX (e :: es) ms) (hl : (e :: es).length = ps.length) (hdb : (x == ("__debug__" : Str)) = false := by decide) (he : starEach (e :: es) X.env = (false, eval e X.env) :: starEach es X.env := by rfl) (hpl : (backTo pos (starEach es X.env)).any (·.1) = false := by rfl) :
    ME X EX (.Call (.Name x p) (e :: es) [] pos) (mCall φ ms) := by
  obtain ⟨t, pt, st, lt⟩ := ha
  refine ⟨_, pe_call F hr hg hm hk hb .nil pass0 pt hdb he hpl, fun Z α G H σ ρ μ Q R g => ?_⟩
  refine st Z α G H σ ρ μ _ R (GA.stepE (G := GE X.K EX Z α G Q) g (fun _ _ h => h) (fun h => h) fun ds μ1 vs α1 F1 H1 hm1 R1 e1 p1 g1 => ?_)
  rw [List.append_nil]
  exact ⟨Z, α1, F1, ds, μ1, R1, p1, (lt _ _ _ _ hm1).trans hl, GE.noX (GE.ext e1 g1)⟩
theorem me_call0 {x : Str} {p : Pos} {k : Nat} {f : Addr} {fd : FuncData} {φ : Fn} (F : FnOk X.prog X.w X.K X.mg X.base CX0 k f fd [] (spM X.K 0 φ)) (hr : Room k X.A) (hg : Gl X x) (hm : X.mg x = some (.ref f)) (hk : PySem.W.keepIn X.K (.ref f) = true) (hb : Binds X.K fd [] [])
    (hdb : (x == ("__debug__" : Str)) = false := by decide) : ME X EX (.Call (.Name x p) [] [] pos) (mCall φ mNil) := by
  refine ⟨_, pe_call0 F hr hg hm hk hb .nil pass0 hdb, fun Z α G H σ ρ μ Q R g => ?_⟩
  exact ⟨Z, α, G, [], μ, R.hp, reps_nil, rfl, GE.noX g⟩

/-! ### statements -/
variable {st : Stmt} {sts : List Stmt} {n n1 n2 : MSt} {t : MB}
def mSkip : MSt := fun ρ μ => .ok (.nx ρ) μ
def mSeq (n1 n2 : MSt) : MSt := fun ρ μ => (n1 ρ μ).bind fun o μ1 => match o with
  | .nx ρ1 => n2 ρ1 μ1
  | o => .ok o μ1
def mRet (m : MX) : MSt := fun ρ μ => (m ρ μ).bind fun d μ1 => .ok (.rt d) μ1
def mRetN : MSt := fun _ μ => .ok (.rt .non) μ
def mDrop (m : MX) : MSt := fun ρ μ => (m ρ μ).bind fun _ μ1 => .ok (.nx ρ) μ1
def mSet (i : Nat) (m : MX) : MSt := fun ρ μ => (m ρ μ).bind fun d μ1 => .ok (.nx (ρ.set i (some d))) μ1
def mIte (t : MB) (n1 n2 : MSt) : MSt := fun ρ μ => (t ρ μ).bind fun k μ1 => match k with
  | true => n1 ρ μ1
  | false => n2 ρ μ1
theorem mss_nil : MSs X EX [] mSkip := ⟨_, pss_nil, fun Z α F H σ ρ μ N R g => g σ α F H R (Ext.refl _ _)⟩
theorem ms_pass : MS X EX (.Pass pos) mSkip := ⟨_, ps_pass, fun Z α F H σ ρ μ N R g => g σ α F H R (Ext.refl _ _)⟩
theorem mss_one (h : MS X EX st n) : MSs X EX [st] n := let ⟨t, p, s⟩ := h; ⟨t, pss_one p, s⟩
theorem mss_cons (h1 : MS X EX st n1) (h2 : MSs X EX sts n2) : MSs X EX (st :: sts) (mSeq n1 n2) := by
  obtain ⟨t, p, s⟩ := h1
  obtain ⟨u, q, r⟩ := h2
  refine ⟨_, pss_cons p q, fun Z α F H σ ρ μ N R g => ?_⟩
  refine s Z α F H σ ρ μ _ R ?_
  unfold mSeq at g
  cases e : n1 ρ μ with
  | ok o μ1 =>
    rw [e] at g
    cases o with
    | nx ρ1 => exact fun σ' α' F' H' R' e' => r Z α' F' H' σ' ρ1 μ1 N R' (GS.ext e' g)
    | rt d => exact g
    | bk ρ1 => exact g
    | ct ρ1 => exact g
  | exc x μ1 => rw [e] at g; exact g
  | bad => rw [e] at g; exact g
theorem ms_ret (h : ME X EX e m) : MS X EX (.Return (some e) pos) (mRet m) := by
  obtain ⟨t, p, s⟩ := h
  refine ⟨_, ps_ret p, fun Z α F H σ ρ μ N R g => ?_⟩
  exact s Z α F H σ ρ μ _ R (GE.step (G := GS X.K EX Z α F N) g (fun _ _ h => h) (fun h => h) fun d μ1 v α1 F1 H1 R1 e1 p1 g1 => g1 v α1 F1 H1 R1 e1 p1)
theorem ms_retN : MS X EX (.Return none pos) mRetN := ⟨_, ps_retN, fun Z α F H σ ρ μ N R g => g .non α F H R.hp (Ext.refl _ _) rep_non⟩
theorem ms_expr (h : ME X EX e m) (hs : swapsWith e none pos.line X.env = pure false := by rfl) : MS X EX (.Expr e pos) (mDrop m) := by
  obtain ⟨t, p, s⟩ := h
  refine ⟨_, ps_expr p hs, fun Z α F H σ ρ μ N R g => ?_⟩
  exact s Z α F H σ ρ μ _ R (GE.step (G := GS X.K EX Z α F N) g (fun _ _ h => h) (fun h => h) fun d μ1 v α1 F1 H1 R1 e1 p1 g1 => g1 σ α1 F1 H1 (R.to R1 e1) e1)
theorem RS.set {K : PySem.W.Frag} {Z F H : Hp} {α : List Addr} {σ : L2.St} {ρ : En} {μ : Mu} {d : D} {v : V} (i : Nat) (R : RS K Z α F H σ ρ μ) (p : Rep K F α d v) : RS K Z α F H (σ.set i (some v)) (ρ.set i (some d)) μ := by
  refine ⟨R.hp, by simpa using R.len, fun j e h => ?_⟩
  by_cases hj : j = i
  · subst hj
    have hl : j < ρ.length := by
      have := (List.getElem?_eq_some_iff.mp h).1
      simpa using this
    rw [List.getElem?_set_self hl] at h
    cases h
    exact ⟨v, List.getElem?_set_self (by rw [← R.len]; exact hl), p⟩
  · rw [List.getElem?_set_ne (Ne.symm hj)] at h
    obtain ⟨u, h1, h2⟩ := R.sl j e h
    exact ⟨u, by rw [List.getElem?_set_ne (Ne.symm hj)]; exact h1, h2⟩
theorem ms_set {i : Nat} {x : Str} {pos' : Pos} (hN : X.N.Nodup) (hi : X.N[i]? = some x) (hx : Loc X.env.scope x) (hf : X.fn x = true ∨ X.env.scope.names.lookup x = some .local) (h : ME X EX e m) (hs : swapsWith e (some (.Name x pos')) pos.line X.env = pure false := by rfl) :
    MS X EX (.Assign [.Name x pos'] e pos) (mSet i m) := by
  obtain ⟨t, p, s⟩ := h
  refine ⟨_, ps_set hN hi hx p hs hf, fun Z α F H σ ρ μ N R g => ?_⟩
  exact s Z α F H σ ρ μ _ R (GE.step (G := GS X.K EX Z α F N) g (fun _ _ h => h) (fun h => h) fun d μ1 v α1 F1 H1 R1 e1 p1 g1 => g1 _ α1 F1 H1 ((R.to R1 e1).set i p1) e1)
theorem ms_if {sa sb : List Stmt} (hc : MT X EX c t) (ha : MSs X EX sa n1) (hb : MSs X EX sb n2) : MS X EX (.If c sa sb pos) (mIte t n1 n2) := by
  obtain ⟨tc, pc, sc⟩ := hc
  obtain ⟨ta, pa, ga⟩ := ha
  obtain ⟨tb, pb, gb⟩ := hb
  refine ⟨_, ps_if pc pa pb, fun Z α F H σ ρ μ N R g => ?_⟩
  refine sc Z α F H σ ρ μ _ R (GB.step (G := GS X.K EX Z α F N) g (fun _ _ h => h) (fun h => h) fun k μ1 α1 F1 H1 R1 e1 g1 => ?_)
  cases k with
  | true => exact ga Z α1 F1 H1 σ ρ μ1 N (R.to R1 e1) (GS.ext e1 g1)
  | false => exact gb Z α1 F1 H1 σ ρ μ1 N (R.to R1 e1) (GS.ext e1 g1)

/-! ### for -/
/-- a target takes a datum -/
abbrev MG := D → En → Option En
def MTg (X : Cx) (tg : Expr) (mg : MG) : Prop := ∃ g : TG, PG X tg g ∧ ∀ Z α F H σ ρ μ v d ρ' Q, RS X.K Z α F H σ ρ μ → Rep X.K F α d v → mg d ρ = some ρ' → (∀ σ', RS X.K Z α F H σ' ρ' μ → Q σ' H) → g v σ H Q
def gN (i : Nat) : MG := fun d ρ => some (ρ.set i (some d))
theorem mt_name {i : Nat} {x : Str} (hN : X.N.Nodup) (hi : X.N[i]? = some x) (hx : Loc X.env.scope x) (hf : X.fn x = true ∨ X.env.scope.names.lookup x = some .local) : MTg X (.Name x pos) (gN i) :=
  ⟨_, pg_name hN hi hx hf, fun Z α F H σ ρ μ v d ρ' Q R p h k => by cases h; exact k _ (R.set i p)⟩
def forGo (tg : MG) (n : MSt) : List D → En → Mu → Res Out
  | [], ρ, μ => .ok (.nx ρ) μ
  | d :: ds, ρ, μ => match tg d ρ with
    | none => .bad
    | some ρ1 => (n ρ1 μ).bind fun o μ1 => match o with
      | .nx ρ2 => forGo tg n ds ρ2 μ1
      | .ct ρ2 => forGo tg n ds ρ2 μ1
      | .bk ρ2 => .ok (.nx ρ2) μ1
      | .rt d => .ok (.rt d) μ1
/-- what a loop walks -/
abbrev MIt := En → Mu → Res (List D)
def mFor (tg : MG) (it : MIt) (n : MSt) : MSt := fun ρ μ => (it ρ μ).bind fun ds μ1 => forGo tg n ds ρ μ1
/-- the walk: at turn i the i-th item stands for the i-th datum -/
def WalkOk (K : PySem.W.Frag) (α : List Addr) (F : Hp) (J : It) (ds : List D) : Prop :=
  ∀ (Z : Hp) α' F' H' (μ' : Mu), RH K Z α' F' H' μ' → Ext α F α' F' → ∀ i, (i < ds.length → J.go i H' ∧ ∀ x H2, J.yld i H' x H2 → ∃ d F2, ds[i]? = some d ∧ RH K Z α' F2 H2 μ' ∧ Same F' F2 ∧ Rep K F2 α' d x) ∧ (ds.length = i → J.stop i H')
def MI (X : Cx) (EX : EXT) (tg e : Expr) (m : MIt) : Prop := ∃ wi : TI, PI X tg e wi ∧ ∀ Z α F H σ ρ μ Rr, RS X.K Z α F H σ ρ μ →
  (match m ρ μ with
    | .ok ds μ' => ∀ J α' F' H', RH X.K Z α' F' H' μ' → Ext α F α' F' → WalkOk X.K α' F' J ds → Rr J H'
    | .exc x μ' => EX x μ'
    | .bad => False) → wi σ H Rr
theorem ms_for {tg it : Expr} {body : List Stmt} {mi : MIt} {g : MG} (hp : PassesOwn (model X.prog X.w) X.A X.env X.xe) (hc : X.calm = true) (hi : MI X EX tg it mi) (hg : MTg X tg g) (hb : MSs X EX body n)
    (hs : ∀ x, foldedSetIterable it X.env x = pure x := by intro _; rfl) : MS X EX (.For tg it body [] pos) (mFor g mi n) := by
  obtain ⟨wi, pi, si⟩ := hi
  obtain ⟨tgt, pg, sg⟩ := hg
  obtain ⟨tb, pb, sb⟩ := hb
  refine ⟨_, ps_for hp hc pi pg pb hs, fun Z α F H σ ρ μ N R gd => ?_⟩
  refine si Z α F H σ ρ μ _ R ?_
  unfold mFor at gd
  cases hm : mi ρ μ with
  | exc x μ1 => rw [hm] at gd; exact gd
  | bad => rw [hm] at gd; exact gd
  | ok ds μ1 =>
    rw [hm] at gd
    intro J α1 F1 H1 R1 e1 wk
    let W : Nat → Nat → L2.St → Hp → Prop := fun i k σ' H' => k = ds.length - i ∧ i ≤ ds.length ∧ ∃ α' F' ρ' μ', RS X.K Z α' F' H' σ' ρ' μ' ∧ Ext α1 F1 α' F' ∧ GS X.K EX Z α' F' N (forGo g n (ds.drop i) ρ' μ')
    refine ⟨W, ⟨ds.length, rfl, Nat.zero_le _, α1, F1, ρ, μ1, R.to R1 e1, Ext.refl _ _, GS.ext e1 gd⟩, ?_⟩
    rintro i k σ2 H2 ⟨rfl, hi2, α2, F2, ρ2, μ2, R2, e2, g2⟩
    obtain ⟨w1, w2⟩ := wk Z α2 F2 H2 μ2 R2.hp e2 i
    by_cases hlt : i < ds.length
    · obtain ⟨w3, w4⟩ := w1 hlt
      refine .inr ⟨w3, fun σ' H' => W (i + 1) (ds.length - (i + 1)) σ' H', fun σ' H' h => ⟨_, by omega, h⟩, fun x H3 y => ?_⟩
      obtain ⟨d, F3, hd, R3, s3, p3⟩ := w4 x H3 y
      have e3 : Ext α2 F2 α2 F3 := ⟨s3, fun _ _ h => h⟩
      rw [List.drop_eq_getElem_cons hlt] at g2
      have hd' : ds[i] = d := by
        rw [List.getElem?_eq_getElem hlt] at hd
        exact Option.some.inj hd
      rw [hd'] at g2
      have R3' : RS X.K Z α2 F3 H3 σ2 ρ2 μ2 := R2.to R3 e3
      simp only [forGo] at g2
      cases ht : g d ρ2 with
      | none => rw [ht] at g2; exact g2.elim
      | some ρ4 =>
        rw [ht] at g2
        simp only at g2
        refine sg Z α2 F3 H3 σ2 ρ2 μ2 x d ρ4 _ R3' p3 ht fun σ4 R4 => ?_
        refine sb Z α2 F3 H3 σ4 ρ4 μ2 _ R4 ?_
        cases hn : n ρ4 μ2 with
        | exc x μ1 => rw [hn] at g2; exact g2
        | bad => rw [hn] at g2; exact g2
        | ok o μ5 =>
          rw [hn] at g2
          cases o with
          | nx ρ5 => exact fun σ' α' F' H' R' e' => ⟨rfl, hlt, α', F', ρ5, μ5, R', e2.trans (e3.trans e'), GS.ext (e3.trans e') g2⟩
          | ct ρ5 => exact fun σ' α' F' H' R' e' => ⟨rfl, hlt, α', F', ρ5, μ5, R', e2.trans (e3.trans e'), GS.ext (e3.trans e') g2⟩
          | bk ρ5 => exact fun σ' α' F' H' R' e' => g2 σ' α' F' H' R' (e3.trans e')
          | rt d => exact fun v α' F' H' R' e' q => g2 v α' F' H' R' (e3.trans e') q
    · refine .inl ⟨w2 (by omega), ?_⟩
      rw [List.drop_eq_nil_of_le (by omega)] at g2
      exact g2 σ2 α2 F2 H2 R2 (Ext.refl _ _)
/-- range(n) -/
def rangeD (n : Nat) : List D := (List.range n).map fun k => .int (k : Nat)
def asRange (ds : List D) : Option (List D) := match ds with
  | [.int j] => if -(2 ^ 62) ≤ j ∧ j < 2 ^ 62 then some (rangeD j.toNat) else none
  | _ => none
def mRange1 (m : MX) : MIt := fun ρ μ => (m ρ μ).bind fun d μ1 => ofO μ1 (asRange [d])
theorem walk_range {K : PySem.W.Frag} {F : Hp} {α : List Addr} (n : Nat) : WalkOk K α F (Itr 0 n) (rangeD n) := by
  intro Z α' F' H' μ' R e i
  have hl : (rangeD n).length = n := by simp [rangeD]
  refine ⟨fun h => ⟨by rw [hl] at h; exact h, fun x H2 y => ?_⟩, fun h => by rw [hl] at h; exact Nat.le_of_eq h⟩
  obtain ⟨rfl, rfl⟩ := y
  rw [hl] at h
  refine ⟨.int (i : Nat), F', by simp [rangeD, h], R, Same.refl _, ?_⟩
  rw [Int.zero_add]
  exact rep_int _
theorem mi_range1 {tg : Expr} {p : Pos} (hg : Gl X "range") (hm : X.mg "range" = none) (ha : ME X EX a m) (hs : starEach [a] X.env = [(false, eval a X.env)] := by rfl) : MI X EX tg (.Call (.Name "range" p) [a] [] pos) (mRange1 m) := by
  obtain ⟨t, pt, st⟩ := ha
  refine ⟨_, pi_range1 hg hm (pa_cons pt pa_nil hs) hs, fun Z α F H σ ρ μ Rr R g => ?_⟩
  unfold mRange1 at g
  refine st Z α F H σ ρ μ _ R ?_
  cases h1 : m ρ μ with
  | exc x μ1 => rw [h1] at g; exact g
  | bad => rw [h1] at g; exact g
  | ok d μ1 =>
    rw [h1] at g
    intro v α' F' H' R' e' p
    cases d with
    | int j =>
      unfold Rep at p
      subst p
      simp only [bind_ok, asRange] at g
      by_cases hj : -(2 ^ 62) ≤ j ∧ j < 2 ^ 62
      · rw [if_pos hj] at g
        exact ⟨j, rfl, hj.1, hj.2, g _ α' F' H' R' e' (walk_range _)⟩
      · rw [if_neg hj] at g; exact g.elim
    | _ => exact g.elim
/-- a frozen list, a tuple -/
def asSeqL (d : D) : Option (List D) := match d with
  | .lst xs => some xs
  | _ => none
def asSeqT (d : D) : Option (List D) := match d with
  | .tup xs => some xs
  | _ => none
def mOverL (m : MX) : MIt := fun ρ μ => (m ρ μ).bind fun d μ1 => ofO μ1 (asSeqL d)
def mOverT (m : MX) : MIt := fun ρ μ => (m ρ μ).bind fun d μ1 => ofO μ1 (asSeqT d)

theorem walk_list {K : PySem.W.Frag} {F : Hp} {α : List Addr} {a : Addr} {ds : List D} {vs : List V} (hs : SqL K F a vs) (hr : Reps K F α ds vs) : WalkOk K α F (Itl K a) ds := by
  intro Z α' F' H' μ' R e i
  have hl := hr.length
  have hq : SqL K H' a vs := (e.fr.trans R.sub).seq hs
  refine ⟨fun h => ?_, fun h => ⟨vs, hq, by omega⟩⟩
  obtain ⟨v, h1, h2⟩ := hr.get (List.getElem?_eq_getElem h)
  refine ⟨⟨vs, v, hq, h1⟩, fun x H2 y => ?_⟩
  obtain ⟨rfl, y⟩ := y
  have hx := y vs hq
  rw [h1] at hx
  cases hx
  exact ⟨_, F', List.getElem?_eq_getElem h, R, Same.refl _, h2.mono e⟩
theorem walk_tup {K : PySem.W.Frag} {F : Hp} {α : List Addr} {a : Addr} {ds : List D} {vs : List V} (hs : SqT K F a vs) (hr : Reps K F α ds vs) : WalkOk K α F (Itt K a) ds := by
  intro Z α' F' H' μ' R e i
  have hl := hr.length
  have hq : SqT K H' a vs := Same.tup (e.fr.trans R.sub) hs
  refine ⟨fun h => ?_, fun h => ⟨vs, hq, by omega⟩⟩
  obtain ⟨v, h1, h2⟩ := hr.get (List.getElem?_eq_getElem h)
  refine ⟨⟨vs, v, hq, h1⟩, fun x H2 y => ?_⟩
  obtain ⟨rfl, y⟩ := y
  have hx := y vs hq
  rw [h1] at hx
  cases hx
  exact ⟨_, F', List.getElem?_eq_getElem h, R, Same.refl _, h2.mono e⟩
theorem mi_list {tg : Expr} (ha : ME X EX a m) : MI X EX tg a (mOverL m) := by
  obtain ⟨t, pt, st⟩ := ha
  refine ⟨_, pi_list pt, fun Z α F H σ ρ μ Rr R g => ?_⟩
  unfold mOverL at g
  refine st Z α F H σ ρ μ _ R ?_
  cases h1 : m ρ μ with
  | exc x μ1 => rw [h1] at g; exact g
  | bad => rw [h1] at g; exact g
  | ok d μ1 =>
    rw [h1] at g
    intro v α' F' H' R' e' p
    cases d with
    | lst ds =>
      unfold Rep at p
      obtain ⟨b, vs, rfl, hs, hr⟩ := p
      exact ⟨b, rfl, ⟨vs, R'.sub.seq hs⟩, g _ α' F' H' R' e' (walk_list hs hr)⟩
    | _ => exact g.elim
theorem mi_tup {tg : Expr} (ha : ME X EX a m) : MI X EX tg a (mOverT m) := by
  obtain ⟨t, pt, st⟩ := ha
  refine ⟨_, pi_tup pt, fun Z α F H σ ρ μ Rr R g => ?_⟩
  unfold mOverT at g
  refine st Z α F H σ ρ μ _ R ?_
  cases h1 : m ρ μ with
  | exc x μ1 => rw [h1] at g; exact g
  | bad => rw [h1] at g; exact g
  | ok d μ1 =>
    rw [h1] at g
    intro v α' F' H' R' e' p
    cases d with
    | tup ds =>
      unfold Rep at p
      obtain ⟨b, vs, rfl, hs, hr⟩ := p
      exact ⟨b, rfl, ⟨vs, Same.tup R'.sub hs⟩, g _ α' F' H' R' e' (walk_tup hs hr)⟩
    | _ => exact g.elim
end

/-! ### a def -/
def fin (r : Res Out) : Res D := r.bind fun o μ1 => match o with
  | .rt d => .ok d μ1
  | .nx _ => .ok .non μ1
  | _ => .bad
/-- the def's answer: k names besides the parameters -/
def fnOf (k : Nat) (n : MSt) : Fn := fun ds μ => fin (n (ds.map some ++ List.replicate k none) μ)
section
variable {P : Program} {w : World} {K : PySem.W.Frag} {mg : Str → Option Value} {base : Heap}
theorem rs_start {Z F H : Hp} {α : List Addr} {μ : Mu} {ds : List D} {vs : List V} (N : List Str) (k : Nat) (hk : N.length - vs.length = k) (R : RH K Z α F H μ) (r : Reps K F α ds vs) : RS K Z α F H (start N vs) (ds.map some ++ List.replicate k none) μ := by
  have hl := r.length
  refine ⟨R, by simp [L2.start, hl, hk], fun i d h => ?_⟩
  by_cases hi : i < ds.length
  · rw [List.getElem?_append_left (by simpa using hi), List.getElem?_map] at h
    cases e : ds[i]? with
    | none => rw [e] at h; cases h
    | some d' =>
      rw [e] at h
      cases h
      obtain ⟨v, h1, h2⟩ := r.get e
      refine ⟨v, ?_, h2⟩
      unfold L2.start
      rw [List.getElem?_append_left (by rw [List.length_map]; omega), List.getElem?_map, h1]
      rfl
  · rw [List.getElem?_append_right (by simp; omega)] at h
    have := List.getElem?_replicate (a := (none : Option D)) (n := k) (i := i - (ds.map some).length)
    rw [this] at h
    split at h <;> cases h
theorem fn_ok {x qual : Str} {st : Stmt} {f : Addr} {fd : FuncData} {N ps : List Str} {k j : Nat} {n : MSt} (F : Fun K x qual st f fd) (S : FnScope N ps (defScope st)) (hj : N.length - ps.length = j)
    (hb : ∀ (cdv : Value) (A : Around) (outer : List Env) (s : Shared) (H : Hp) (E : XK), Room k (A.deeper (envOfC qual (defScope st) s.heap.objs.size f cdv)) →
      MSs (cxOf CX0 P w K mg base N qual (defScope st) f cdv A outer s H E).nox NoX (defBody st) n) : FnOk P w K mg base CX0 (k + 1) f fd ps (spM K ps.length (fnOf j n)) := by
  refine F.ok S (fun vs H Q E h => ?_) (fun cdv A outer s H vs Q E hr h => ?_)
  · obtain ⟨Z, α, G, ds, μ, R, r, hl, _⟩ := h
    rw [← hl, r.length]
  · obtain ⟨Z, α, G, ds, μ, R, r, hl, g⟩ := h
    obtain ⟨t, p, s'⟩ := hb cdv A outer s H E hr
    refine ⟨t, p, s' Z α G H (start N vs) (ds.map some ++ List.replicate j none) μ _ (rs_start N j (by rw [← r.length, hl]; exact hj) R r) ?_⟩
    unfold fnOf fin at g
    cases e : n (ds.map some ++ List.replicate j none) μ with
    | exc x μ1 => rw [e] at g; exact g
    | bad => rw [e] at g; exact g
    | ok o μ1 =>
      rw [e] at g
      cases o with
      | rt d => exact g
      | nx ρ => exact fun σ' α' F' H' R' e' => g .non α' F' H' R'.hp e' rep_non
      | bk ρ => exact g.elim
      | ct ρ => exact g.elim

/-! ### what a derivation reads off its def, once -/
structure Ct (X : Cx) (N G : List Str) : Prop where
  hN : X.N = N
  nd : N.Nodup
  loc : ∀ x ∈ N, Loc X.env.scope x ∧ (x == ("__debug__" : Str)) = false ∧ (x == ("__classdict__" : Str)) = false
  gl : ∀ x ∈ G, Gl X x
  fn : ∀ x, X.fn x = true
  calm : X.calm = true
  un : X.A.units + 200 < cLine
theorem Ct.ndX {X : Cx} {N G : List Str} (C : Ct X N G) : X.N.Nodup := by rw [C.hN]; exact C.nd
theorem Ct.at {X : Cx} {N G : List Str} (C : Ct X N G) {i : Nat} {x : Str} (h : N[i]? = some x) : X.N[i]? = some x := by rw [C.hN]; exact h
theorem mem_at {N : List Str} {i : Nat} {x : Str} (h : N[i]? = some x) : x ∈ N := List.mem_of_getElem? h
theorem Loc.vis {sc : Scope} {x : Str} (h : Loc sc x) : Vis sc x := h.elim .inl fun z => .inr (.inl z)
theorem sv {X : Cx} {EX : EXT} {N G : List Str} (C : Ct X N G) (i : Nat) {x : Str} {pos : Pos} (h : N[i]? = some x) : ME X EX (.Name x pos) (mVar i) :=
  me_var (C.at h) (Loc.vis (C.loc x (mem_at h)).1) (C.loc x (mem_at h)).2.1 (C.loc x (mem_at h)).2.2
theorem sa {X : Cx} {EX : EXT} {N G : List Str} (C : Ct X N G) (i : Nat) {x : Str} {pos pos' : Pos} {e : Expr} {m : MX} (h : N[i]? = some x) (he : ME X EX e m) (hs : swapsWith e (some (.Name x pos')) pos.line X.env = pure false := by rfl) :
    MS X EX (.Assign [.Name x pos'] e pos) (mSet i m) := ms_set (C.ndX) (C.at h) (C.loc x (mem_at h)).1 (.inl (C.fn x)) he hs
theorem st {X : Cx} {N G : List Str} (C : Ct X N G) (i : Nat) {x : Str} {pos : Pos} (h : N[i]? = some x) : MTg X (.Name x pos) (gN i) := mt_name (C.ndX) (C.at h) (C.loc x (mem_at h)).1 (.inl (C.fn x))
theorem Ct.g {X : Cx} {N G : List Str} (C : Ct X N G) (j : Nat) {x : Str} (h : G[j]? = some x) : Gl X x := C.gl x (mem_at h)
theorem ct_of {CX : CXT} {N G : List Str} {qual : Str} {sc : Scope} {f : Addr} {cdv : Value} {A : Around} {outer : List Env} {s : Shared} {H : Hp} {E : XK} {k : Nat} (nd : N.Nodup)
    (loc : ∀ x ∈ N, Loc sc x ∧ (x == ("__debug__" : Str)) = false ∧ (x == ("__classdict__" : Str)) = false) (gl : ∀ x ∈ G, sc.names.lookup x = some .globalImplicit) (hr : Room k (A.deeper (envOfC qual sc s.heap.objs.size f cdv))) :
    Ct (cxOf CX P w K mg base N qual sc f cdv A outer s H E).nox N G :=
  ⟨rfl, nd, loc, gl, fun _ => rfl, rfl, by have := hr.un; show (A.deeper _).units + 200 < cLine; omega⟩
end
end M
set_option Elab.async false
set_option linter.all false
set_option maxRecDepth 100000
set_option maxHeartbeats 4000000
namespace M
open PySem PySem.Spec PyProof.Rows L2
def mNeg (m : MX) : MX := fun ρ μ => (m ρ μ).bind fun d μ1 => ofO μ1 (match d with
  | .int i => some (.int (-i))
  | _ => none)
theorem me_neg {X : Cx} {EX : EXT} {e : Expr} {pos : Pos} {m : MX} (h : ME X EX e m) : ME X EX (.UnaryOp .USub e pos) (mNeg m) := by
  obtain ⟨t, p, s⟩ := h
  refine ⟨_, pe_un un_neg p, fun Z α F H σ ρ μ Q R g => ?_⟩
  refine s Z α F H σ ρ μ _ R (GE.step (G := GE X.K EX Z α F Q) g (fun _ _ h => h) (fun h => h) fun d μ1 v α1 F1 H1 R1 e1 p1 g1 => ?_)
  cases d with
  | int i => unfold Rep at p1; exact ⟨i, p1, g1 _ α1 F1 H1 R1 e1 (rep_int _)⟩
  | _ => exact g1.elim
theorem boot_bool : bootBuiltins "bool" = some (.type "bool") := by decide +kernel
theorem boot_str : bootBuiltins "str" = some (.type "str") := by decide +kernel
theorem boot_list : bootBuiltins "list" = some (.type "list") := by decide +kernel
theorem boot_tuple : bootBuiltins "tuple" = some (.type "tuple") := by decide +kernel
/-- a name of the top that is bound to data -/
def ConstAt (K : PySem.W.Frag) (mg : Str → Option Value) (x : Str) (d : D) : Prop := ∃ v u, mg x = some u ∧ RelV v u ∧ ∀ F α, Rep K F α d v
theorem me_const {X : Cx} {EX : EXT} {x : Str} {d : D} {pos : Pos} (c : ConstAt X.K X.mg x d) (hg : Gl X x) (hd : (x == ("__debug__" : Str)) = false := by decide) : ME X EX (.Name x pos) (mC d) := by
  obtain ⟨v, u, h1, h2, h3⟩ := c
  exact me_c (pe_glob hg h1 h2 hd) h3
/-- how a def's parameters are bound: all are given -/
def BindsS (fd : FuncData) (ps : List Str) : Prop := ∀ us : List Value, us.length = ps.length → bindArgs fd ⟨us, []⟩ = pure (ps.zip us)
/-- a def of the top -/
def DefAt (K : PySem.W.Frag) (mg : Str → Option Value) (x : Str) (st : Stmt) (ps : List Str) : Prop := ∃ f fd, mg x = some (.ref f) ∧ Fun K x x st f fd ∧ BindsS fd ps
def FnAt (P : Program) (w : World) (K : PySem.W.Frag) (mg : Str → Option Value) (base : Heap) (x : Str) (k n : Nat) (φ : Fn) : Prop :=
  ∃ f fd ps, mg x = some (.ref f) ∧ PySem.W.keepIn K (.ref f) = true ∧ BindsS fd ps ∧ ps.length = n ∧ FnOk P w K mg base CX0 k f fd ps (spM K n φ)
theorem fnOk_of {P : Program} {w : World} {K : PySem.W.Frag} {mg : Str → Option Value} {base : Heap} {x : Str} {st : Stmt} {N ps : List Str} {k j n : Nat} {b : MSt} {f : Addr} {fd : FuncData} (F : Fun K x x st f fd) (S : FnScope N ps (defScope st)) (hj : N.length - ps.length = j) (hn : ps.length = n)
    (hb : ∀ (cdv : Value) (A : Around) (outer : List Env) (s : Shared) (H : Hp) (E : XK), Room k (A.deeper (envOfC x (defScope st) s.heap.objs.size f cdv)) →
      MSs (cxOf CX0 P w K mg base N x (defScope st) f cdv A outer s H E).nox NoX (defBody st) b) : FnOk P w K mg base CX0 (k + 1) f fd ps (spM K n (fnOf j b)) := by
  subst hn
  exact fn_ok F S hj hb
theorem fnAt_of {P : Program} {w : World} {K : PySem.W.Frag} {mg : Str → Option Value} {base : Heap} {x : Str} {st : Stmt} {ps : List Str} {k n : Nat} {φ : Fn} (D : DefAt K mg x st ps) (hn : ps.length = n)
    (hb : ∀ (f : Addr) (fd : FuncData), Fun K x x st f fd → FnOk P w K mg base CX0 k f fd ps (spM K n φ)) : FnAt P w K mg base x k n φ := by
  obtain ⟨f, fd, h1, h2, h3⟩ := D
  exact ⟨f, fd, ps, h1, h2.kp, h3, hn, hb f fd h2⟩
theorem def_mk {K : PySem.W.Frag} {mg : Str → Option Value} {h : Heap} {x : Str} {st : Stmt} {ps : List Str} {f : Addr} {oc : Value} {od an : Option Addr} {osl : Array (Option Value)} {kV doc pm cdv ct : Value} (X : K.In h) (G : h.Ns mainGlobals mg)
    (a : PySem.W.nsIn K mainGlobals x = some (some (.ref f))) (l : K.lookup f = some ⟨oc, od, .func (PySem.W.fnOf x x (defArgs st) (defBody st) (defScope st) .none kV doc pm an cdv ct), osl⟩)
    (c : PySem.W.codeIn K cdv x = true) (k : PySem.W.keepIn K (.ref f) = true) (hb : BindsS (PySem.W.fnOf x x (defArgs st) (defBody st) (defScope st) .none kV doc pm an cdv ct) ps) : DefAt K mg x st ps :=
  ⟨f, _, PySem.W.mg_of X G a, fun_mk (st := st) l c k, hb⟩
theorem const_int {K : PySem.W.Frag} {mg : Str → Option Value} {h : Heap} {x : Str} {i : Int} {t : Tok} (X : K.In h) (G : h.Ns mainGlobals mg) (a : PySem.W.nsIn K mainGlobals x = some (some (.int i t))) : ConstAt K mg x (.int i) :=
  ⟨.int i, _, PySem.W.mg_of X G a, ⟨t, rfl⟩, fun _ _ => rep_int i⟩
theorem const_str {K : PySem.W.Frag} {mg : Str → Option Value} {h : Heap} {x y : Str} {cs : List Nat} {t : Tok} (X : K.In h) (G : h.Ns mainGlobals mg) (a : PySem.W.nsIn K mainGlobals x = some (some (.str y t))) (hy : y = ⟨cs.toArray⟩) : ConstAt K mg x (.str cs) :=
  ⟨.str ⟨cs.toArray⟩, _, PySem.W.mg_of X G a, ⟨t, by rw [hy]⟩, fun _ _ => rep_str cs⟩
theorem const_tup {K : PySem.W.Frag} {mg : Str → Option Value} {h : Heap} {x : Str} {p : Addr} {od : Option Addr} {its : Array Value} {n : Nat} {sl : Array (Option Value)} {ds : List D} {vs : List V} (X : K.In h) (G : h.Ns mainGlobals mg)
    (a : PySem.W.nsIn K mainGlobals x = some (some (.ref p))) (l : K.lookup p = some ⟨.type "tuple", od, .seq its n, sl⟩) (hz : its.size ≤ 16777216) (hv : Vals vs its.toList) (hr : ∀ F α, Reps K F α ds vs) : ConstAt K mg x (.tup ds) :=
  ⟨.ref p, _, PySem.W.mg_of X G a, rfl, fun F α => by unfold Rep; exact ⟨p, vs, rfl, .inr ⟨_, its, n, l, rfl, rfl, by rw [sizeLine_eq]; exact hz, hv⟩, hr F α⟩⟩
/-- the law's own call -/
theorem reps_ints {K : PySem.W.Frag} {F : Hp} {α : List Addr} : ∀ ns : List Int, Reps K F α (ns.map D.int) (ns.map V.int)
  | [] => reps_nil
  | n :: ns => reps_cons (rep_int n) (reps_ints ns)
theorem sp_law {K : PySem.W.Frag} {φ : Fn} {H : Hp} {a : Addr} {ns : List Int} (hS : SqL K H a (ns.map V.int)) (h : φ [.lst (ns.map .int)] [] = .ok (.bl true) []) : spM K 1 φ [.ref a] H (fun v _ => v = .bl true) (fun _ _ _ => False) := by
  refine ⟨fun _ => none, [], H, [.lst (ns.map .int)], [], ⟨Same.refl H, rfl, fun k a c hk => (by simp at hk), fun b o e => (by cases e), fun b o e => (by cases e), fun k a c hk => (by simp at hk), fun j k a c c' hk => (by simp at hk)⟩, ?_, rfl, ?_⟩
  · refine reps_cons ?_ reps_nil
    unfold Rep
    exact ⟨a, _, rfl, hS, reps_ints ns⟩
  · rw [h]
    intro v α' F' H' _ _ r
    unfold Rep at r
    exact r
theorem walk_law {l : PySem.W.OpenLaw} {q : Program} {loose : List Str} {XP : (Str → Option Value) → Heap → Prop} {YP : World → Heap → Prop} {d : DefRec} {K : Params → PySem.W.Frag} {k : Nat} {x : Str} {φ : Fn} (hn : l.most = some 63) (hdf : d.params.defaults = []) (hr : Room k callerA)
    (hY : ∀ (w : World) (h : Heap), YP w h → (K w.params).In h)
    (F : ∀ (w : World) (mg : Str → Option Value) (fa : Addr) (h : Heap), (K w.params).In h → h.Ns mainGlobals mg → mg d.name = some (.ref fa) →
      ∃ fd : FuncData, BindsS fd [x] ∧ ∀ base : Heap, FnOk l.prog w (K w.params) mg base CX0 k fa fd [x] (spM (K w.params) 1 φ))
    (hlaw : ∀ ns : List Int, ns.length ≤ 63 → φ [.lst (ns.map .int)] [] = .ok (.bl true) []) :
    PySem.W.WalkO q loose XP YP l.row.toRowW d [] (fun f vs => PySem.call f vs) :=
  L2.walk_of (n := 63) (k := k) (x := x) (CX := fun _ => CX0) (sp := fun w => spM (K w.params) 1 φ) hn (by decide) hdf hr hY
    (fun w mg fa h hK hG hm => by
      obtain ⟨fd, hb, hf⟩ := F w mg fa h hK hG hm
      exact ⟨fd, fun s u => .of_eq (hb [u] rfl), fun base _ _ => hf base⟩)
    (fun w H a ns hl _ hS => sp_law hS (hlaw ns hl)) fun _ _ _ _ _ z => z
theorem me_fn {X : Cx} {EX : EXT} {x : Str} {p pos : Pos} {k n : Nat} {φ : Fn} {e : Expr} {es : List Expr} {ms : MAs} (F : FnAt X.prog X.w X.K X.mg X.base x k n φ) (hr : Room k X.A) (hg : Gl X x)
    (ha : MA X EX (e :: es) ms) (hl : (e :: es).length = n) (hdb : (x == ("__debug__" : Str)) = false := by decide) (he : starEach (e :: es) X.env = (false, eval e X.env) :: starEach es X.env := by rfl) (hpl : (backTo pos (starEach es X.env)).any (·.1) = false := by rfl) :
    ME X EX (.Call (.Name x p) (e :: es) [] pos) (mCall φ ms) := by
  obtain ⟨f, fd, ps, h1, h2, h3, h4, h5⟩ := F
  subst h4
  exact me_call h5 hr hg h1 h2 (.all h3) ha hl hdb he hpl
theorem me_fn0 {X : Cx} {EX : EXT} {x : Str} {p pos : Pos} {k : Nat} {φ : Fn} (F : FnAt X.prog X.w X.K X.mg X.base x k 0 φ) (hr : Room k X.A) (hg : Gl X x) (hdb : (x == ("__debug__" : Str)) = false := by decide) : ME X EX (.Call (.Name x p) [] [] pos) (mCall φ mNil) := by
  obtain ⟨f, fd, ps, h1, h2, h3, h4, h5⟩ := F
  obtain rfl : ps = [] := List.length_eq_zero_iff.mp h4
  exact me_call0 h5 hr hg h1 h2 (.all h3) hdb
def locB (sc : Scope) (N : List Str) : Bool := N.all fun x => (sc.names.lookup x == some .local || sc.names.lookup x == some .cell) && !(x == ("__debug__" : Str)) && !(x == ("__classdict__" : Str))
def glB (sc : Scope) (N : List Str) : Bool := N.all fun x => sc.names.lookup x == some .globalImplicit
theorem loc_of {sc : Scope} {N : List Str} (h : locB sc N = true) : ∀ x ∈ N, Loc sc x ∧ (x == ("__debug__" : Str)) = false ∧ (x == ("__classdict__" : Str)) = false := fun x hx => by
  have := List.all_eq_true.mp h x hx
  simp only [Bool.and_eq_true, Bool.or_eq_true, beq_iff_eq, Bool.not_eq_true'] at this
  exact ⟨this.1.1, this.1.2, this.2⟩
theorem gl_of {sc : Scope} {N : List Str} (h : glB sc N = true) : ∀ x ∈ N, sc.names.lookup x = some .globalImplicit := fun x hx => by
  have := List.all_eq_true.mp h x hx
  simpa using this
end M
set_option Elab.async false
set_option linter.all false
set_option maxRecDepth 100000
set_option maxHeartbeats 4000000
namespace M
open PySem PySem.Spec PyProof.Rows L2

/-! ### evaluation, from the left: first order, so that nothing is opened before its turn -/
section
variable (ρ : En) (μ : Mu) (m ma mb mc : MX) (ms : MAs) (t t1 t2 : MB) (n n1 n2 : MSt) (x y d : D) (ds : List D) (g g' : G2) (gl : GL) (b : Bool) (φ : Fn) (i : Nat) (tg : MG) (it : MIt)
def kBin1 (g : G2) (mb : MX) (ρ : En) (x : D) (μ : Mu) : Res D := (mb ρ μ).bind fun y μ2 => ofO μ2 (g (deref μ2 x) (deref μ2 y))
def kBin2 (g : G2) (x y : D) (μ : Mu) : Res D := ofO μ (g (deref μ x) (deref μ y))
theorem e_bin : mBin g ma mb ρ μ = (ma ρ μ).bind (kBin1 g mb ρ) := rfl
theorem e_bin1 : kBin1 g mb ρ x μ = (mb ρ μ).bind (kBin2 g x) := rfl
theorem e_bin2 : kBin2 g x y μ = ofO μ (g (deref μ x) (deref μ y)) := rfl
theorem e_var {ρ : En} {i : Nat} {d : D} (h : ρ[i]? = some (some d)) (μ : Mu) : mVar i ρ μ = .ok d μ := by unfold mVar; rw [h]
theorem e_var0 (o : D) (r : En) : mVar 0 (some o :: r) μ = .ok o μ := rfl
theorem e_varS (o : Option D) (r : En) (i : Nat) : mVar (i + 1) (o :: r) μ = mVar i r μ := rfl
theorem e_c : mC d ρ μ = .ok d μ := rfl
def kTest (d : D) (μ : Mu) : Res Bool := ofO μ (asB d)
theorem e_test : mTest m ρ μ = (m ρ μ).bind kTest := rfl
theorem e_kTest : kTest (.bl b) μ = .ok b μ := rfl
def kCh1 (g g' : G2) (mb mc : MX) (ρ : En) (x : D) (μ1 : Mu) : Res D := (mb ρ μ1).bind fun y μ2 => (ofO μ2 ((g (deref μ2 x) (deref μ2 y)).bind asB)).bind fun k μ3 => match k with
  | true => (mc ρ μ3).bind fun z μ4 => ofO μ4 (g' (deref μ4 y) (deref μ4 z))
  | false => .ok (.bl false) μ3
def kCh2 (g g' : G2) (mc : MX) (ρ : En) (x y : D) (μ2 : Mu) : Res D := (ofO μ2 ((g (deref μ2 x) (deref μ2 y)).bind asB)).bind fun k μ3 => match k with
  | true => (mc ρ μ3).bind fun z μ4 => ofO μ4 (g' (deref μ4 y) (deref μ4 z))
  | false => .ok (.bl false) μ3
def kCh3 (g' : G2) (mc : MX) (ρ : En) (y : D) (k : Bool) (μ3 : Mu) : Res D := match k with
  | true => (mc ρ μ3).bind fun z μ4 => ofO μ4 (g' (deref μ4 y) (deref μ4 z))
  | false => .ok (.bl false) μ3
theorem e_ch : mChain g g' ma mb mc ρ μ = (ma ρ μ).bind (kCh1 g g' mb mc ρ) := rfl
theorem e_ch1 : kCh1 g g' mb mc ρ x μ = (mb ρ μ).bind (kCh2 g g' mc ρ x) := rfl
theorem e_ch2 : kCh2 g g' mc ρ x y μ = (ofO μ ((g (deref μ x) (deref μ y)).bind asB)).bind (kCh3 g' mc ρ y) := rfl
theorem e_ch3t : kCh3 g' mc ρ y true μ = (mc ρ μ).bind (kBin2 g' y) := rfl
theorem e_ch3f : kCh3 g' mc ρ y false μ = .ok (.bl false) μ := rfl
theorem e_ch3 : kCh3 g' mc ρ y b μ = if b = true then (mc ρ μ).bind (kBin2 g' y) else .ok (.bl false) μ := by cases b <;> rfl
def kIsN (d : D) (μ : Mu) : Res D := .ok (.bl (isN d)) μ
def kNotN (d : D) (μ : Mu) : Res D := .ok (.bl (!isN d)) μ
theorem e_isN : mIsN m ρ μ = (m ρ μ).bind kIsN := rfl
theorem e_notN : mNotN m ρ μ = (m ρ μ).bind kNotN := rfl
theorem e_kIsN : kIsN d μ = .ok (.bl (isN d)) μ := rfl
theorem e_kNotN : kNotN d μ = .ok (.bl (!isN d)) μ := rfl
def kTru (d : D) (μ : Mu) : Res Bool := ofO μ (truD (deref μ d))
theorem e_tru : mTru m ρ μ = (m ρ μ).bind kTru := rfl
theorem e_kTru : kTru d μ = ofO μ (truD (deref μ d)) := rfl
def kAnd (n : MB) (ρ : En) (k : Bool) (μ1 : Mu) : Res Bool := match k with
  | true => n ρ μ1
  | false => .ok false μ1
def kOr (n : MB) (ρ : En) (k : Bool) (μ1 : Mu) : Res Bool := match k with
  | true => .ok true μ1
  | false => n ρ μ1
def kNot (k : Bool) (μ1 : Mu) : Res Bool := .ok (!k) μ1
theorem e_and : mAnd t1 t2 ρ μ = (t1 ρ μ).bind (kAnd t2 ρ) := rfl
theorem e_or : mOr t1 t2 ρ μ = (t1 ρ μ).bind (kOr t2 ρ) := rfl
theorem e_not : mNot t ρ μ = (t ρ μ).bind kNot := rfl
theorem e_kAnd : kAnd t ρ b μ = if b = true then t ρ μ else .ok false μ := by cases b <;> rfl
theorem e_kOr : kOr t ρ b μ = if b = true then .ok true μ else t ρ μ := by cases b <;> rfl
theorem e_kNot : kNot b μ = .ok (!b) μ := rfl
def kAndV (mb : MX) (ρ : En) (x : D) (μ1 : Mu) : Res D := match x with
  | .bl true => mb ρ μ1
  | .bl false => .ok (.bl false) μ1
  | _ => .bad
def kOrV (mb : MX) (ρ : En) (x : D) (μ1 : Mu) : Res D := match x with
  | .bl true => .ok (.bl true) μ1
  | .bl false => mb ρ μ1
  | _ => .bad
def kNotV (x : D) (μ1 : Mu) : Res D := match x with
  | .bl k => .ok (.bl (!k)) μ1
  | _ => .bad
theorem e_andV : mAndV ma mb ρ μ = (ma ρ μ).bind (kAndV mb ρ) := rfl
theorem e_orV : mOrV ma mb ρ μ = (ma ρ μ).bind (kOrV mb ρ) := rfl
theorem e_notV : mNotV ma ρ μ = (ma ρ μ).bind kNotV := rfl
theorem e_kAndV : kAndV mb ρ (.bl b) μ = if b = true then mb ρ μ else .ok (.bl false) μ := by cases b <;> rfl
theorem e_kOrV : kOrV mb ρ (.bl b) μ = if b = true then .ok (.bl true) μ else mb ρ μ := by cases b <;> rfl
theorem e_kNotV : kNotV (.bl b) μ = .ok (.bl (!b)) μ := rfl
def kIf (ma mb : MX) (ρ : En) (k : Bool) (μ1 : Mu) : Res D := match k with
  | true => ma ρ μ1
  | false => mb ρ μ1
theorem e_if : mIf t ma mb ρ μ = (t ρ μ).bind (kIf ma mb ρ) := rfl
theorem e_kIf : kIf ma mb ρ b μ = if b = true then ma ρ μ else mb ρ μ := by cases b <;> rfl
def kCons1 (ms : MAs) (ρ : En) (d : D) (μ1 : Mu) : Res (List D) := (ms ρ μ1).bind fun ds μ2 => .ok (d :: ds) μ2
def kCons2 (d : D) (ds : List D) (μ2 : Mu) : Res (List D) := .ok (d :: ds) μ2
theorem e_nil : mNil ρ μ = .ok [] μ := rfl
theorem e_cons : mCons m ms ρ μ = (m ρ μ).bind (kCons1 ms ρ) := rfl
theorem e_cons1 : kCons1 ms ρ d μ = (ms ρ μ).bind (kCons2 d) := rfl
theorem e_cons2 : kCons2 d ds μ = .ok (d :: ds) μ := rfl
def kTup (ds : List D) (μ1 : Mu) : Res D := .ok (.tup ds) μ1
def kLst (ds : List D) (μ1 : Mu) : Res D := .ok (.lst ds) μ1
def kDic (ks : List DK) (ds : List D) (μ1 : Mu) : Res D := .ok (.dic ks ds) μ1
theorem e_tup : mTup ms ρ μ = (ms ρ μ).bind kTup := rfl
theorem e_lst : mLst ms ρ μ = (ms ρ μ).bind kLst := rfl
theorem e_dic (ks : List DK) : mDic ks ms ρ μ = (ms ρ μ).bind (kDic ks) := rfl
theorem e_kTup : kTup ds μ = .ok (.tup ds) μ := rfl
theorem e_kLst : kLst ds μ = .ok (.lst ds) μ := rfl
theorem e_kDic (ks : List DK) : kDic ks ds μ = .ok (.dic ks ds) μ := rfl
def kCallB (g : GL) (ds : List D) (μ1 : Mu) : Res D := ofO μ1 (g (ds.map (deref μ1)))
theorem e_callB : mCallB gl ms ρ μ = (ms ρ μ).bind (kCallB gl) := rfl
theorem e_kCallB : kCallB gl ds μ = ofO μ (gl (ds.map (deref μ))) := rfl
def kIsI (k : Ki) (d : D) (μ1 : Mu) : Res D := ofO μ1 ((isI k (deref μ1 d)).map .bl)
theorem e_isI (k : Ki) : mIsI k m ρ μ = (m ρ μ).bind (kIsI k) := rfl
theorem e_kIsI (k : Ki) : kIsI k d μ = ofO μ ((isI k (deref μ d)).map .bl) := rfl
def kCall (φ : Fn) (ds : List D) (μ1 : Mu) : Res D := noX (φ ds μ1)
theorem e_call : mCall φ ms ρ μ = (ms ρ μ).bind (kCall φ) := rfl
theorem e_kCall : kCall φ ds μ = noX (φ ds μ) := rfl
def kNeg (d : D) (μ1 : Mu) : Res D := ofO μ1 (match d with
  | .int i => some (.int (-i))
  | _ => none)
theorem e_neg : mNeg m ρ μ = (m ρ μ).bind kNeg := rfl
theorem e_kNeg (i : Int) : kNeg (.int i) μ = .ok (.int (-i)) μ := rfl
theorem e_skip : mSkip ρ μ = .ok (.nx ρ) μ := rfl
def kSeq (n2 : MSt) (o : Out) (μ1 : Mu) : Res Out := match o with
  | .nx ρ1 => n2 ρ1 μ1
  | o => .ok o μ1
theorem e_seq : mSeq n1 n2 ρ μ = (n1 ρ μ).bind (kSeq n2) := rfl
theorem e_kSeqN : kSeq n (.nx ρ) μ = n ρ μ := rfl
theorem e_kSeqR : kSeq n (.rt d) μ = .ok (.rt d) μ := rfl
theorem e_kSeqB : kSeq n (.bk ρ) μ = .ok (.bk ρ) μ := rfl
theorem e_kSeqC : kSeq n (.ct ρ) μ = .ok (.ct ρ) μ := rfl
def kRet (d : D) (μ1 : Mu) : Res Out := .ok (.rt d) μ1
theorem e_ret : mRet m ρ μ = (m ρ μ).bind kRet := rfl
theorem e_kRet : kRet d μ = .ok (.rt d) μ := rfl
theorem e_retN : mRetN ρ μ = .ok (.rt .non) μ := rfl
def kDrop (ρ : En) (d : D) (μ1 : Mu) : Res Out := .ok (.nx ρ) μ1
theorem e_drop : mDrop m ρ μ = (m ρ μ).bind (kDrop ρ) := rfl
theorem e_kDrop : kDrop ρ d μ = .ok (.nx ρ) μ := rfl
def kSet (i : Nat) (ρ : En) (d : D) (μ1 : Mu) : Res Out := .ok (.nx (ρ.set i (some d))) μ1
theorem e_set : mSet i m ρ μ = (m ρ μ).bind (kSet i ρ) := rfl
theorem e_kSet : kSet i ρ d μ = .ok (.nx (ρ.set i (some d))) μ := rfl
def kIte (n1 n2 : MSt) (ρ : En) (k : Bool) (μ1 : Mu) : Res Out := match k with
  | true => n1 ρ μ1
  | false => n2 ρ μ1
theorem e_ite : mIte t n1 n2 ρ μ = (t ρ μ).bind (kIte n1 n2 ρ) := rfl
theorem e_kIte : kIte n1 n2 ρ b μ = if b = true then n1 ρ μ else n2 ρ μ := by cases b <;> rfl
def kFor (tg : MG) (n : MSt) (ρ : En) (ds : List D) (μ1 : Mu) : Res Out := forGo tg n ds ρ μ1
theorem e_for : mFor tg it n ρ μ = (it ρ μ).bind (kFor tg n ρ) := rfl
theorem e_kFor : kFor tg n ρ ds μ = forGo tg n ds ρ μ := rfl
def kRange1 (d : D) (μ1 : Mu) : Res (List D) := ofO μ1 (asRange [d])
theorem e_range1 : mRange1 m ρ μ = (m ρ μ).bind kRange1 := rfl
theorem e_kRange1 : kRange1 d μ = ofO μ (asRange [d]) := rfl
def kOverL (d : D) (μ1 : Mu) : Res (List D) := ofO μ1 (asSeqL d)
def kOverT (d : D) (μ1 : Mu) : Res (List D) := ofO μ1 (asSeqT d)
theorem e_overL : mOverL m ρ μ = (m ρ μ).bind kOverL := rfl
theorem e_overT : mOverT m ρ μ = (m ρ μ).bind kOverT := rfl
theorem e_kOverL : kOverL (.lst ds) μ = .ok ds μ := rfl
theorem e_kOverT : kOverT (.tup ds) μ = .ok ds μ := rfl
def kFin (o : Out) (μ1 : Mu) : Res D := match o with
  | .rt d => .ok d μ1
  | .nx _ => .ok .non μ1
  | _ => .bad
theorem e_fin (r : Res Out) : fin r = r.bind kFin := by cases r with
  | ok o μ => cases o <;> rfl
  | exc _ _ => rfl
  | bad => rfl
theorem e_kFinR : kFin (.rt d) μ = .ok d μ := rfl
theorem e_kFinN : kFin (.nx ρ) μ = .ok .non μ := rfl
theorem e_fnOf (k : Nat) : fnOf k n ds μ = (n (ds.map some ++ List.replicate k none) μ).bind kFin := e_fin _
/-- a turn of a loop -/
def kTurn (tg : MG) (n : MSt) (ds : List D) (o : Out) (μ1 : Mu) : Res Out := match o with
  | .nx ρ2 => forGo tg n ds ρ2 μ1
  | .ct ρ2 => forGo tg n ds ρ2 μ1
  | .bk ρ2 => .ok (.nx ρ2) μ1
  | .rt d => .ok (.rt d) μ1
theorem e_forNil : forGo tg n [] ρ μ = .ok (.nx ρ) μ := rfl
theorem e_forCons (i : Nat) : forGo (gN i) n (d :: ds) ρ μ = (n (ρ.set i (some d)) μ).bind (kTurn (gN i) n ds) := by
  simp only [forGo, gN]
  cases n (ρ.set i (some d)) μ with
  | ok o μ => cases o <;> rfl
  | exc _ _ => rfl
  | bad => rfl
theorem e_turnN : kTurn tg n ds (.nx ρ) μ = forGo tg n ds ρ μ := rfl
theorem e_turnC : kTurn tg n ds (.ct ρ) μ = forGo tg n ds ρ μ := rfl
theorem e_turnB : kTurn tg n ds (.bk ρ) μ = .ok (.nx ρ) μ := rfl
theorem e_turnR : kTurn tg n ds (.rt d) μ = .ok (.rt d) μ := rfl
theorem noX_ite {α : Type} (c : Prop) [Decidable c] (a b : Res α) : noX (if c then a else b) = if c then noX a else noX b := by split <;> rfl
theorem bind_ite {α β : Type} (c : Prop) [Decidable c] (a b : Res α) (f : α → Mu → Res β) : (if c then a else b).bind f = if c then a.bind f else b.bind f := by split <;> rfl
theorem ofO_ite {α : Type} (c : Prop) [Decidable c] (a b : Option α) : ofO μ (if c then a else b) = if c then ofO μ a else ofO μ b := by split <;> rfl
end
/-! ### the operations on known kinds -/
section
variable (i j : Int) (a b : List Nat) (xs ys : List D) (k l : Bool)
theorem g_add : gAdd (.int i) (.int j) = some (.int (i + j)) := rfl
theorem g_sub : gSub (.int i) (.int j) = some (.int (i - j)) := rfl
theorem g_mulL (h : -18446744073709551616 < i) (h2 : i < 18446744073709551616) : gMul (.int i) (.int j) = some (.int (i * j)) := by
  simp only [gMul, gInt]; rw [if_pos (.inl ⟨h, h2⟩)]; rfl
theorem g_mulR (h : -18446744073709551616 < j) (h2 : j < 18446744073709551616) : gMul (.int i) (.int j) = some (.int (i * j)) := by
  simp only [gMul, gInt]; rw [if_pos (.inr ⟨h, h2⟩)]; rfl
theorem g_div (h : 0 < j) (h2 : j < 18446744073709551616) : gDiv (.int i) (.int j) = some (.int (i / j)) := by
  simp only [gDiv, gInt]; rw [if_pos ⟨h, h2⟩]; rfl
theorem g_mod (h : 0 < j) : gMod (.int i) (.int j) = some (.int (i % j)) := by
  simp only [gMod, gInt]; rw [if_pos h]; rfl
theorem g_and : gAnd (.int i) (.int j) = some (.int (Builtin.bitAnd i j)) := rfl
theorem g_or : gOrB (.int i) (.int j) = some (.int (Builtin.bitOr i j)) := rfl
theorem g_xor : gXor (.int i) (.int j) = some (.int (Builtin.bitXor i j)) := rfl
theorem g_shl (h : 0 ≤ j) (h1 : j ≤ 1000000) (h2 : i.natAbs < 18446744073709551616) : gShl (.int i) (.int j) = some (.int (i * 2 ^ j.toNat)) := by
  simp only [gShl, gInt]; rw [if_pos ⟨h, h1, h2⟩]; rfl
theorem g_shr (h : 0 ≤ j) : gShr (.int i) (.int j) = some (.int (i / 2 ^ j.toNat)) := by
  simp only [gShr, gInt]; rw [if_pos h]; rfl
theorem g_lt : gLt (.int i) (.int j) = some (.bl (decide (i < j))) := rfl
theorem g_le : gLe (.int i) (.int j) = some (.bl (decide (i ≤ j))) := rfl
theorem g_gt : gGt (.int i) (.int j) = some (.bl (decide (j < i))) := rfl
theorem g_ge : gGe (.int i) (.int j) = some (.bl (decide (j ≤ i))) := rfl
theorem g_eqI : gEq (.int i) (.int j) = some (.bl (i == j)) := by
  unfold gEq; rw [if_pos (by rfl)]; simp [eqD]
theorem g_neI : gNe (.int i) (.int j) = some (.bl (!(i == j))) := by
  unfold gNe; rw [if_pos (by rfl)]; simp [eqD]
theorem g_eqB : gEq (.bl k) (.bl l) = some (.bl (k == l)) := by
  unfold gEq; rw [if_pos (by rfl)]; simp [eqD]
def okS (a : List Nat) : Bool := a.all (· < 0x110000)
theorem g_eqS (ha : okS a = true) (hb : okS b = true) : gEq (.str a) (.str b) = some (.bl (a == b)) := by
  unfold okS at ha hb
  unfold gEq cmpOk; simp only [plainD, dpt, ha, hb]; simp [eqD]
theorem g_neS (ha : okS a = true) (hb : okS b = true) : gNe (.str a) (.str b) = some (.bl (!(a == b))) := by
  unfold okS at ha hb
  unfold gNe cmpOk; simp only [plainD, dpt, ha, hb]; simp [eqD]
theorem g_idxL : gIdx (.lst xs) (.int i) = atI xs i := rfl
theorem g_idxT : gIdx (.tup xs) (.int i) = atI xs i := rfl
theorem g_lenL : gLen [.lst xs] = some (.int xs.length) := rfl
theorem g_lenT : gLen [.tup xs] = some (.int xs.length) := rfl
theorem g_max : gMax [.int i, .int j] = some (.int (if j > i then j else i)) := rfl
theorem g_min : gMin [.int i, .int j] = some (.int (if j < i then j else i)) := rfl
theorem g_intB : gIntC [.bl k] = some (.int (if k then 1 else 0)) := rfl
theorem g_intI : gIntC [.int i] = some (.int i) := rfl
theorem atI_pos {β : Type} {xs : List β} {i : Int} (h0 : 0 ≤ i) : atI xs i = xs[i.toNat]? := by
  unfold atI ixN
  rw [if_pos h0]
  by_cases h : i < xs.length
  · rw [if_pos h]; rfl
  · rw [if_neg h]
    simp only [Option.bind_none]
    symm
    rw [List.getElem?_eq_none_iff]
    omega
theorem atI_neg {β : Type} {xs : List β} {i : Int} (h0 : i < 0) (h1 : -(xs.length : Int) ≤ i) : atI xs i = xs[(i + xs.length).toNat]? := by
  unfold atI ixN
  rw [if_neg (by omega)]
  split
  · rfl
  · omega
theorem atI_map {β γ : Type} (f : β → γ) (xs : List β) (i : Int) : atI (xs.map f) i = (atI xs i).map f := by
  unfold atI
  rw [List.length_map]
  cases ixN xs.length i with
  | none => rfl
  | some j => simp
theorem asRange_nat (n : Nat) (h : n < 4611686018427387904) : asRange [.int (n : Nat)] = some (rangeD n) := by
  simp only [asRange]
  have h1 : (-(2 ^ 62) : Int) = -4611686018427387904 := by decide
  have h2 : (2 ^ 62 : Int) = 4611686018427387904 := by decide
  rw [h2, if_pos (by constructor <;> omega), Int.toNat_natCast]
end
end M
set_option Elab.async false
set_option linter.all false
set_option maxRecDepth 100000
set_option maxHeartbeats 4000000
namespace M
open PySem PySem.Spec PyProof.Rows L2

/-! ### a comprehension's closure -/
def closL (env : Env) : List (Str × NameKind) → List (Str × Addr) → List (Str × Addr)
  | [], acc => acc
  | p :: r, acc => closL env r (if (p.2 == .free) = true then (p.1, (env.cells.lookup p.1).getD 0) :: acc else acc)
theorem closure_eq {env : Env} {scope : Scope} (h : ∀ p ∈ scope.names, p.2 = .free → ∃ c, env.cells.lookup p.1 = some c) : closureFor scope env = pure (closL env scope.names []) := by
  simp only [closureFor]
  generalize ([] : List (Str × Addr)) = acc
  generalize scope.names = l at h
  induction l generalizing acc with
  | nil => rfl
  | cons p r ih =>
    obtain ⟨n, k⟩ := p
    rw [List.forIn_cons]
    by_cases hk : (k == NameKind.free) = true
    · obtain ⟨c, hc⟩ := h (n, k) List.mem_cons_self (by simpa using hk)
      have hc' : cellOf env n = pure c := by unfold cellOf; rw [hc]
      simp only [hk, if_true, hc', pure_bind, closL]
      rw [hc]
      exact ih _ (fun p hp => h p (List.mem_cons_of_mem _ hp))
    · simp only [hk, if_false, pure_bind, closL]
      exact ih _ (fun p hp => h p (List.mem_cons_of_mem _ hp))
theorem closL_mem {env : Env} : ∀ (l : List (Str × NameKind)) (acc : List (Str × Addr)), (∀ p ∈ l, p.2 = .free → ∃ c, env.cells.lookup p.1 = some c) → (∀ p ∈ acc, env.cells.lookup p.1 = some p.2) → ∀ p ∈ closL env l acc, env.cells.lookup p.1 = some p.2
  | [], _, _, ha => ha
  | q :: r, acc, h, ha => by
    refine closL_mem r _ (fun p hp => h p (List.mem_cons_of_mem _ hp)) ?_
    by_cases hk : (q.2 == NameKind.free) = true
    · rw [if_pos hk]
      intro p hp
      rcases List.mem_cons.mp hp with rfl | hp
      · obtain ⟨c, hc⟩ := h q List.mem_cons_self (by simpa using hk)
        simp [hc]
      · exact ha p hp
    · rw [if_neg hk]; exact ha
theorem lookup_mem {β : Type} {l : List (Str × β)} {x : Str} {c : β} (h : l.lookup x = some c) : (x, c) ∈ l := by
  induction l with
  | nil => cases h
  | cons p r ih =>
    obtain ⟨n, k⟩ := p
    rw [List.lookup_cons] at h
    by_cases e : x = n
    · subst e
      simp at h
      subst h
      exact List.mem_cons_self
    · have e' : (x == n) = false := by simpa using e
      rw [e'] at h
      exact List.mem_cons_of_mem _ (ih h)
theorem mem_lookup {β : Type} {l : List (Str × β)} {x : Str} {c : β} (h : (x, c) ∈ l) : ∃ c', l.lookup x = some c' := by
  induction l with
  | nil => cases h
  | cons p r ih =>
    obtain ⟨n, k⟩ := p
    rw [List.lookup_cons]
    by_cases e : x = n
    · subst e; exact ⟨k, by simp⟩
    · rcases List.mem_cons.mp h with h | h
      · cases h; exact absurd rfl e
      · obtain ⟨c', hc⟩ := ih h
        have e' : (x == n) = false := by simpa using e
        exact ⟨c', by rw [e']; exact hc⟩
theorem closL_acc {env : Env} : ∀ (l : List (Str × NameKind)) (acc : List (Str × Addr)) (p : Str × Addr), p ∈ acc → p ∈ closL env l acc
  | [], _, _, h => h
  | q :: r, acc, p, h => by
    refine closL_acc r _ p ?_
    split
    · exact List.mem_cons_of_mem _ h
    · exact h
theorem closL_has {env : Env} : ∀ (l : List (Str × NameKind)) (acc : List (Str × Addr)) (x : Str), (x, NameKind.free) ∈ l → ∃ c, (closL env l acc).lookup x = some c
  | [], _, _, h => nomatch h
  | q :: r, acc, x, h => by
    rcases List.mem_cons.mp h with rfl | h
    · exact mem_lookup (closL_acc r _ (x, (env.cells.lookup x).getD 0) (by simp))
    · exact closL_has r _ x h
/-- what a comprehension's scope must be within its def's -/
structure CompScope (scope : Scope) (env : Env) : Prop where
  kind : scope.kind = .function
  nocell : ∀ y ∈ scope.names, y.2 ≠ .cell
  loc : ∀ y ∈ scope.names, y.2 = .local → scope.names.lookup y.1 = some .local
  cap : ∀ y ∈ scope.names, y.2 = .free → env.kindOf y.1 = some .cell ∨ env.kindOf y.1 = some .free
abbrev cellsC (scope : Scope) (env : Env) : List (Str × Addr) := closL env scope.names []
theorem relabel_kind {scope : Scope} {env : Env} {x : Str} (hn : ∀ y ∈ scope.names, y.2 ≠ .cell) (h : (relabel scope env).names.lookup x = some .cell ∨ (relabel scope env).names.lookup x = some .free) : (x, NameKind.free) ∈ scope.names := by
  have : ∃ k, (x, k) ∈ (relabel scope env).names ∧ (k = .cell ∨ k = .free) := by
    rcases h with h | h
    · exact ⟨_, lookup_mem h, .inl rfl⟩
    · exact ⟨_, lookup_mem h, .inr rfl⟩
  obtain ⟨k, hm, hk⟩ := this
  unfold relabel at hm
  obtain ⟨⟨n, k'⟩, hq, e⟩ := List.mem_map.mp hm
  simp only at e
  split at e
  · rename_i hc
    simp only [Bool.and_eq_true, beq_iff_eq] at hc
    cases e
    rw [hc.1.1] at hq
    exact hq
  · cases e
    rcases hk with rfl | rfl
    · exact absurd rfl (hn _ hq)
    · exact hq

/-! ### the loop of a comprehension, what it walks letting its pair go -/
abbrev NoE : Value → Shared → Prop := fun _ _ => False
theorem compLoop_own {prog : Program} {w : World} {A : Around} {R : Result → Shared → Prop} {s : Shared} {elt target iter : Expr} {ifs : List Expr} {scope : Scope} {pos : Pos} {it acc : Value} {env : Env} (I : Nat → Shared → Prop)
    (turn : ∀ n s, I n s → wpAny (model prog w) A (pyNext it) (fun r s₁ => match r with
      | none => R (.ok .next) s₁
      | some v => wpAny (model prog w) A (letOwnedTupleGo target it v) (fun _ s₁' => wpAny (model prog w) A (assign target env v) (fun _ s₂ =>
          wpAny (model prog w) A (forIn ifs true fun c r => if r = true then do let ok ← isTrue c env (eval c env); pure (ForInStep.yield ok) else pure (ForInStep.yield r)) (fun ok s₃ =>
            if ok = true then wpAny (model prog w) A (eval elt env) (fun x s₄ =>
              wpAny (model prog w) A (call (.builtin "list.append") [acc, x]) (fun _ s₅ => ∃ m, m < n ∧ I m s₅) NoE s₄) NoE s₃
            else ∃ m, m < n ∧ I m s₃) NoE s₂) NoE s₁') NoE s₁) NoE s)
    (n : Nat) (h : I n s) : codeAny (model prog w) A (.compLoop (.ListComp elt [⟨target, iter, ifs, 0⟩] scope pos) 0 it acc env) R s := by
  refine codeAny_loop rfl I (fun n s hI => ?_) n h
  show wpAny _ A ((compTurn (.ListComp elt [⟨target, iter, ifs, 0⟩] scope pos) 0 it acc env).onRaise (fun x => do noteFrame x env; theTreesLotGoes x)) _ _ s
  refine wpAny_noted ?_
  rw [compTurn_list]
  refine wpAny_bind (wpAny_standAt (wpAny_bind (wpAny_mono (turn n s hI) (fun r s₁ h₁ => ?_) fun _ _ h' => h'.elim)))
  cases r with
  | none => exact wpAny_pure h₁
  | some v =>
    refine wpAny_bind (wpAny_mono h₁ (fun _ s₁' h₁' => ?_) fun _ _ h' => h'.elim)
    refine wpAny_bind (wpAny_mono h₁' (fun _ s₂ h₂ => wpAny_bind (wpAny_mono h₂ (fun ok s₃ h₃ => ?_) fun _ _ h' => h'.elim)) fun _ _ h' => h'.elim)
    cases ok with
    | false => exact wpAny_pure ⟨rfl, h₃⟩
    | true =>
      exact wpAny_bind (wpAny_bind (wpAny_mono h₃ (fun x s₄ h₄ => wpAny_bind (wpAny_mono h₄ (fun _ s₅ h₅ => wpAny_pure (wpAny_pure ⟨rfl, h₅⟩)) fun _ _ h' => h'.elim)) fun _ _ h' => h'.elim))

/-! ### the context of a comprehension's block -/
def compCx (X : Cx) (N' : List Str) (scope : Scope) (C : Addr) (s : Shared) (H : Hp) (ex : List Addr) : Cx :=
  { X with N := N', s₀ := s, H₀ := H, env := compEnvC scope (cellsC scope X.env) C X.env, outer := X.stack, ex := ex, fn := fun _ => false, pn := [], xe := NoE }
section
variable {X : Cx} {EX : EXT} {pins : List (Addr × Obj)} {σ : L2.St} {H : Hp} {s : Shared} {scope : Scope} {C : Addr} {ex : List Addr} {N' : List Str}
theorem CompScope.had (cs : CompScope scope X.env) (ok : X.Ok) : ∀ p ∈ scope.names, p.2 = .free → ∃ c, X.env.cells.lookup p.1 = some c := fun p hp hk => ok.has p.1 (cs.cap p hp hk)
theorem cellsC_at (cs : CompScope scope X.env) (ok : X.Ok) {x : Str} {c : Addr} (h : (cellsC scope X.env).lookup x = some c) : X.env.cells.lookup x = some c :=
  closL_mem scope.names [] (cs.had ok) (fun _ z => nomatch z) (x, c) (lookup_mem h)
theorem compCx_ok (I : Inv X pins σ H s) (cs : CompScope scope X.env) (hC : s.heap.objs.size ≤ C) (hex : ∀ b ∈ ex, FpOk X pins H b ∧ ∃ o, s.heap.get? b = some o) : (compCx X N' scope C s H ex).Ok := by
  refine ⟨I.ok.mod, cs.kind, I.ok.glob, I.ok.blt, hC, fun x y c h1 h2 => I.ok.inj x y c (cellsC_at cs I.ok h1) (cellsC_at cs I.ok h2), fun x h => ?_, fun x c h => (by cases h), I.ok.hd, I.ok.frames, .inl rfl, fun b hb => ⟨?_, fun x c h => ?_⟩, I.bs, Nat.le_trans I.ok.bsz I.sz, fun b o e hb => ?_, fun b hb hf => ?_, I.stack, I.stkFree⟩
  · exact closL_has scope.names [] x (relabel_kind cs.nocell h)
  · obtain ⟨o, e⟩ := (hex b hb).2
    exact Nat.ne_of_lt (Nat.lt_of_lt_of_le (Heap.lt_size e) hC)
  · exact (hex b hb).1.2.2.2.2.1 x c (cellsC_at cs I.ok h)
  · rcases (hex b hb).1.2.2.2.1 with z | z
    · exact I.ok.noex b o e z
    · exact absurd (Nat.lt_of_lt_of_le (Heap.lt_size e) (Nat.le_trans I.ok.bsz z)) (Nat.lt_irrefl _)
  · rcases List.mem_cons.mp (I.stkSub b hf) with z | z
    · exact (hex b hb).1.2.1 z
    · exact (hex b hb).1.2.2.1 z
theorem relabel_free {env : Env} {scope : Scope} {x : Str} (h : scope.names.lookup x = some .free) : (relabel scope env).names.lookup x = some .cell ∨ (relabel scope env).names.lookup x = some .free := by
  unfold relabel
  generalize scope.names = l at h
  simp only
  induction l with
  | nil => cases h
  | cons p r ih =>
    obtain ⟨n, k⟩ := p
    rw [List.lookup_cons] at h
    simp only [List.map_cons]
    by_cases e : (x == n) = true
    · rw [e] at h
      cases h
      split
      · left; rw [List.lookup_cons, e]
      · right; rw [List.lookup_cons, e]
    · have e' : (x == n) = false := by simpa using e
      rw [e'] at h
      have := ih h
      split
      · rw [List.lookup_cons, e']; exact this
      · rw [List.lookup_cons, e']; exact this
/-- the block's names: its own, then those that it takes from around -/
structure Caps (X : Cx) (scope : Scope) (T caps : List Str) (ix : List Nat) : Prop where
  len : ix.length = caps.length
  at' : ∀ (j : Nat) (x : Str) (i : Nat), caps[j]? = some x → ix[j]? = some i → X.N[i]? = some x ∧ scope.names.lookup x = some .free
def blk {β : Type} (k : Nat) (ix : List Nat) (σ : List (Option β)) : List (Option β) := List.replicate k none ++ ix.map fun i => (σ[i]?).getD none
theorem comp_start {T caps : List Str} {ix : List Nat} (I : Inv X pins σ H s) (cs : CompScope scope X.env) (cp : Caps X scope T caps ix) {h' : Heap} {tk : Nat} (hC : C = s.heap.objs.size) (hex : ∀ b ∈ ex, FpOk X pins H b ∧ ∃ o, s.heap.get? b = some o)
    (hn : h'.Ns C fun _ => none) (hk : ∀ b o, s.heap.get? b = some o → h'.get? b = some o) :
    Inv (compCx X (T ++ caps) scope C s H ex) [] (blk T.length ix σ) H { s with heap := h', toks := tk } := by
  have ok := compCx_ok (N' := T ++ caps) (C := C) I cs (by rw [hC]; exact Nat.le_refl _) hex
  refine ⟨ok, rfl, I.bare, Un.kept hk, ⟨_, hn, fun i x v e1 e2 e3 => ?_⟩, fun x c e => ?_, ?_, fun x c e => I.freeC x c (cellsC_at cs I.ok e), fun p hp => (by simp [compCx] at hp), I.hok.kept hk, by simp [blk, compCx, cp.len]⟩
  · have e1 : (T ++ caps)[i]? = some x := e1
    unfold blk at e2
    by_cases hi : i < T.length
    · rw [List.getElem?_append_left (by simpa using hi), List.getElem?_replicate] at e2
      split at e2 <;> cases e2
    · rw [List.getElem?_append_right (by simp; omega)] at e2
      rw [List.getElem?_append_right (by omega)] at e1
      simp only [List.length_replicate, List.getElem?_map] at e2
      cases q : ix[i - T.length]? with
      | none => rw [q] at e2; cases e2
      | some j =>
        rw [q] at e2
        obtain ⟨hN, hl⟩ := cp.at' _ x j e1 q
        have e2 : (σ[j]?).getD none = some v := by simpa using e2
        have hσ : σ[j]? = some (some v) := by
          cases z : σ[j]? with
          | none => rw [z] at e2; cases e2
          | some o => rw [z] at e2; simp at e2; rw [e2]
        have hm : (x, NameKind.free) ∈ scope.names := lookup_mem hl
        have hkind := cs.cap (x, .free) hm rfl
        obtain ⟨m, hns, hloc⟩ := I.loc
        obtain ⟨u, ru, look⟩ := hloc j x v hN hσ (hkind.elim (fun z => .inr (.inl z)) fun z => .inr (.inr z))
        refine ⟨u, ru, .inr ⟨relabel_free hl, ?_⟩⟩
        rcases look with ⟨z, _⟩ | ⟨_, c, hc, hcell⟩
        · rcases hkind with y | y
          · rw [z] at y; cases y
          · rw [z] at y; cases y
        · obtain ⟨c', hc'⟩ := closL_has (env := X.env) scope.names [] x hm
          have := cellsC_at cs I.ok hc'
          rw [hc] at this
          cases this
          obtain ⟨o, ho, hd⟩ := hcell
          exact ⟨c, hc', o, hk _ _ ho, hd⟩
  · obtain ⟨v, o, ho, hd⟩ := I.cell x c (cellsC_at cs I.ok e)
    exact ⟨v, o, hk _ _ ho, hd⟩
  · show H C = none
    rw [hC]
    exact I.fresh
/-- behind the block, in the context around -/
theorem comp_back {T caps : List Str} {σ' : L2.St} {H1 H' : Hp} {s2 s3 s' : Shared} {D : Addr} {o : HO} (I2 : Inv X pins σ H1 s2) (hD : s2.heap.objs.size ≤ D) (h3 : s3.os = s2.os) (hk : ∀ b u, s2.heap.get? b = some u → s3.heap.get? b = some u)
    (hex : ∀ b ∈ ex, FpOk X pins H1 b) (I' : Inv (compCx X (T ++ caps) scope C s3 (upd H1 D o) ex) [] σ' H' s') : Inv X pins σ H' s' := by
  have hos : s'.os = s2.os := I'.os.trans h3
  have u0 : Un (frs X.stack) ex H1 (upd H1 D o) s2.heap s3.heap := Un.laid hk hD (I2.hok.fresh hD)
  have u : Un (frs X.stack) ex H1 H' s2.heap s'.heap := u0.trans I'.base
  exact I2.call' hos u I'.hok I'.bare fun b hb => ⟨(hex b hb).2.2.2.1, (hex b hb).2.1, (hex b hb).2.2.2.2.1, (hex b hb).2.2.2.2.2⟩
end
end M
set_option Elab.async false
set_option linter.all false
set_option maxRecDepth 100000
set_option maxHeartbeats 4000000
namespace M
open PySem PySem.Spec PyProof.Rows L2

/-! ### comprehensions -/
def compGo (tg : MG) (t : MB) (m : MX) : List D → En → Mu → List D → Res (List D)
  | [], _, μ, acc => .ok acc μ
  | d :: ds, ρ, μ, acc => match tg d ρ with
    | none => .bad
    | some ρ1 => (noX (t ρ1 μ)).bind fun k μ1 => if k = true then (noX (m ρ1 μ1)).bind fun x μ2 => compGo tg t m ds ρ1 μ2 (acc ++ [x]) else compGo tg t m ds ρ1 μ1 acc
def mComp (k : Nat) (ix : List Nat) (tg : MG) (it : MIt) (t : MB) (m : MX) : MX := fun ρ μ => (it ρ μ).bind fun ds μ1 => if ds.length ≤ 16777216 then (compGo tg t m ds (blk k ix ρ) μ1 []).bind fun xs μ2 => .ok (.lst xs) μ2 else .bad
def mTT : MB := fun _ μ => .ok true μ
/-- the tests of a comprehension -/
def MIfs (X : Cx) (ifs : List Expr) (t : MB) : Prop := ∀ pins s Z α F H σ ρ μ Q, Inv X pins σ H s → RS X.K Z α F H σ ρ μ → GB X.K NoX Z α F Q (t ρ μ) →
  wpAny (model X.prog X.w) X.A (forIn ifs true fun c r => if r = true then do let ok ← isTrue c X.env (eval c X.env); pure (ForInStep.yield ok) else pure (ForInStep.yield r)) (TP X pins σ Q) X.xe s
theorem mifs_nil {X : Cx} : MIfs X [] mTT := fun pins s Z α F H σ ρ μ Q I R g => wpAny_tests_nil ⟨H, I, g α F H R.hp (Ext.refl _ _)⟩
theorem mifs_one {X : Cx} {c : Expr} {t : MB} (h : MT X NoX c t) : MIfs X [c] t := by
  obtain ⟨tt, pt, st⟩ := h
  exact fun pins s Z α F H σ ρ μ Q I R g => wpAny_tests_one (pt pins s σ H Q I (st Z α F H σ ρ μ Q R g))
theorem GE.noX' {K : PySem.W.Frag} {Z : Hp} {α : List Addr} {F : Hp} {Q : VK} {r : Res D} (h : GE K NoX Z α F Q (M.noX r)) : GE K NoX Z α F Q r := by
  cases r with
  | ok d μ => exact h
  | exc x μ => exact h.elim
  | bad => exact h
theorem GB.noX' {K : PySem.W.Frag} {Z : Hp} {α : List Addr} {F : Hp} {Q : Bool → Hp → Prop} {r : Res Bool} (h : GB K NoX Z α F Q (M.noX r)) : GB K NoX Z α F Q r := by
  cases r with
  | ok d μ => exact h
  | exc x μ => exact h.elim
  | bad => exact h
theorem rs_blk {K : PySem.W.Frag} {Z F H : Hp} {α : List Addr} {σ : L2.St} {ρ : En} {μ : Mu} (k : Nat) (ix : List Nat) (R : RS K Z α F H σ ρ μ) : RS K Z α F H (blk k ix σ) (blk k ix ρ) μ := by
  refine ⟨R.hp, by simp [blk], fun i d h => ?_⟩
  unfold blk at h ⊢
  by_cases hi : i < k
  · rw [List.getElem?_append_left (by simpa using hi), List.getElem?_replicate] at h
    split at h <;> cases h
  · rw [List.getElem?_append_right (by simp; omega)] at h ⊢
    simp only [List.length_replicate, List.getElem?_map] at h ⊢
    cases q : ix[i - k]? with
    | none => rw [q] at h; cases h
    | some j =>
      rw [q] at h
      have e2 : (ρ[j]?).getD none = some d := by simpa using h
      have hρ : ρ[j]? = some (some d) := by
        cases z : ρ[j]? with
        | none => rw [z] at e2; cases e2
        | some o => rw [z] at e2; simp at e2; rw [e2]
      obtain ⟨v, h1, h2⟩ := R.sl j d hρ
      exact ⟨v, by simp [h1], h2⟩
/-- the list that grows is another one -/
theorem RH.rehold {K : PySem.W.Frag} {Z F H : Hp} {α : List Addr} {μ : Mu} {p : Addr} {o : HO} (o' : HO) (r : RH K (upd Z p o) α F H μ) : RH K (upd Z p o') α F (upd H p o') μ := by
  have fp : F p = none := r.zf p o upd_same
  have nc : ∀ (k : Nat) (a : Addr) (c : Cell), α[k]? = some a → μ[k]? = some c → c ≠ .dead → a ≠ p := fun k a c ha hc hd z => by
    have := r.zc k a c ha hc hd
    rw [z, upd_same] at this
    cases this
  refine ⟨fun b u e => ?_, r.len, fun k a c ha hc => ?_, fun b u e => ?_, fun b u e => ?_, fun k a c ha hc hd => ?_, r.dis⟩
  · rw [upd_ne (ne_of_none e fp)]; exact r.sub b u e
  · have h := r.cell k a c ha hc
    cases c with
    | lst ds =>
      obtain ⟨h1, vs, h2, h3⟩ := h
      exact ⟨h1, vs, by rw [upd_ne (nc k a _ ha hc (by intro z; cases z))]; exact h2, h3⟩
    | dic ks ds =>
      obtain ⟨h1, vs, h2, hl, h3⟩ := h
      exact ⟨h1, vs, by rw [upd_ne (nc k a _ ha hc (by intro z; cases z))]; exact h2, hl, h3⟩
    | dead => trivial
  · by_cases hb : b = p
    · subst hb; rw [upd_same] at e ⊢; exact e
    · rw [upd_ne hb] at e ⊢; exact r.zs b u (by rw [upd_ne hb]; exact e)
  · by_cases hb : b = p
    · subst hb; exact fp
    · rw [upd_ne hb] at e; exact r.zf b u (by rw [upd_ne hb]; exact e)
  · have := r.zc k a c ha hc hd
    rw [upd_ne (nc k a c ha hc hd)] at this ⊢
    exact this
theorem upd_id {H : Hp} {p : Addr} {o : HO} (h : H p = some o) : upd H p o = H := by
  funext b
  unfold upd
  split
  · rename_i e; rw [e, h]
  · rfl
section
variable {X : Cx} {EX : EXT} {elt tg iter : Expr} {ifs : List Expr} {scope : Scope} {pos : Pos} {T caps : List Str} {ix : List Nat} {g : MG} {t : MB} {m : MX}
/-- what the block asks: its target, its tests, its element, in its own context -/
def Blk (X : Cx) (scope : Scope) (N' : List Str) (tg : Expr) (ifs : List Expr) (elt : Expr) (g : MG) (t : MB) (m : MX) : Prop :=
  ∀ C s H ex, MTg (compCx X N' scope C s H ex) tg g ∧ MIfs (compCx X N' scope C s H ex) ifs t ∧ ME (compCx X N' scope C s H ex) NoX elt m
theorem RH.drop {K : PySem.W.Frag} {Z F H : Hp} {α : List Addr} {μ : Mu} {p : Addr} {o : HO} (r : RH K (upd Z p o) α F H μ) (hz : Z p = none) : RH K Z α F H μ := by
  refine ⟨r.sub, r.len, r.cell, fun b u e => ?_, fun b u e => ?_, fun k a c ha hc hd => ?_, r.dis⟩
  · exact r.zs b u (by rw [upd_ne (ne_of_none e hz)]; exact e)
  · exact r.zf b u (by rw [upd_ne (ne_of_none e hz)]; exact e)
  · have := r.zc k a c ha hc hd
    by_cases ha' : a = p
    · rw [ha']; exact hz
    · rw [upd_ne ha'] at this; exact this
theorem comp_loop {Y : Cx} {Rr : Result → Shared → Prop} {s : Shared} {σ : L2.St} {H Z F : Hp} {α : List Addr} {ρ : En} {μ : Mu} {ds : List D} {J : It} {fp : List Addr} {it D' : Addr} {tn : Nat → Heap → Prop} {G : Res (List D) → Prop} (hxe : Y.xe = NoE) (hcalm : Y.calm = true)
    (hgt : MTg Y tg g) (hif : MIfs Y ifs t) (he : ME Y NoX elt m) (Tn : Turn Y.prog Y.w Y.K tg J fp it tn) (stat : ∀ H', (∀ b ∈ fp, H' b = none) → ∀ b ∈ fp, FpOk Y [] H' b) (I : Inv Y [] σ H s) (ht0 : tn 0 s.heap) (hf0 : ∀ b ∈ fp, H b = none)
    (R : RS Y.K (upd Z D' (.lst [])) α F H σ ρ μ) (wk : WalkOk Y.K α F J ds) (hds : ds.length ≤ 16777216) (hG : G (compGo g t m ds ρ μ [])) (hbad : ¬ G .bad)
    (hR : ∀ (σ' : L2.St) (H' : Hp) (s' : Shared) (α' : List Addr) (F' : Hp) (xs : List D) (vs : List V) (μ' : Mu), Inv Y [] σ' H' s' → RH Y.K (upd Z D' (.lst vs)) α' F' H' μ' → Ext α F α' F' → Reps Y.K F' α' xs vs → G (.ok xs μ') → Rr (.ok .next) s') :
    codeAny (model Y.prog Y.w) Y.A (.compLoop (.ListComp elt [⟨tg, iter, ifs, 0⟩] scope pos) 0 (.ref it) (.ref D') Y.env) Rr s := by
  obtain ⟨tgt, pg, sg⟩ := hgt
  obtain ⟨te, pe, se⟩ := he
  have nox : ∀ {α : Type} {tr : Sem α} {Q : α → Shared → Prop} {s : Shared}, wpAny (model Y.prog Y.w) Y.A tr Q Y.xe s → wpAny (model Y.prog Y.w) Y.A tr Q NoE s := fun h => by rw [hxe] at h; exact h
  refine compLoop_own (fun n s' => ∃ i σ' H' α' F' ρ' μ' xs vs, n = ds.length + 1 - i ∧ i ≤ ds.length ∧ xs.length ≤ i ∧ Inv Y [] σ' H' s' ∧ tn i s'.heap ∧ (∀ b ∈ fp, H' b = none) ∧ RS Y.K (upd Z D' (.lst vs)) α' F' H' σ' ρ' μ' ∧ Ext α F α' F' ∧ Reps Y.K F' α' xs vs ∧ G (compGo g t m (ds.drop i) ρ' μ' xs)) ?_ (ds.length + 1)
    ⟨0, σ, H, α, F, ρ, μ, [], [], rfl, Nat.zero_le _, Nat.zero_le _, I, ht0, hf0, R, Ext.refl _ _, reps_nil, hG⟩
  rintro n s1 ⟨i, σ1, H1, α1, F1, ρ1, μ1, xs, vs, rfl, hi, hxl, I1, t1, f1, R1, e1, r1, g1⟩
  obtain ⟨w1, w2⟩ := wk _ α1 F1 H1 μ1 R1.hp e1 i
  by_cases hlt : i < ds.length
  · obtain ⟨w3, w4⟩ := w1 hlt
    refine wpAny_mono (Tn.item Y rfl rfl rfl hcalm i [] s1 σ1 H1 NoE I1 (stat H1 f1) t1 w3) (fun r s2 h2 => ?_) fun _ _ z => z
    obtain ⟨u, rfl, h2⟩ := h2
    refine wpAny_mono h2 (fun _ s3 h3 => ?_) fun _ _ z => z
    obtain ⟨x, H3, I3, rx, yl, t3, f3⟩ := h3
    obtain ⟨d, F3, hd, R3, sf3, p3⟩ := w4 x H3 yl
    have e3 : Ext α1 F1 α1 F3 := ⟨sf3, fun _ _ h => h⟩
    rw [List.drop_eq_getElem_cons hlt] at g1
    have hd' : ds[i] = d := by
      rw [List.getElem?_eq_getElem hlt] at hd
      exact Option.some.inj hd
    rw [hd'] at g1
    simp only [compGo] at g1
    cases ht : g d ρ1 with
    | none => rw [ht] at g1; exact absurd g1 hbad
    | some ρ4 =>
      rw [ht] at g1
      simp only at g1
      have I3' := I3.pinned (stat H3 f3) (Tn.obj _ _ t3)
      have R3' : RS Y.K (upd Z D' (.lst vs)) α1 F3 H3 σ1 ρ1 μ1 := R1.to R3 e3
      refine wpAny_mono (nox (pg _ s3 σ1 H3 x u (fun σ4 H4 => H4 = H3 ∧ RS Y.K (upd Z D' (.lst vs)) α1 F3 H3 σ4 ρ4 μ1) I3' rx (sg _ α1 F3 H3 σ1 ρ1 μ1 x d ρ4 _ R3' p3 ht fun σ4 R4 => ⟨rfl, R4⟩))) (fun _ s4 h4 => ?_) fun _ _ z => z
      obtain ⟨σ4, H4, I4, rfl, R4⟩ := h4
      have back : ∀ {σ5 : L2.St} {H5 : Hp} {s5 : Shared}, Inv Y ([] ++ pinsAt fp s3.heap) σ5 H5 s5 → Inv Y [] σ5 H5 s5 ∧ tn (i + 1) s5.heap ∧ ∀ b ∈ fp, H5 b = none := fun {σ5 H5 s5} I5 => by
        refine ⟨I5.unpinned, Tn.keep _ _ _ t3 fun b hb o e => (I5.pin (b, o) (List.mem_append_right _ (List.mem_append_right _ (mem_pinsAt hb e)))).1, fun b hb => ?_⟩
        obtain ⟨o, e, _⟩ := Tn.obj _ _ t3 b hb
        exact (I5.pin (b, o) (List.mem_append_right _ (List.mem_append_right _ (mem_pinsAt hb e)))).2.1
      -- the tests
      refine wpAny_mono (nox (hif _ s4 _ α1 F3 H4 σ4 ρ4 μ1 (fun k H5 => ∃ μ5 α5 F5, RH Y.K (upd Z D' (.lst vs)) α5 F5 H5 μ5 ∧ Ext α1 F3 α5 F5 ∧ G (if k = true then (noX (m ρ4 μ5)).bind fun x μ2 => compGo g t m (ds.drop (i + 1)) ρ4 μ2 (xs ++ [x]) else compGo g t m (ds.drop (i + 1)) ρ4 μ5 xs)) I4 R4 ?_)) (fun k s5 h5 => ?_) fun _ _ z => z
      · cases hk : t ρ4 μ1 with
        | ok k μ5 => rw [hk] at g1; exact fun α5 F5 H5 R5 e5 => ⟨μ5, α5, F5, R5, e5, g1⟩
        | exc x μ5 => rw [hk] at g1; exact absurd g1 hbad
        | bad => rw [hk] at g1; exact absurd g1 hbad
      obtain ⟨H5, I5, μ5, α5, F5, R5, e5, g5⟩ := h5
      cases k with
      | false =>
        obtain ⟨b1, b2, b3⟩ := back I5
        exact ⟨ds.length + 1 - (i + 1), by omega, i + 1, σ4, H5, α5, F5, ρ4, μ5, xs, vs, rfl, hlt, by omega, b1, b2, b3, R4.to R5 e5, e1.trans (e3.trans e5), (r1.mono e3).mono e5, g5⟩
      | true =>
        simp only [if_true] at g5 ⊢
        -- the element
        refine wpAny_mono (nox (pe _ s5 σ4 H5 (fun v6 H6 => ∃ x6 μ6 α6 F6, RH Y.K (upd Z D' (.lst vs)) α6 F6 H6 μ6 ∧ Ext α5 F5 α6 F6 ∧ Rep Y.K F6 α6 x6 v6 ∧ G (compGo g t m (ds.drop (i + 1)) ρ4 μ6 (xs ++ [x6]))) I5 (se _ α5 F5 H5 σ4 ρ4 μ5 _ (R4.to R5 e5) ?_))) (fun y s6 h6 => ?_) fun _ _ z => z
        · cases hm : m ρ4 μ5 with
          | ok x6 μ6 => rw [hm] at g5; exact fun v6 α6 F6 H6 R6 e6 p6 => ⟨x6, μ6, α6, F6, R6, e6, p6, g5⟩
          | exc x μ5 => rw [hm] at g5; exact absurd g5 hbad
          | bad => rw [hm] at g5; exact absurd g5 hbad
        obtain ⟨v6, H6, I6, rv, x6, μ6, α6, F6, R6, e6, p6, g6⟩ := h6
        have hHD : H6 D' = some (.lst vs) := R6.zs _ _ upd_same
        have hvl : vs.length < sizeLine := by rw [← r1.length, sizeLine_eq]; omega
        refine wpAny_mono (nox (mt_append (X := Y) _ s6 σ4 H6 (.ref D') [v6] (.ref D') [y] (fun _ H7 => H7 = upd H6 D' (.lst (vs ++ [v6]))) I6 rfl (.cons rv .nil) ⟨D', vs, v6, rfl, rfl, hHD, hvl, rfl⟩)) (fun z s7 h7 => ?_) fun _ _ z => z
        obtain ⟨_, H7, I7, _, rfl⟩ := h7
        obtain ⟨b1, b2, b3⟩ := back I7
        have R7 := R6.rehold (.lst (vs ++ [v6]))
        refine ⟨ds.length + 1 - (i + 1), by omega, i + 1, σ4, _, α6, F6, ρ4, μ6, xs ++ [x6], vs ++ [v6], rfl, hlt, ?_, b1, b2, b3, ?_, e1.trans (e3.trans (e5.trans e6)), ?_, g6⟩
        · rw [List.length_append, List.length_singleton]; omega
        · exact ⟨R7, R4.len, fun j dd h => let ⟨v, h1, h2⟩ := R4.sl j dd h; ⟨v, h1, (h2.mono e5).mono e6⟩⟩
        · exact ((((r1.mono e3).mono e5).mono e6).append (reps_cons p6 reps_nil))
  · refine wpAny_mono (Tn.done Y rfl rfl rfl hcalm i [] s1 σ1 H1 NoE I1 (stat H1 f1) t1 (w2 (by omega))) (fun r s2 h2 => ?_) fun _ _ z => z
    obtain ⟨rfl, I2⟩ := h2
    rw [List.drop_eq_nil_of_le (by omega)] at g1
    exact hR σ1 H1 s2 α1 F1 xs vs μ1 I2 R1.hp e1 r1 g1
theorem comp_core {pins : List (Addr × Obj)} {σ : L2.St} {H1 : Hp} {s2 : Shared} {E : Value → Shared → Prop} {RR : Value → Addr → Result → Shared → Prop} {it : Addr} {fp : List Addr} {tn : Nat → Heap → Prop} {J : It} {Z : Hp} {α : List Addr} {F : Hp} {ρ : En} {μ : Mu} {ds : List D} {G : Res (List D) → Prop}
    (cs : CompScope scope X.env) (cp : Caps X scope T caps ix) (hcalm : X.calm = true) (hb : Blk X scope (T ++ caps) tg ifs elt g t m)
    (I2 : Inv X pins σ H1 s2) (Tn : Turn X.prog X.w X.K tg J fp it tn) (ht0 : tn 0 s2.heap) (hfp : ∀ b ∈ fp, FpOk X pins H1 b) (R : RS X.K Z α F H1 σ ρ μ) (wk : WalkOk X.K α F J ds) (hds : ds.length ≤ 16777216)
    (hG : G (compGo g t m ds (blk T.length ix ρ) μ [])) (hbad : ¬ G .bad)
    (hRR : ∀ (D' C : Addr) (H' : Hp) (s' : Shared) (α' : List Addr) (F' : Hp) (xs : List D) (μ' : Mu) (mm : Str → Option Value), Inv X pins σ H' s' → FpOk X pins H' C → s'.heap.Ns C mm → RH X.K Z α' F' H' μ' → Ext α F α' F' → Rep X.K F' α' (.lst xs) (.ref D') → G (.ok xs μ') → RR (.ref D') C (.ok .next) s') :
    wpAny (model X.prog X.w) X.A (newList []) (fun acc s₃ => wpAny (model X.prog X.w) X.A (newFunctionEnv scope X.env.globals (cellsC scope X.env) [] X.env.qual none .none (some X.env)) (fun cenv s₄ =>
      codeAny (model X.prog X.w) X.A (.compStart (.ListComp elt [⟨tg, iter, ifs, 0⟩] scope pos) 0 (.ref it) acc { cenv with scope := relabel scope X.env }) (RR acc cenv.locals) s₄) E s₃) E s2 := by
  have hD : H1 s2.heap.objs.size = none := I2.fresh
  have hZ : Z s2.heap.objs.size = none := by
    cases e : Z s2.heap.objs.size with
    | none => rfl
    | some u => rw [R.hp.zs _ _ e] at hD; cases hD
  have I3 : Inv X pins σ (upd H1 s2.heap.objs.size (.lst [])) { s2 with heap := s2.heap.push { cls := .type "list", data := .seq ([] : List Value).toArray }, toks := s2.toks } := I2.lnew (its := []) (ys := []) .nil (Nat.zero_le _)
  have k3 : ∀ b u, s2.heap.get? b = some u → (s2.heap.push { cls := .type "list", data := .seq ([] : List Value).toArray }).get? b = some u := fun b u e => Heap.get?_push_of_some _ e
  refine wpAny_newObj_type (wpAny_newFunctionEnv cs.nocell (by intro y hy; simp at hy) (fun h₁ hns₁ hsb₁ => ?_) cs.kind)
  have hobj : ∀ b ∈ fp, ∃ o, s2.heap.get? b = some o := fun b hb => let ⟨o, e, _⟩ := Tn.obj 0 _ ht0 b hb; ⟨o, e⟩
  have hnD : ∀ b ∈ fp, b ≠ s2.heap.objs.size := fun b hb => let ⟨o, e⟩ := hobj b hb; Nat.ne_of_lt (Heap.lt_size e)
  have hex3 : ∀ b ∈ fp, FpOk X pins (upd H1 s2.heap.objs.size (.lst [])) b ∧ ∃ o, (s2.heap.push { cls := .type "list", data := .seq ([] : List Value).toArray }).get? b = some o := fun b hb => by
    obtain ⟨f0, f1⟩ := hfp b hb
    obtain ⟨o, e⟩ := hobj b hb
    exact ⟨⟨by rw [upd_ne (hnD b hb)]; exact f0, f1⟩, o, k3 b o e⟩
  have keep1 : ∀ b o, (s2.heap.push { cls := .type "list", data := .seq ([] : List Value).toArray }).get? b = some o → h₁.get? b = some o := fun b o e =>
    hsb₁.extBut b o (Nat.ne_of_lt (Heap.lt_size e)) (Heap.get?_push_of_some _ e)
  have I4 := comp_start (scope := scope) (T := T) (caps := caps) (ix := ix) (ex := fp) (tk := s2.toks + ([] : List (Str × Value)).length) I3 cs cp rfl hex3 (by simpa using hns₁) keep1
  obtain ⟨hgt, hif, he⟩ := hb (s2.heap.push { cls := .type "list", data := .seq ([] : List Value).toArray }).objs.size { s2 with heap := s2.heap.push { cls := .type "list", data := .seq ([] : List Value).toArray }, toks := s2.toks } (upd H1 s2.heap.objs.size (.lst [])) fp
  have t1 : tn 0 h₁ := Tn.keep 0 _ _ ht0 fun b _ o e => keep1 b o (k3 b o e)
  have stat : ∀ H' : Hp, (∀ b ∈ fp, H' b = none) → ∀ b ∈ fp, FpOk (compCx X (T ++ caps) scope (s2.heap.push { cls := .type "list", data := .seq ([] : List Value).toArray }).objs.size { s2 with heap := s2.heap.push { cls := .type "list", data := .seq ([] : List Value).toArray }, toks := s2.toks } (upd H1 s2.heap.objs.size (.lst [])) fp) [] H' b := fun H' hn b hb => by
    refine ⟨hn b hb, (I4.ok.exf b hb).1, I4.ok.exfs b hb, .inl hb, (I4.ok.exf b hb).2, fun p hp => ?_⟩
    exact absurd hp (by simp [compCx])
  have loop : codeAny (model X.prog X.w) X.A (.compLoop (.ListComp elt [⟨tg, iter, ifs, 0⟩] scope pos) 0 (.ref it) (.ref s2.heap.objs.size) (compEnvC scope (cellsC scope X.env) (s2.heap.push { cls := .type "list", data := .seq ([] : List Value).toArray }).objs.size X.env))
      (RR (.ref s2.heap.objs.size) (s2.heap.push { cls := .type "list", data := .seq ([] : List Value).toArray }).objs.size) { s2 with heap := h₁, toks := s2.toks + ([] : List (Str × Value)).length } := by
    refine comp_loop (Y := compCx X (T ++ caps) scope (s2.heap.push { cls := .type "list", data := .seq ([] : List Value).toArray }).objs.size { s2 with heap := s2.heap.push { cls := .type "list", data := .seq ([] : List Value).toArray }, toks := s2.toks } (upd H1 s2.heap.objs.size (.lst [])) fp) (Z := Z) (G := G) rfl hcalm hgt hif he Tn stat I4 t1 (fun b hb => by rw [upd_ne (hnD b hb)]; exact (hfp b hb).1)
      (rs_blk T.length ix ⟨R.hp.hold (.lst []) hD, R.len, R.sl⟩) wk hds hG hbad fun σ' H' s' α' F' xs vs μ' I' R' e' r' g' => ?_
    have Ib := comp_back (T := T) (caps := caps) (s3 := { s2 with heap := s2.heap.push { cls := .type "list", data := .seq ([] : List Value).toArray }, toks := s2.toks }) I2 (Nat.le_refl _) rfl k3 hfp I'
    obtain ⟨mm, hmm, _⟩ := I'.loc
    have hHD : H' s2.heap.objs.size = some (.lst vs) := R'.zs _ _ upd_same
    obtain ⟨R2, s2'⟩ := R'.unhold (.lst vs) hZ
    rw [upd_id hHD] at R2
    refine hRR _ _ H' s' α' _ xs μ' mm Ib (I3.fpOk (Nat.le_refl _) I'.free) hmm R2 (e'.trans ⟨s2', fun _ _ h => h⟩) ?_ g'
    unfold Rep
    exact ⟨_, vs, rfl, SqL.of upd_same, r'.mono ⟨s2', fun _ _ h => h⟩⟩
  exact codeAny_compStart_list loop (Tn.self X.A 0 _ _ _ t1 loop)
theorem inv_but {pins : List (Addr × Obj)} {σ : L2.St} {H : Hp} {s : Shared} {C : Addr} {h' : Heap} (I : Inv X pins σ H s) (f : FpOk X pins H C) (hs : Heap.SameBut C s.heap h') : Inv X pins σ H { s with heap := h' } :=
  I.turned (t' := s.toks) (fun b o hb e => hs.extBut b o hb e) f.1 f.2.1 f.2.2.2.1 f.2.2.2.2.1 f.2.2.2.2.2
theorem me_comp {mi : MIt} (cs : CompScope scope X.env) (cp : Caps X scope T caps ix) (hcalm : X.calm = true) (hi : MI X EX tg iter mi) (hb : Blk X scope (T ++ caps) tg ifs elt g t m) (hs : ∀ x, foldedSetIterable iter X.env x = pure x := by intro _; rfl) :
    ME X EX (.ListComp elt [⟨tg, iter, ifs, 0⟩] scope pos) (mComp T.length ix g mi t m) := by
  obtain ⟨wi, pi, si⟩ := hi
  refine ⟨fun σ H Q => ∀ pins s, Inv X pins σ H s → wpAny (model X.prog X.w) X.A (eval (.ListComp elt [⟨tg, iter, ifs, 0⟩] scope pos) X.env) (EP X pins σ Q) X.xe s, fun pins s σ H Q I h => h pins s I, fun Z α F H σ ρ μ Q R gd pins s I => ?_⟩
  rw [eval_ListComp]
  refine wpAny_comprehension_free (use := none) rfl hs (closure_eq (cs.had I.ok)) cs.kind cs.loc ?_
  unfold mComp at gd
  cases hm : mi ρ μ with
  | exc x μ1 =>
    rw [hm] at gd
    have hw : wi σ H fun _ _ => False := si Z α F H σ ρ μ _ R (by rw [hm]; exact gd)
    refine thn (pi pins s σ H _ I hw) fun v s1 h1 => thn h1 fun itv s2 h2 => ?_
    obtain ⟨_, _, _, _, _, _, _, _, _, _, z⟩ := h2
    exact z.elim
  | bad => rw [hm] at gd; exact gd.elim
  | ok ds μ1 =>
    rw [hm] at gd
    simp only [bind_ok] at gd
    by_cases hds : ds.length ≤ 16777216
    · rw [if_pos hds] at gd
      have hw : wi σ H fun J H1 => ∃ α1 F1, RH X.K Z α1 F1 H1 μ1 ∧ Ext α F α1 F1 ∧ WalkOk X.K α1 F1 J ds := si Z α F H σ ρ μ _ R (by rw [hm]; exact fun J α' F' H' R' e' w' => ⟨α', F', R', e', w'⟩)
      refine thn (pi pins s σ H _ I hw) fun v s1 h1 => thn h1 fun itv s2 h2 => ?_
      obtain ⟨it, fp, tn, J, H2, rfl, I2, Tn, t0, f2, α1, F1, R1, e1, wk⟩ := h2
      refine comp_core (G := fun r => GE X.K NoX Z α F Q (r.bind fun xs μ2 => .ok (.lst xs) μ2) ∨ GE X.K EX Z α F Q (r.bind fun xs μ2 => .ok (.lst xs) μ2)) cs cp hcalm hb I2 Tn t0 f2 (R.to R1 e1) wk hds (.inr gd) (fun z => z.elim id id) fun D' C H' s' α' F' xs μ' mm I' fC hn R' e' rp gg => ?_
      refine ⟨mm, hn, fun h' hs' => ⟨.ref D', H', inv_but I' fC hs', rfl, ?_⟩⟩
      rcases gg with gg | gg
      · exact gg _ α' F' H' R' (e1.trans e') rp
      · exact gg _ α' F' H' R' (e1.trans e') rp
    · rw [if_neg hds] at gd; exact gd.elim
/-- x = [.. for ..] -/
theorem ms_setC {i : Nat} {x : Str} {pos' : Pos} {mi : MIt} {spos : Pos} (hN : X.N.Nodup) (hi' : X.N[i]? = some x) (hx : Loc X.env.scope x) (hf : X.fn x = true ∨ X.env.scope.names.lookup x = some .local) (cs : CompScope scope X.env) (cp : Caps X scope T caps ix) (hcalm : X.calm = true) (hi : MI X EX tg iter mi)
    (hb : Blk X scope (T ++ caps) tg ifs elt g t m) (hsw : swapsWith (.ListComp elt [⟨tg, iter, ifs, 0⟩] scope pos) (some (.Name x pos')) spos.line X.env = pure true) (hs : ∀ x, foldedSetIterable iter X.env x = pure x := by intro _; rfl) :
    MS X EX (.Assign [.Name x pos'] (.ListComp elt [⟨tg, iter, ifs, 0⟩] scope pos) spos) (mSet i (mComp T.length ix g mi t m)) := by
  obtain ⟨wi, pi, si⟩ := hi
  refine ⟨fun N σ H => ∀ pins s, Inv X pins σ H s → wpAny (model X.prog X.w) X.A (exec (.Assign [.Name x pos'] (.ListComp elt [⟨tg, iter, ifs, 0⟩] scope pos) spos) X.env) (SP X pins N) X.xe s, fun pins s σ H N I h => h pins s I, fun Z α F H σ ρ μ N R gd pins s I => ?_⟩
  rw [exec_Assign_Name_used _ _ _ _ hsw]
  refine wpAny_bind (wpAny_standAt (wpAny_bind ?_))
  show wpAny _ X.A (do let _ ← comprehension (.ListComp elt [⟨tg, iter, ifs, 0⟩] scope pos) scope X.env _ (newList []) false (eval iter X.env) (some (assign (.Name x pos') X.env))) _ _ s
  refine wpAny_bind (wpAny_mono (wpAny_comprehension_free (use := some (assign (.Name x pos') X.env)) (Q := fun _ s' => SP X pins N .next s') rfl hs (closure_eq (cs.had I.ok)) cs.kind cs.loc ?_) (fun _ s' hq => wpAny_pure (wpAny_pure hq)) fun _ _ e => e)
  unfold mSet mComp at gd
  cases hm : mi ρ μ with
  | exc y μ1 =>
    rw [hm] at gd
    have hw : wi σ H fun _ _ => False := si Z α F H σ ρ μ _ R (by rw [hm]; exact gd)
    refine thn (pi pins s σ H _ I hw) fun v s1 h1 => thn h1 fun itv s2 h2 => ?_
    obtain ⟨_, _, _, _, _, _, _, _, _, _, z⟩ := h2
    exact z.elim
  | bad => rw [hm] at gd; exact gd.elim
  | ok ds μ1 =>
    rw [hm] at gd
    simp only [bind_ok] at gd
    by_cases hds : ds.length ≤ 16777216
    · rw [if_pos hds] at gd
      have hw : wi σ H fun J H1 => ∃ α1 F1, RH X.K Z α1 F1 H1 μ1 ∧ Ext α F α1 F1 ∧ WalkOk X.K α1 F1 J ds := si Z α F H σ ρ μ _ R (by rw [hm]; exact fun J α' F' H' R' e' w' => ⟨α', F', R', e', w'⟩)
      refine thn (pi pins s σ H _ I hw) fun v s1 h1 => thn h1 fun itv s2 h2 => ?_
      obtain ⟨it, fp, tn, J, H2, rfl, I2, Tn, t0, f2, α1, F1, R1, e1, wk⟩ := h2
      refine comp_core (G := fun r => GS X.K EX Z α F N ((r.bind fun xs μ2 => .ok (.lst xs) μ2).bind fun d μ1 => .ok (.nx (ρ.set i (some d))) μ1)) cs cp hcalm hb I2 Tn t0 f2 (R.to R1 e1) wk hds gd (fun z => z) fun D' C H' s' α' F' xs μ' mm I' fC hn R' e' rp gg => ?_
      show wpAny _ X.A (assign (.Name x pos') X.env (.ref D')) _ _ _
      refine wpAny_assign_Name (store_ok2 (v := .ref D') I' hN hi' hx rfl (fun s'' I'' hsb => ?_) hf)
      obtain ⟨a, hsb, ha⟩ := hsb
      have hCa : C ≠ a := by
        rcases ha with rfl | ha
        · exact fC.2.1
        · exact fun z => fC.2.2.2.2.1 x a ha z.symm
      refine ⟨mm, hn.sameBut hsb hCa, fun h' hs' => ⟨_, H', inv_but I'' fC hs', ?_⟩⟩
      exact gg _ α' F' H' ((R.to R' (e1.trans e')).set i rp) (e1.trans e')
    · rw [if_neg hds] at gd; exact gd.elim
end
end M
set_option Elab.async false
set_option linter.all false
set_option maxRecDepth 100000
set_option maxHeartbeats 4000000
namespace M
open PySem PySem.Spec PyProof.Rows L2

/-! ### a tuple drawn from by another iterator; two draws zipped -/
section
variable {prog : Program} {w : World} {A : Around}
/-- a tuple's own iterator, asked by nextOf -/
theorem draws_tup (hh : A.handled = none) (j tp : Addr) (hne : tp ≠ j) (xs : Array Value) : Draws prog w A j [j, tp] xs.size (fun i v => xs[i]? = some v) (fun i h => h.IsTupleIter j tp i ∧ h.IsTuple tp xs) := by
  have start : ∀ {s : Shared} {Q : Value → Shared → Prop} {E : Value → Shared → Prop} {i : Nat}, s.heap.IsTupleIter j tp i → s.heap.IsTuple tp xs →
      wpAny (model prog w) A.in1 (match xs[i]? with
        | some x => do setField (.ref j) 1 (rawInt ((i : Int) + 1)); ret x
        | none => do rule "tuple_iterator.__next__.end"; setField (.ref j) 0 .none; Builtin.SmallTypes.stopIteration) (fun f s' => ∃ v, f = .done (.ret v) ∧ wpAny (model prog w) A (pure v) Q E s') E s →
      wpAny (model prog w) A (Builtin.SmallTypes.nextOf (.ref j)) Q E s := fun {s Q E i} a b h => by
    obtain ⟨oj, ej, _, dj⟩ := id a
    obtain ⟨ot, et, _, n, dt⟩ := b
    unfold Builtin.SmallTypes.nextOf
    refine wpAny_bind (wpAny_callSpecial?_slot (name := "__next__") a.typeIs PySem.F.slot_tuple_iterator_next (wpAny_call_entry PySem.F.slot_tuple_iterator_next a.typeIs PySem.F.entry_tuple_iterator_next ?_ (PySem.F.args_tuple_iterator_next_1 _)))
    refine (wpAny_bind (wpAny_field ej dj (x := .ref tp) rfl ?_) : wpAny _ _ (field (.ref j) 0 >>= _) _ _ s)
    refine (wpAny_bind (wpAny_field ej dj (x := .int i 0) rfl ?_) : wpAny _ _ (field (.ref j) 1 >>= _) _ _ s)
    refine (wpAny_bind (wpAny_seqItems et dt ?_) : wpAny _ _ (seqItems? (.ref tp) >>= _) _ _ s)
    simp only [Int.toNat_natCast]
    exact h
  refine ⟨fun _ _ st => let ⟨o, e, _⟩ := st.1; ⟨o, e⟩, fun i h h' st k => ?_, fun i s Q E hi st q => start st.1 st.2 ?_, fun s Q E st q => start st.1 st.2 ?_⟩
  · obtain ⟨⟨o, e, r⟩, ⟨o2, e2, r2⟩⟩ := st
    exact ⟨⟨o, k j (by simp) o e, r⟩, ⟨o2, k tp (by simp) o2 e2, r2⟩⟩
  · obtain ⟨⟨o, e, c, d⟩, b⟩ := id st
    rw [Array.getElem?_eq_getElem hi]
    refine wpAny_bind (wpAny_setField e d (by simp) (wpAny_pure ⟨_, rfl, wpAny_pure (q _ _ _ (by simp [hi]) ⟨⟨_, Heap.get?_update_self _ e (Obj.isFreed_of_fields (Obj.data_mapFields d _)), (Obj.cls_mapFields ..).trans c, by rw [Obj.data_mapFields d]; simp [rawInt]⟩, b.extBut (Heap.SameBut.update ..).extBut hne⟩ (Heap.SameBut.update ..))⟩))
  · obtain ⟨⟨o, e, c, d⟩, b⟩ := id st
    rw [show xs[xs.size]? = none by simp]
    refine wpAny_bind (wpAny_rule (wpAny_bind (wpAny_setField e d (by simp) ?_)))
    simp only [Builtin.SmallTypes.stopIteration, newExc, newTuple]
    refine wpAny_bind (wpAny_bind (wpAny_newObj_type (wpAny_bind (m := firstArgMember _ _) (wpAny_of_eq (a := Value.none) (by first | rfl | (simp only [firstArgMember]; rfl)) (wpAny_newObj_type ?_ (by size_fits)))) (by size_fits)))
    simp only [raiseNew]
    refine wpAny_bind (wpAny_handled ?_)
    rw [show A.in1.handled = none from hh]
    exact wpAny_bind (wpAny_pure (wpAny_throw (q _ _ (((Heap.SameBut.update ..).extBut.push _).push _) ⟨_, Heap.get?_push_size _ rfl, rfl⟩)))

/-- the zip's own record z, the pair of its sources, the pair that it keeps; nothing of the sources is any of them -/
structure Apart (z tI tO i1 i2 : Addr) (f1 f2 : List Addr) : Prop where
  a : z ≠ tO
  b : z ≠ tI
  c : tI ≠ tO
  z1 : z ∉ f1
  z2 : z ∉ f2
  o1 : tO ∉ f1
  o2 : tO ∉ f2
  m1 : i1 ∈ f1
  m2 : i2 ∈ f2
  x1 : i1 ∉ f2
  x2 : i2 ∉ f1
  t1 : tI ∉ f1
  t2 : tI ∉ f2
theorem Apart.ne1 {z tI tO i1 i2 : Addr} {f1 f2 : List Addr} (P : Apart z tI tO i1 i2 f1 f2) : i1 ≠ z ∧ i1 ≠ tO ∧ i1 ≠ i2 ∧ i1 ≠ tI := ⟨fun e => P.z1 (e ▸ P.m1), fun e => P.o1 (e ▸ P.m1), fun e => P.x1 (e ▸ P.m2), fun e => P.t1 (e ▸ P.m1)⟩
theorem Apart.ne2 {z tI tO i1 i2 : Addr} {f1 f2 : List Addr} (P : Apart z tI tO i1 i2 f1 f2) : i2 ≠ z ∧ i2 ≠ tO ∧ i2 ≠ tI := ⟨fun e => P.z2 (e ▸ P.m2), fun e => P.o2 (e ▸ P.m2), fun e => P.t2 (e ▸ P.m2)⟩
theorem frame_but {f : List Addr} {c : Addr} {h h' : Heap} (hc : c ∉ f) (k : Heap.ExtBut c h h') : ∀ b ∈ f, ∀ o, h.get? b = some o → h'.get? b = some o := fun b hb o e => k b o (fun z => hc (z ▸ hb)) e
variable {E : Value → Shared → Prop} {s : Shared} {z tI tO i1 i2 : Addr} {f1 f2 : List Addr} {n1 n2 k : Nat} {P1 P2 : Nat → Value → Prop} {S1 S2 : Nat → Heap → Prop} {p q : Value}
theorem zip_turn {Q : Value → Shared → Prop} (D1 : Draws prog w A.in1 i1 f1 n1 P1 S1) (D2 : Draws prog w A.in1 i2 f2 n2 P2 S2) (ap : Apart z tI tO i1 i2 f1 f2) (hz : IsZip s.heap z tI tO .none) (hI : IsPair s.heap tI (.ref i1) (.ref i2)) (hO : IsPair s.heap tO p q)
    (s1 : S1 k s.heap) (s2 : S2 k s.heap) (l1 : k < n1) (l2 : k < n2)
    (fin : ∀ x y h' tk, P1 k x → P2 k y → IsZip h' z tI tO (rawInt s.heap.objs.size) → IsPair h' tO x y → S1 (k + 1) h' → S2 (k + 1) h' → IsPair h' s.heap.objs.size x y → (∀ c o, c ≠ z → c ≠ tO → c ≠ i1 → c ≠ i2 → s.heap.get? c = some o → h'.get? c = some o) →
      Q (.ref s.heap.objs.size) { s with heap := h', toks := tk }) :
    wpAny (model prog w) A.in1 (Builtin.«zip.__next__» ⟨[.ref z], []⟩) (fun f s' => ∃ v, f = .done (.ret v) ∧ Q v s') E s := by
  obtain ⟨u1, u2, u3, u4⟩ := ap.ne1
  obtain ⟨v1, v2, v3⟩ := ap.ne2
  refine (wpAny_bind (wpAny_field hz rfl (x := .bool false) rfl ?_) : wpAny _ _ (field (.ref z) 2 >>= _) _ _ _)
  refine (wpAny_bind (wpAny_field hz rfl (x := .ref tI) rfl ?_) : wpAny _ _ (field (.ref z) 3 >>= _) _ _ _)
  refine wpAny_bind (wpAny_seqItems hI rfl ?_)
  have free : ∀ {R : Bool → Shared → Prop}, R true s → wpAny (model prog w) A.in1 (Builtin.SmallTypes.ownedTupleIsFree (.ref z)) R E s := fun r => by
    unfold Builtin.SmallTypes.ownedTupleIsFree
    exact wpAny_bind (wpAny_field hz rfl (x := .none) rfl (wpAny_pure r))
  refine (wpAny_bind (free ?_) : wpAny _ _ (Builtin.SmallTypes.ownedTupleIsFree (.ref z) >>= _) _ _ _)
  simp only [if_true]
  refine wpAny_bind (wpAny_rule ?_)
  refine wpAny_bind (wpAny_field hz rfl (x := .ref tO) rfl ?_)
  refine wpAny_bind (wpAny_setField_rec hz (by simp) fun g1 z1 k1 => wpAny_bind ?_)
  simp only [List.zipIdx_cons, List.zipIdx_nil, List.forIn_cons, List.forIn_nil]
  -- the first source
  have a1 : S1 k g1 := D1.frame _ _ _ s1 (frame_but ap.z1 k1.extBut)
  have a2 : S2 k g1 := D2.frame _ _ _ s2 (frame_but ap.z2 k1.extBut)
  have aO : IsPair g1 tO p q := k1.extBut _ _ ap.a.symm hO
  refine wpAny_bind (wpAny_bind (wpAny_onRaise ((wpAny_bind (D1.item k _ _ _ l1 a1 fun x g2 tk2 px b1 k2 => wpAny_pure ?_)) : wpAny _ _ (Builtin.SmallTypes.nextOf (.ref i1) >>= _) _ _ _)))
  have b2 : S2 k g2 := D2.frame _ _ _ a2 (frame_but ap.x1 k2.extBut)
  have bO : IsPair g2 tO p q := k2.extBut _ _ u2.symm aO
  refine wpAny_bind (wpAny_seqItems bO rfl (wpAny_bind (wpAny_updateSeq_pair bO fun g3 cO k3 => wpAny_bind (wpAny_letGo (wpAny_pure ?_)))))
  have cO' : IsPair g3 tO x q := cO
  have c1 : S1 (k + 1) g3 := D1.frame _ _ _ b1 (frame_but ap.o1 k3.extBut)
  have c2 : S2 k g3 := D2.frame _ _ _ b2 (frame_but ap.o2 k3.extBut)
  -- the second source
  refine wpAny_bind (wpAny_bind (wpAny_onRaise ((wpAny_bind (D2.item k _ _ _ l2 c2 fun y g4 tk4 py d2 k4 => wpAny_pure ?_)) : wpAny _ _ (Builtin.SmallTypes.nextOf (.ref i2) >>= _) _ _ _)))
  have d1 : S1 (k + 1) g4 := D1.frame _ _ _ c1 (frame_but ap.x2 k4.extBut)
  have dO : IsPair g4 tO x q := k4.extBut _ _ v2.symm cO'
  refine wpAny_bind (wpAny_seqItems dO rfl (wpAny_bind (wpAny_updateSeq_pair dO fun g5 eO k5 => wpAny_bind (wpAny_letGo (wpAny_pure (wpAny_pure ?_))))))
  have eO' : IsPair g5 tO x y := eO
  have e1 : S1 (k + 1) g5 := D1.frame _ _ _ d1 (frame_but ap.o1 k5.extBut)
  have e2 : S2 (k + 1) g5 := D2.frame _ _ _ d2 (frame_but ap.o2 k5.extBut)
  have sz : g5.objs.size = s.heap.objs.size := by rw [k5.1, k4.1, k3.1, k2.1, k1.1]
  have z5 : IsZip g5 z tI tO .ellipsis := k5.extBut _ _ ap.a (k4.extBut _ _ v1.symm (k3.extBut _ _ ap.a (k2.extBut _ _ u1.symm z1)))
  have old : ∀ c o, c ≠ z → c ≠ tO → c ≠ i1 → c ≠ i2 → s.heap.get? c = some o → g5.get? c = some o := fun c o n1 n2 n3 n4 e => k5.extBut _ _ n2 (k4.extBut _ _ n4 (k3.extBut _ _ n2 (k2.extBut _ _ n3 (k1.extBut _ _ n1 e))))
  refine wpAny_bind (wpAny_seqItems eO' rfl (wpAny_bind (wpAny_newTuple ?_)))
  have z6 : IsZip (g5.push { cls := .type "tuple", data := .seq #[x, y] }) z tI tO .ellipsis := Heap.get?_push_of_some _ z5
  have out : ∀ {R : Unit → Shared → Prop}, (∀ g7, IsZip g7 z tI tO (rawInt g5.objs.size) → Heap.ExtBut z (g5.push { cls := .type "tuple", data := .seq #[x, y] }) g7 → R () { s with heap := g7, toks := tk4 }) →
      wpAny (model prog w) A.in1 (Builtin.SmallTypes.ownedTupleHandOut (.ref z) (.ref g5.objs.size)) R E { s with heap := g5.push { cls := .type "tuple", data := .seq #[x, y] }, toks := tk4 } := fun r => by
    unfold Builtin.SmallTypes.ownedTupleHandOut
    refine wpAny_bind (wpAny_setField_rec z6 (by simp) fun g7 z7 k7 => wpAny_setField_rec (show IsZip g7 z tI tO (rawInt g5.objs.size) from z7) (by simp) fun g8 z8 k8 => r g8 z8 fun c o hc e => k8.extBut c o hc (k7.extBut c o hc e))
  show wpAny _ _ (Builtin.SmallTypes.ownedTupleHandOut (.ref z) (.ref g5.objs.size) >>= _) _ _ _
  refine wpAny_bind (out fun g7 z7 k7 => ?_)
  refine wpAny_pure ⟨_, rfl, ?_⟩
  have up : ∀ c o, c ≠ z → g5.get? c = some o → g7.get? c = some o := fun c o hc e => k7 c o hc (Heap.get?_push_of_some _ e)
  have zlt : z < g5.objs.size := Heap.lt_size z5
  show Q (.ref g5.objs.size) _
  rw [sz] at z7 ⊢
  refine fin x y g7 tk4 px py z7 (up _ _ ap.a.symm eO') (D1.frame _ _ _ e1 fun b hb o e => up b o (fun zz => ap.z1 (zz ▸ hb)) e) (D2.frame _ _ _ e2 fun b hb o e => up b o (fun zz => ap.z2 (zz ▸ hb)) e) ?_ fun c o n1 n2 n3 n4 e => up c o n1 (old c o n1 n2 n3 n4 e)
  rw [← sz]
  exact k7 _ _ (Nat.ne_of_gt zlt) (Heap.get?_push_size _ rfl)

/-- one of the sources has come to its end -/
theorem zip_over {Q : PySem.Fin → Shared → Prop} (D1 : Draws prog w A.in1 i1 f1 n1 P1 S1) (D2 : Draws prog w A.in1 i2 f2 n2 P2 S2) (ap : Apart z tI tO i1 i2 f1 f2) (hz : IsZip s.heap z tI tO .none) (hI : IsPair s.heap tI (.ref i1) (.ref i2)) (hO : IsPair s.heap tO p q)
    (s1 : S1 k s.heap) (s2 : S2 k s.heap) (le1 : k ≤ n1) (le2 : k ≤ n2) (hend : k = n1 ∨ k = n2)
    (fin : ∀ h' e tk, (∀ c o, c ≠ z → c ≠ tO → c ≠ i1 → c ≠ i2 → s.heap.get? c = some o → h'.get? c = some o) → (∃ o, h'.get? e = some o ∧ o.cls = .type "StopIteration") → E (.ref e) { s with heap := h', toks := tk }) :
    wpAny (model prog w) A.in1 (Builtin.«zip.__next__» ⟨[.ref z], []⟩) Q E s := by
  obtain ⟨u1, u2, u3, u4⟩ := ap.ne1
  obtain ⟨v1, v2, v3⟩ := ap.ne2
  refine (wpAny_bind (wpAny_field hz rfl (x := .bool false) rfl ?_) : wpAny _ _ (field (.ref z) 2 >>= _) _ _ _)
  refine (wpAny_bind (wpAny_field hz rfl (x := .ref tI) rfl ?_) : wpAny _ _ (field (.ref z) 3 >>= _) _ _ _)
  refine wpAny_bind (wpAny_seqItems hI rfl ?_)
  have free : ∀ {R : Bool → Shared → Prop}, R true s → wpAny (model prog w) A.in1 (Builtin.SmallTypes.ownedTupleIsFree (.ref z)) R E s := fun r => by
    unfold Builtin.SmallTypes.ownedTupleIsFree
    exact wpAny_bind (wpAny_field hz rfl (x := .none) rfl (wpAny_pure r))
  refine (wpAny_bind (free ?_) : wpAny _ _ (Builtin.SmallTypes.ownedTupleIsFree (.ref z) >>= _) _ _ _)
  simp only [if_true]
  refine wpAny_bind (wpAny_rule ?_)
  refine wpAny_bind (wpAny_field hz rfl (x := .ref tO) rfl ?_)
  refine wpAny_bind (wpAny_setField_rec hz (by simp) fun g1 z1 k1 => wpAny_bind ?_)
  simp only [List.zipIdx_cons, List.zipIdx_nil, List.forIn_cons, List.forIn_nil]
  have a1 : S1 k g1 := D1.frame _ _ _ s1 (frame_but ap.z1 k1.extBut)
  have a2 : S2 k g1 := D2.frame _ _ _ s2 (frame_but ap.z2 k1.extBut)
  have aO : IsPair g1 tO p q := k1.extBut _ _ ap.a.symm hO
  -- the raised StopIteration passes the zip, which frees its pair
  have pass : ∀ {g : Heap} {e : Addr} {tk : Nat}, IsZip g z tI tO .ellipsis → (∃ o, g.get? e = some o ∧ o.cls = .type "StopIteration") → (∀ c o, c ≠ z → c ≠ tO → c ≠ i1 → c ≠ i2 → s.heap.get? c = some o → g.get? c = some o) →
      wpAny (model prog w) A.in1 (setField (.ref z) 0 .none) (fun _ s' => E (.ref e) s') E { s with heap := g, toks := tk } := fun {g e tk} zg he kg => by
    obtain ⟨oe, ee, ce⟩ := he
    have nez : e ≠ z := fun x => by rw [x, zg] at ee; cases ee; simp at ce
    exact wpAny_setField_rec zg (by simp) fun g' _ k' => fin g' e tk (fun c o m1 m2 m3 m4 x => k'.extBut _ _ m1 (kg c o m1 m2 m3 m4 x)) ⟨oe, k'.extBut _ _ nez ee, ce⟩
  by_cases h1 : k = n1
  · subst h1
    refine wpAny_bind (wpAny_bind (wpAny_onRaise ((wpAny_bind (D1.done _ _ _ a1 fun g2 e k2 he => ?_)) : wpAny _ _ (Builtin.SmallTypes.nextOf (.ref i1) >>= _) _ _ _)))
    exact pass (tk := s.toks) (k2 _ _ u1.symm z1) he fun c o m1 m2 m3 m4 x => k2 _ _ m3 (k1.extBut _ _ m1 x)
  · have h2 : k = n2 := hend.resolve_left h1
    subst h2
    refine wpAny_bind (wpAny_bind (wpAny_onRaise ((wpAny_bind (D1.item k _ _ _ (by omega) a1 fun x g2 tk2 px b1 k2 => wpAny_pure ?_)) : wpAny _ _ (Builtin.SmallTypes.nextOf (.ref i1) >>= _) _ _ _)))
    have b2 : S2 k g2 := D2.frame _ _ _ a2 (frame_but ap.x1 k2.extBut)
    have bO : IsPair g2 tO p q := k2.extBut _ _ u2.symm aO
    refine wpAny_bind (wpAny_seqItems bO rfl (wpAny_bind (wpAny_updateSeq_pair bO fun g3 cO k3 => wpAny_bind (wpAny_letGo (wpAny_pure ?_)))))
    have c2 : S2 k g3 := D2.frame _ _ _ b2 (frame_but ap.o2 k3.extBut)
    refine wpAny_bind (wpAny_bind (wpAny_onRaise ((wpAny_bind (D2.done _ _ _ c2 fun g4 e k4 he => ?_)) : wpAny _ _ (Builtin.SmallTypes.nextOf (.ref i2) >>= _) _ _ _)))
    exact pass (tk := tk2) (k4 _ _ v1.symm (k3.extBut _ _ ap.a (k2.extBut _ _ u1.symm z1))) he fun c o m1 m2 m3 m4 x => k4 _ _ m4 (k3.extBut _ _ m2 (k2.extBut _ _ m3 (k1.extBut _ _ m1 x)))
end

/-! ### records that turned, and a new tuple -/
section
variable {X : Cx} {pins : List (Addr × Obj)} {σ : L2.St} {H : Hp} {s : Shared} {h' : Heap} {fp : List Addr}
theorem inv_pair {vs : List V} {us : List Value} {t' : Nat} (I : Inv X pins σ H s) (hf : ∀ b ∈ fp, FpOk X pins H b) (hk : ∀ b o, b ∉ fp → s.heap.get? b = some o → h'.get? b = some o) (rv : Vals vs us) (hz : vs.length ≤ sizeLine) (hT : IsTup h' s.heap.objs.size us.toArray) :
    Inv X pins σ (upd H s.heap.objs.size (.tup vs)) { s with heap := h', toks := t' } := by
  have hn : H s.heap.objs.size = none := I.fresh
  have nfp : ∀ b o, H b = some o → b ∉ fp := fun b o e z => by rw [(hf b z).1] at e; cases e
  refine I.step (g' := s.gens) (d' := s.drawn) (ch := fp) (fun b hb => ⟨(hf b hb).2.2.2.1, (hf b hb).2.1, (hf b hb).2.2.2.2.1, (hf b hb).2.2.2.2.2⟩) (fun b o _ _ hc e _ => hk b o hc e) (fun b o _ _ hc e _ => ⟨o.slots, hk b o hc e⟩)
    (fun b o _ e n => by rw [upd_ne (Nat.ne_of_lt (Heap.lt_size e))]; exact n) (fun b o hc e => ⟨o, hk b o hc e⟩) (fun b xs e => by rw [upd_ne (ne_of_none e hn)]; exact e) (fun b o xs e => by rw [upd_ne (ne_of_none e hn)]; exact e)
    (fun b ps e => ⟨#[], by rw [upd_ne (ne_of_none e hn), e]; simp⟩) (fun m hm => ?_) (fun b u e => ?_) I.bare
  · obtain ⟨o, es, ep, e, r⟩ := hm
    exact ⟨o, es, ep, hk _ o (fun z => (hf _ z).2.1 rfl) e, r⟩
  · by_cases hb : b = s.heap.objs.size
    · subst hb
      rw [upd_same] at e
      cases e
      exact ⟨hz, us, rv, hT⟩
    · rw [upd_ne hb] at e
      refine (I.hok b u e).stay (fun c v hc q => hk c v ?_ q) (fun c q => by rw [upd_ne (ne_of_none q hn)]; exact q) fun c xs q => by rw [upd_ne (ne_of_none q hn)]; exact q
      rcases hc with rfl | hc
      · exact nfp _ _ e
      · exact nfp _ _ hc
theorem inv_recs {t' : Nat} (I : Inv X pins σ H s) (hf : ∀ b ∈ fp, FpOk X pins H b) (hk : ∀ b o, b ∉ fp → s.heap.get? b = some o → h'.get? b = some o) : Inv X pins σ H { s with heap := h', toks := t' } := by
  have nfp : ∀ b o, H b = some o → b ∉ fp := fun b o e z => by rw [(hf b z).1] at e; cases e
  refine I.step (g' := s.gens) (d' := s.drawn) (ch := fp) (fun b hb => ⟨(hf b hb).2.2.2.1, (hf b hb).2.1, (hf b hb).2.2.2.2.1, (hf b hb).2.2.2.2.2⟩) (fun b o _ _ hc e _ => hk b o hc e) (fun b o _ _ hc e _ => ⟨o.slots, hk b o hc e⟩)
    (fun b o _ e n => n) (fun b o hc e => ⟨o, hk b o hc e⟩) (fun b xs e => e) (fun b o xs e => e) (fun b ps e => ⟨#[], by rw [e]; simp⟩) (fun m hm => ?_) (fun b u e => ?_) I.bare
  · obtain ⟨o, es, ep, e, r⟩ := hm
    exact ⟨o, es, ep, hk _ o (fun z => (hf _ z).2.1 rfl) e, r⟩
  · refine (I.hok b u e).stay (fun c v hc q => hk c v ?_ q) (fun c q => q) fun c xs q => q
    rcases hc with rfl | hc
    · exact nfp _ _ e
    · exact nfp _ _ hc
end
end M
set_option Elab.async false
set_option linter.all false
set_option maxRecDepth 100000
set_option maxHeartbeats 4000000
namespace M
open PySem PySem.Spec PyProof.Rows L2

/-! ### what is zipped, numbered: a list (false) or a tuple (true) -/
def SqB (K : PySem.W.Frag) (b : Bool) (H : Hp) (a : Addr) (xs : List V) : Prop := match b with
  | true => SqT K H a xs
  | false => SqL K H a xs
def SqH (b : Bool) (h : Heap) (a : Addr) (xs : Array Value) : Prop := match b with
  | true => h.IsTuple a xs
  | false => h.IsList a xs
def ItH (b : Bool) (h : Heap) (it a : Addr) (k : Nat) : Prop := match b with
  | true => h.IsTupleIter it a k
  | false => h.IsListIter it a k
abbrev itObj (b : Bool) (a : Addr) : Obj := { cls := .type (match b with | true => "tuple_iterator" | false => "list_iterator"), data := .fields #[.ref a, .int 0 0] }
theorem SqB.mono {K : PySem.W.Frag} {b : Bool} {H H' : Hp} {a : Addr} {xs : List V} (x : SqB K b H a xs) (e : Same H H') : SqB K b H' a xs := by
  cases b
  · exact e.seq x
  · exact Same.tup e x
theorem Inv.sqB {X : Cx} {pins : List (Addr × Obj)} {σ : L2.St} {H : Hp} {s : Shared} {b : Bool} {a : Addr} {xs : List V} (I : L2.Inv X pins σ H s) (h : SqB X.K b H a xs) : ∃ its : List Value, Vals xs its ∧ SqH b s.heap a its.toArray := by
  cases b
  · obtain ⟨its, r, p, _⟩ := I.list h
    exact ⟨its, r, p.isList⟩
  · obtain ⟨its, r, p, _⟩ := I.tuple h
    exact ⟨its, r, p⟩
theorem sqB_inj {X : Cx} {pins : List (Addr × Obj)} {σ : L2.St} {H : Hp} {s : Shared} {b : Bool} {a : Addr} {xs ys : List V} (I : L2.Inv X pins σ H s) (h : SqB X.K b H a xs) (h' : SqB X.K b H a ys) : xs = ys := by
  cases b
  · exact I.list_inj h h'
  · exact I.tuple_inj h h'
theorem SqH.lt {b : Bool} {h : Heap} {a : Addr} {xs : Array Value} (x : SqH b h a xs) : a < h.objs.size := by
  cases b
  · obtain ⟨o, e, _⟩ := x; exact Heap.lt_size e
  · obtain ⟨o, e, _⟩ := x; exact Heap.lt_size e
theorem SqH.kept {b : Bool} {h h' : Heap} {a : Addr} {xs : Array Value} (x : SqH b h a xs) (k : ∀ o, h.get? a = some o → h'.get? a = some o) : SqH b h' a xs := by
  cases b
  · obtain ⟨o, e, r⟩ := x; exact ⟨o, k o e, r⟩
  · obtain ⟨o, e, r⟩ := x; exact ⟨o, k o e, r⟩
theorem ItH.kept {b : Bool} {h h' : Heap} {it a : Addr} {k : Nat} (x : ItH b h it a k) (kk : ∀ o, h.get? it = some o → h'.get? it = some o) : ItH b h' it a k := by
  cases b
  · obtain ⟨o, e, r⟩ := x; exact ⟨o, kk o e, r⟩
  · obtain ⟨o, e, r⟩ := x; exact ⟨o, kk o e, r⟩
theorem ItH.ob {b : Bool} {h : Heap} {it a : Addr} {k : Nat} (x : ItH b h it a k) : ∃ o, h.get? it = some o ∧ ∀ v, o.data ≠ .cell v := by
  cases b
  · obtain ⟨o, e, c, d⟩ := x; exact ⟨o, e, fun v z => by rw [d] at z; cases z⟩
  · obtain ⟨o, e, c, d⟩ := x; exact ⟨o, e, fun v z => by rw [d] at z; cases z⟩
theorem drawsB {prog : Program} {w : World} {A : Around} (b : Bool) (hh : A.handled = none) (it a : Addr) (hne : a ≠ it) (xs : Array Value) : Draws prog w A it [it, a] xs.size (fun i v => xs[i]? = some v) (fun i h => ItH b h it a i ∧ SqH b h a xs) := by
  cases b
  · exact Draws.list hh it a hne xs
  · exact draws_tup hh it a hne xs
theorem pyIterB {prog : Program} {w : World} {A : Around} {E : Value → Shared → Prop} {s : Shared} {b : Bool} {a : Addr} {xs : Array Value} {Q : Value → Shared → Prop} (h : SqH b s.heap a xs) (q : Q (.ref s.heap.objs.size) { s with heap := s.heap.push (itObj b a) }) : wpAny (model prog w) A (pyIter (.ref a)) Q E s := by
  cases b
  · exact wpAny_pyIter_list h q
  · exact wpAny_pyIter_tuple h q
theorem itObj_new {b : Bool} {h : Heap} {a : Addr} : ItH b (h.push (itObj b a)) h.objs.size a 0 := by
  cases b
  · exact ⟨_, Heap.get?_push_size _ rfl, rfl, rfl⟩
  · exact ⟨_, Heap.get?_push_size _ rfl, rfl, rfl⟩

/-! ### zip of two -/
abbrev zp1 (h : Heap) (b1 : Bool) (l1 : Addr) : Heap := h.push (itObj b1 l1)
abbrev zp2 (h : Heap) (b1 b2 : Bool) (l1 l2 : Addr) : Heap := (zp1 h b1 l1).push (itObj b2 l2)
abbrev zp3 (h : Heap) (b1 b2 : Bool) (l1 l2 : Addr) : Heap := (zp2 h b1 b2 l1 l2).push { cls := .type "tuple", data := .seq #[.ref h.objs.size, .ref (zp1 h b1 l1).objs.size] }
abbrev zp4 (h : Heap) (b1 b2 : Bool) (l1 l2 : Addr) : Heap := (zp3 h b1 b2 l1 l2).push { cls := .type "tuple", data := .seq #[.none, .none] }
abbrev zp5 (h : Heap) (b1 b2 : Bool) (l1 l2 : Addr) : Heap := (zp4 h b1 b2 l1 l2).push { cls := .type "zip", data := .fields #[.none, .bool false, .bool false, .ref (zp2 h b1 b2 l1 l2).objs.size, .ref (zp3 h b1 b2 l1 l2).objs.size] }
theorem zip_makes (b1 b2 : Bool) (l1 l2 : Addr) (xs ys : Array Value) :
    PySem.Meets (Builtin.«zip.__new__» ⟨[.type "zip", .ref l1, .ref l2], []⟩) (fun _ R s => SqH b1 s.heap l1 xs ∧ SqH b2 s.heap l2 ys ∧ R (.ok (.ret (.ref (zp4 s.heap b1 b2 l1 l2).objs.size))) { s with heap := zp5 s.heap b1 b2 l1 l2 }) :=
  .of_wp fun prog w A R s h => by
    obtain ⟨hp, g, d, tk, os⟩ := s
    obtain ⟨q1, q2, q⟩ := h
    have sub := sub_zip
    have e1 : SqH b1 (Shared.heap ⟨hp, g, d, tk, os⟩) l1 xs := q1
    have e2 : SqH b2 (Shared.heap ⟨hp.push (itObj b1 l1), g, d, tk, os⟩) l2 ys := q2.kept fun o e => Heap.get?_push_of_some _ e
    wp_walk using pyIterB e1, pyIterB e2
    exact ⟨_, rfl, q⟩
end M
set_option Elab.async false
set_option linter.all false
set_option maxRecDepth 100000
set_option maxHeartbeats 4000000
namespace M
open PySem PySem.Spec PyProof.Rows L2

def Itz (K : PySem.W.Frag) (b1 b2 : Bool) (l1 l2 : Addr) : It :=
  ⟨fun i H => ∃ xs ys x y, SqB K b1 H l1 xs ∧ SqB K b2 H l2 ys ∧ xs[i]? = some x ∧ ys[i]? = some y,
   fun i H v H' => ∃ p x y, v = .ref p ∧ H p = none ∧ (∀ xs, SqB K b1 H l1 xs → xs[i]? = some x) ∧ (∀ ys, SqB K b2 H l2 ys → ys[i]? = some y) ∧ H' = upd H p (.tup [x, y]),
   fun i H => ∃ xs ys, SqB K b1 H l1 xs ∧ SqB K b2 H l2 ys ∧ i ≤ xs.length ∧ i ≤ ys.length ∧ (i = xs.length ∨ i = ys.length)⟩
def ZipSt (b1 b2 : Bool) (z tI tO i1 i2 l1 l2 : Addr) (i : Nat) (h : Heap) : Prop := ∃ p q, IsZip h z tI tO .none ∧ IsPair h tI (.ref i1) (.ref i2) ∧ IsPair h tO p q ∧ ItH b1 h i1 l1 i ∧ ItH b2 h i2 l2 i

theorem turn_zip {P : Program} {w : World} {K : PySem.W.Frag} {elts : List Expr} {x1 : Nat} {tpos : Pos} {b1 b2 : Bool} {z tI tO i1 i2 l1 l2 : Addr} (ap : Apart z tI tO i1 i2 [i1, l1] [i2, l2]) (n1 : l1 ≠ i1) (n2 : l2 ≠ i2) :
    Turn P w K (.Tuple elts x1 tpos) (Itz K b1 b2 l1 l2) [z, tI, tO, i1, i2] z (ZipSt b1 b2 z tI tO i1 i2 l1 l2) where
  mem := by simp
  obj := fun i h st b hb => by
    obtain ⟨p, q, hz, hI, hO, h1, h2⟩ := st
    simp only [List.mem_cons, List.not_mem_nil, or_false] at hb
    rcases hb with rfl | rfl | rfl | rfl | rfl
    · exact ⟨_, hz, fun v e => by cases e⟩
    · exact ⟨_, hI, fun v e => by cases e⟩
    · exact ⟨_, hO, fun v e => by cases e⟩
    · exact h1.ob
    · exact h2.ob
  keep := fun i h h' st k => by
    obtain ⟨p, q, hz, hI, hO, h1, h2⟩ := st
    exact ⟨p, q, k z (by simp) _ hz, k tI (by simp) _ hI, k tO (by simp) _ hO, h1.kept (k i1 (by simp)), h2.kept (k i2 (by simp))⟩
  item := by
    intro X hP hw hK hc i pins s σ H E I hf st hg
    subst hP hw hK
    obtain ⟨p, q, hz, hI, hO, h1, h2⟩ := st
    obtain ⟨xs, ys, x, y, q1, q2, ex, ey⟩ := hg
    obtain ⟨us, r1, g1⟩ := Inv.sqB I q1
    obtain ⟨ws, r2, g2⟩ := Inv.sqB I q2
    have hh : X.A.in1.handled = none := I.ok.hd hc
    have lx : i < us.toArray.size := by
      have := (List.getElem?_eq_some_iff.mp ex).1
      simp only [List.size_toArray, ← r1.length]; exact this
    have ly : i < ws.toArray.size := by
      have := (List.getElem?_eq_some_iff.mp ey).1
      simp only [List.size_toArray, ← r2.length]; exact this
    have hT : s.TypeIs (.ref z) "zip" := ⟨_, hz, rfl⟩
    unfold pyNext
    refine wpAny_bind (wpAny_attempt (wpAny_callSpecial?_slot (name := "__next__") hT PySem.F.slot_zip_next (wpAny_call_entry PySem.F.slot_zip_next hT PySem.F.entry_zip_next (zip_turn (drawsB b1 hh i1 l1 n1 us.toArray) (drawsB b2 hh i2 l2 n2 ws.toArray) ap hz hI hO ⟨h1, g1⟩ ⟨h2, g2⟩ lx ly fun a c h' tk pa pc z' O' t1 t2 T' kp => wpAny_pure ?_) (PySem.F.args_zip_next_1 _))))
    refine ⟨_, rfl, wpAny_letOwnedTupleGo_zip z' fun h'' z'' sb => ?_⟩
    have fz : s.heap.objs.size ≠ z := Nat.ne_of_gt (Heap.lt_size hz)
    have kp' : ∀ b o, b ∉ [z, tI, tO, i1, i2] → s.heap.get? b = some o → h''.get? b = some o := fun b o hb e => by
      simp only [List.mem_cons, List.not_mem_nil, or_false, not_or] at hb
      exact sb.extBut b o hb.1 (kp b o hb.1 hb.2.2.1 hb.2.2.2.1 hb.2.2.2.2 e)
    obtain ⟨a', ea, ra⟩ := r1.get ex
    obtain ⟨c', ec, rc⟩ := r2.get ey
    have pa' : a = a' := by
      have : us.toArray[i]? = some a := pa
      simp only [List.getElem?_toArray] at this
      rw [ea] at this
      exact (Option.some.inj this).symm
    have pc' : c = c' := by
      have : ws.toArray[i]? = some c := pc
      simp only [List.getElem?_toArray] at this
      rw [ec] at this
      exact (Option.some.inj this).symm
    subst pa' pc'
    have T'' : h''.get? s.heap.objs.size = some { cls := .type "tuple", data := .seq #[a, c] } := sb.extBut _ _ fz T'
    have I' := inv_pair (t' := tk) I hf kp' (vs := [x, y]) (us := [a, c]) (.cons ra (.cons rc .nil)) (by rw [sizeLine_eq]; show 2 ≤ 16777216; decide) ⟨_, T'', rfl, _, rfl⟩
    refine ⟨.ref s.heap.objs.size, _, I', rfl, ⟨_, x, y, rfl, I.fresh, fun xs' hx => by rw [sqB_inj I hx q1]; exact ex, fun ys' hy => by rw [sqB_inj I hy q2]; exact ey, rfl⟩, ?_, fun b hb => ?_⟩
    · have hI' : IsPair h' tI (.ref i1) (.ref i2) := kp _ _ ap.b.symm ap.c ap.ne1.2.2.2.symm ap.ne2.2.2.symm hI
      exact ⟨a, c, z'', sb.extBut _ _ ap.b.symm hI', sb.extBut _ _ ap.a.symm O', t1.1.kept fun o e => sb.extBut _ _ ap.ne1.1 e, t2.1.kept fun o e => sb.extBut _ _ ap.ne2.1 e⟩
    · have : b < s.heap.objs.size := by
        simp only [List.mem_cons, List.not_mem_nil, or_false] at hb
        rcases hb with rfl | rfl | rfl | rfl | rfl
        · exact Heap.lt_size hz
        · exact Heap.lt_size hI
        · exact Heap.lt_size hO
        · obtain ⟨o, e, _⟩ := h1.ob; exact Heap.lt_size e
        · obtain ⟨o, e, _⟩ := h2.ob; exact Heap.lt_size e
      rw [upd_ne (Nat.ne_of_lt this)]
      exact (hf b hb).1
  done := by
    intro X hP hw hK hc i pins s σ H E I hf st hg
    subst hP hw hK
    obtain ⟨p, q, hz, hI, hO, h1, h2⟩ := st
    obtain ⟨xs, ys, q1, q2, le1, le2, hend⟩ := hg
    obtain ⟨us, r1, g1⟩ := Inv.sqB I q1
    obtain ⟨ws, r2, g2⟩ := Inv.sqB I q2
    have hh : X.A.in1.handled = none := I.ok.hd hc
    have hT : s.TypeIs (.ref z) "zip" := ⟨_, hz, rfl⟩
    unfold pyNext
    refine wpAny_bind (wpAny_attempt (wpAny_callSpecial?_slot (name := "__next__") hT PySem.F.slot_zip_next (wpAny_call_entry PySem.F.slot_zip_next hT PySem.F.entry_zip_next (zip_over (k := i) (drawsB b1 hh i1 l1 n1 us.toArray) (drawsB b2 hh i2 l2 n2 ws.toArray) ap hz hI hO ⟨h1, g1⟩ ⟨h2, g2⟩ (by simp only [List.size_toArray, ← r1.length]; exact le1) (by simp only [List.size_toArray, ← r2.length]; exact le2)
      (by simp only [List.size_toArray, ← r1.length, ← r2.length]; exact hend) fun h' e tk kp he => ?_) (PySem.F.args_zip_next_1 _))))
    obtain ⟨o, eo, co⟩ := he
    refine wpAny_bind (wpAny_isInstance (T := "StopIteration") (b := true) ⟨o, eo, co⟩ isSubtype_stop (wpAny_pure ⟨rfl, ?_⟩))
    exact inv_recs (t' := tk) I hf fun b o hb e => by
      simp only [List.mem_cons, List.not_mem_nil, or_false, not_or] at hb
      exact kp b o hb.1 hb.2.2.1 hb.2.2.2.1 hb.2.2.2.2 e
  self := fun A i s Q E st h => by
    obtain ⟨p, q, hz, _⟩ := st
    exact wpAny_pyIter_zip hz h
/-- the pairs of two lists of data -/
def pairD (xs ys : List D) : List D := (xs.zip ys).map fun p => .tup [p.1, p.2]
theorem pairD_get : ∀ (xs ys : List D) (i : Nat), (pairD xs ys)[i]? = match xs[i]?, ys[i]? with
    | some x, some y => some (.tup [x, y])
    | _, _ => none
  | [], ys, i => by simp [pairD]
  | x :: xs, [], i => by
    simp only [pairD, List.zip_nil_right, List.map_nil, List.getElem?_nil]
    cases (x :: xs)[i]? <;> rfl
  | x :: xs, y :: ys, 0 => rfl
  | x :: xs, y :: ys, i + 1 => by
    have := pairD_get xs ys i
    simpa [pairD] using this
theorem pairD_len (xs ys : List D) : (pairD xs ys).length = min xs.length ys.length := by simp [pairD]
theorem walk_zip {K : PySem.W.Frag} {F : Hp} {α : List Addr} {b1 b2 : Bool} {l1 l2 : Addr} {xs ys : List D} {us vs : List V} (h1 : SqB K b1 F l1 us) (r1 : Reps K F α xs us) (h2 : SqB K b2 F l2 vs) (r2 : Reps K F α ys vs) : WalkOk K α F (Itz K b1 b2 l1 l2) (pairD xs ys) := by
  intro Z α' F' H' μ' R e i
  have g1 : SqB K b1 H' l1 us := h1.mono (e.fr.trans R.sub)
  have g2 : SqB K b2 H' l2 vs := h2.mono (e.fr.trans R.sub)
  have e1 := r1.length
  have e2 := r2.length
  rw [pairD_len]
  refine ⟨fun hi => ?_, fun hi => ⟨us, vs, g1, g2, by omega, by omega, by omega⟩⟩
  obtain ⟨u, a1, a2⟩ := r1.get (List.getElem?_eq_getElem (show i < xs.length by omega))
  obtain ⟨v, c1, c2⟩ := r2.get (List.getElem?_eq_getElem (show i < ys.length by omega))
  refine ⟨⟨us, vs, u, v, g1, g2, a1, c1⟩, fun x H2 y => ?_⟩
  obtain ⟨p, x', y', rfl, hp, m1, m2, rfl⟩ := y
  have k1 := m1 us g1
  rw [a1] at k1
  cases k1
  have k2 := m2 vs g2
  rw [c1] at k2
  cases k2
  obtain ⟨R2, s2, p2⟩ := lay_tup R (reps_cons (a2.mono e) (reps_cons (c2.mono e) reps_nil)) hp
  refine ⟨_, _, ?_, R2, s2, p2⟩
  rw [pairD_get, List.getElem?_eq_getElem (show i < xs.length by omega), List.getElem?_eq_getElem (show i < ys.length by omega)]

/-! ### zip(a, b) walked -/
theorem apart_new (n l1 l2 : Nat) (h1 : l1 < n) (h2 : l2 < n) : Apart (n + 4) (n + 2) (n + 3) n (n + 1) [n, l1] [n + 1, l2] := by
  have nat : ∀ {a b : Nat}, a ≠ b → @Ne Addr a b := fun h => h
  constructor
  · exact nat (by omega)
  · exact nat (by omega)
  · exact nat (by omega)
  all_goals first
    | exact List.mem_cons_self
    | (refine List.not_mem_cons_of_ne_of_not_mem (nat (by omega)) (List.not_mem_cons_of_ne_of_not_mem (nat (by omega)) List.not_mem_nil))
theorem ne_succ_of {n l : Nat} (h : l < n) : @Ne Addr l (n + 1) := fun e => by
  have e' : l = n + 1 := e
  omega
def asSq (b : Bool) (d : D) : Option (List D) := match b, d with
  | true, .tup xs => some xs
  | false, .lst xs => some xs
  | _, _ => none
def mZip (b1 b2 : Bool) (ma mb : MX) : MIt := fun ρ μ => (ma ρ μ).bind fun x μ1 => (mb ρ μ1).bind fun y μ2 => ofO μ2 ((asSq b1 x).bind fun xs => (asSq b2 y).map fun ys => pairD xs ys)
theorem asSq_rep {K : PySem.W.Frag} {F : Hp} {α : List Addr} {b : Bool} {d : D} {v : V} {xs : List D} (h : asSq b d = some xs) (r : Rep K F α d v) : ∃ a vs, v = .ref a ∧ SqB K b F a vs ∧ Reps K F α xs vs := by
  cases b <;> cases d <;> first | (cases h; done) | skip
  · cases h
    unfold Rep at r
    exact r
  · cases h
    unfold Rep at r
    exact r
section
variable {X : Cx} {EX : EXT} {a b : Expr} {pos p tpos : Pos} {ma mb : MX} {elts : List Expr} {x1 : Nat}
theorem mi_zip (b1 b2 : Bool) (hg : Gl X "zip") (hm : X.mg "zip" = none) (ha : ME X EX a ma) (hb : ME X EX b mb) (hs : starEach [a, b] X.env = [(false, eval a X.env), (false, eval b X.env)] := by rfl) (hs2 : starEach [b] X.env = [(false, eval b X.env)] := by rfl) :
    MI X EX (.Tuple elts x1 tpos) (.Call (.Name "zip" p) [a, b] [] pos) (mZip b1 b2 ma mb) := by
  obtain ⟨t, pt, st, lt⟩ := ma_cons ha (ma_cons hb ma_nil hs2) (by rw [hs, hs2])
  refine ⟨fun σ H R => ∀ pins s, Inv X pins σ H s → wpAny (model X.prog X.w) X.A (eval (.Call (.Name "zip" p) [a, b] [] pos) X.env) (fun v s1 => wpAny (model X.prog X.w) X.A (pyIter v) (PIE X pins σ (.Tuple elts x1 tpos) R) X.xe s1) X.xe s, fun pins s σ H R I h => h pins s I, fun Z α F H σ ρ μ Rr R g pins s I => ?_⟩
  have hw : t σ H fun vs H1 => ∃ x y α1 F1 μ1 xs ys, RH X.K Z α1 F1 H1 μ1 ∧ Ext α F α1 F1 ∧ Reps X.K F1 α1 [x, y] vs ∧ asSq b1 x = some xs ∧ asSq b2 y = some ys ∧ (∀ J α' F' H', RH X.K Z α' F' H' μ1 → Ext α F α' F' → WalkOk X.K α' F' J (pairD xs ys) → Rr J H') := by
    refine st Z α F H σ ρ μ _ R ?_
    unfold mZip at g
    unfold mCons
    cases h1 : ma ρ μ with
    | exc x μ1 => rw [h1] at g; exact g
    | bad => rw [h1] at g; exact g
    | ok x μ1 =>
      rw [h1] at g
      simp only [bind_ok] at g ⊢
      cases h2 : mb ρ μ1 with
      | exc x μ1 => rw [h2] at g; exact g
      | bad => rw [h2] at g; exact g
      | ok y μ2 =>
        rw [h2] at g
        simp only [bind_ok, mNil] at g ⊢
        intro vs α1 F1 H1 R1 e1 r1
        cases q1 : asSq b1 x with
        | none => rw [q1] at g; exact g.elim
        | some xs =>
          cases q2 : asSq b2 y with
          | none => rw [q1, q2] at g; exact g.elim
          | some ys =>
            rw [q1, q2] at g
            exact ⟨x, y, α1, F1, μ2, xs, ys, R1, e1, r1, q1, q2, g⟩
  refine Call_ (ld_blt I hg hm PyProof.Rows.boot_zip (PyProof.Rows.callWith_type1 (thn (pt pos pins s σ H _ I hw) fun us s1 ⟨vs, H1, I1, rr, q⟩ => ?_) (by rw [hs, hs2]) (by rw [hs2]; rfl)))
  obtain ⟨x, y, α1, F1, μ1, xs, ys, R1, e1, r1, q1, q2, fin⟩ := q
  obtain ⟨v, u, rfl, p1, p2⟩ := r1.two
  obtain ⟨u1, u2, rfl, rv, ru⟩ := vals2 rr
  obtain ⟨l1, v1, rfl, g1, h1⟩ := asSq_rep q1 p1
  obtain ⟨l2, v2, rfl, g2, h2⟩ := asSq_rep q2 p2
  cases rv
  cases ru
  obtain ⟨w1, k1, z1⟩ := Inv.sqB I1 (g1.mono R1.sub)
  obtain ⟨w2, k2, z2⟩ := Inv.sqB I1 (g2.mono R1.sub)
  refine callType_new PySem.F.called_zip (by decide) (PySem.F.typeCall_zip_2 _ _) (PySem.F.newCall_zip_2 _ _) (fun obj => PySem.F.args_object_init_3 obj _ _) PySem.F.entry_zip_new (zip_makes b1 b2 l1 l2 w1.toArray w2.toArray) ⟨z1, z2, ?_⟩
  have n1 : (zp1 s1.heap b1 l1).objs.size = s1.heap.objs.size + 1 := Heap.size_push ..
  have n2 : (zp2 s1.heap b1 b2 l1 l2).objs.size = s1.heap.objs.size + 2 := by rw [Heap.size_push, n1]
  have n3 : (zp3 s1.heap b1 b2 l1 l2).objs.size = s1.heap.objs.size + 3 := by rw [Heap.size_push, n2]
  have n4 : (zp4 s1.heap b1 b2 l1 l2).objs.size = s1.heap.objs.size + 4 := by rw [Heap.size_push, n3]
  have kp : ∀ c o, s1.heap.get? c = some o → (zp5 s1.heap b1 b2 l1 l2).get? c = some o := fun c o e => Heap.get?_push_of_some _ (Heap.get?_push_of_some _ (Heap.get?_push_of_some _ (Heap.get?_push_of_some _ (Heap.get?_push_of_some _ e))))
  have c5 : (zp5 s1.heap b1 b2 l1 l2).get? (zp4 s1.heap b1 b2 l1 l2).objs.size = some _ := Heap.get?_push_size _ rfl
  have c4 : (zp5 s1.heap b1 b2 l1 l2).get? (zp3 s1.heap b1 b2 l1 l2).objs.size = some _ := Heap.get?_push_of_some _ (Heap.get?_push_size _ rfl)
  have c3 : (zp5 s1.heap b1 b2 l1 l2).get? (zp2 s1.heap b1 b2 l1 l2).objs.size = some _ := Heap.get?_push_of_some _ (Heap.get?_push_of_some _ (Heap.get?_push_size _ rfl))
  have t2 : ItH b2 (zp5 s1.heap b1 b2 l1 l2) (zp1 s1.heap b1 l1).objs.size l2 0 := (itObj_new (h := zp1 s1.heap b1 l1)).kept fun o e => Heap.get?_push_of_some _ (Heap.get?_push_of_some _ (Heap.get?_push_of_some _ e))
  have t1 : ItH b1 (zp5 s1.heap b1 b2 l1 l2) s1.heap.objs.size l1 0 := (itObj_new (h := s1.heap)).kept fun o e => Heap.get?_push_of_some _ (Heap.get?_push_of_some _ (Heap.get?_push_of_some _ (Heap.get?_push_of_some _ e)))
  rw [n1] at t2 c3
  rw [n2] at c3
  rw [n3] at c4
  rw [n2, n3, n4] at c5
  have a1 := z1.lt
  have a2 := z2.lt
  show _ ∧ _
  rw [n4]
  refine ⟨⟨_, c5, rfl⟩, ?_⟩
  refine wpAny_pyIter_zip (s := { s1 with heap := zp5 s1.heap b1 b2 l1 l2 }) c5 ?_
  have ap := apart_new s1.heap.objs.size l1 l2 a1 a2
  have I5 : Inv X pins σ H1 { s1 with heap := zp5 s1.heap b1 b2 l1 l2 } := I1.kept (t' := s1.toks) kp
  refine ⟨s1.heap.objs.size + 4, _, _, Itz X.K b1 b2 l1 l2, H1, rfl, I5, turn_zip ap (Nat.ne_of_lt a1) (ne_succ_of a2), ⟨_, _, c5, c3, c4, t1, t2⟩, fun b hb => ?_, fin _ α1 F1 H1 R1 e1 (walk_zip g1 h1 g2 h2)⟩
  have hb' : s1.heap.objs.size ≤ b := by
    simp only [List.mem_cons, List.not_mem_nil, or_false] at hb
    rcases hb with rfl | rfl | rfl | rfl | rfl
    · exact Nat.le_add_right _ _
    · exact Nat.le_add_right _ _
    · exact Nat.le_add_right _ _
    · exact Nat.le_refl _
    · exact Nat.le_add_right _ _
  exact I1.fpOk hb' (I1.hok.fresh hb')
end
end M
set_option Elab.async false
set_option linter.all false
set_option maxRecDepth 100000
set_option maxHeartbeats 4000000
namespace M
open PySem PySem.Spec PyProof.Rows L2

/-! ### several targets -/
abbrev MGs := List D → En → Option En
def gsNil : MGs := fun ds ρ => match ds with
  | [] => some ρ
  | _ => none
def gsCons (g : MG) (gs : MGs) : MGs := fun ds ρ => match ds with
  | d :: r => (g d ρ).bind (gs r)
  | [] => none
def gTupT (gs : MGs) : MG := fun d ρ => match d with
  | .tup ds => gs ds ρ
  | _ => none
def MTgs (X : Cx) (es : List Expr) (n : Nat) (mg : MGs) : Prop := ∃ g : TGs, PGs X es g ∧ (∀ ds ρ ρ', mg ds ρ = some ρ' → ds.length = n) ∧ ∀ Z α F H σ ρ μ vs ds ρ' Q, RS X.K Z α F H σ ρ μ → Reps X.K F α ds vs → mg ds ρ = some ρ' → (∀ σ', RS X.K Z α F H σ' ρ' μ → Q σ' H) → g vs σ H Q
section
variable {X : Cx} {EX : EXT} {e a b c : Expr} {pos : Pos} {m ma mb mc : MX} {es : List Expr}
theorem mts_nil : MTgs X [] 0 gsNil := by
  refine ⟨gNil, pgs_nil, fun ds ρ ρ' h => ?_, fun Z α F H σ ρ μ vs ds ρ' Q R r h k => ?_⟩
  · cases ds with
    | nil => rfl
    | cons _ _ => cases h
  · cases ds with
    | nil =>
      have := r.length
      cases vs with
      | nil => cases h; exact ⟨rfl, k σ R⟩
      | cons _ _ => simp at this
    | cons _ _ => cases h
theorem mts_cons {n : Nat} {g : MG} {gs : MGs} (h1 : MTg X e g) (h2 : MTgs X es n gs) (hs : (assignEach (e :: es) X.env).map (·.2) = assign e X.env :: (assignEach es X.env).map (·.2) := by rfl) : MTgs X (e :: es) (n + 1) (gsCons g gs) := by
  obtain ⟨t, p, s⟩ := h1
  obtain ⟨ts, ps, hn, ss⟩ := h2
  refine ⟨_, pgs_cons p ps hs, fun ds ρ ρ' h => ?_, fun Z α F H σ ρ μ vs ds ρ' Q R r h k => ?_⟩
  · cases ds with
    | nil => cases h
    | cons d r =>
      simp only [gsCons, Option.bind_eq_some_iff] at h
      obtain ⟨ρ1, _, h2⟩ := h
      simp [hn _ _ _ h2]
  · cases ds with
    | nil => cases h
    | cons d dr =>
      simp only [gsCons, Option.bind_eq_some_iff] at h
      obtain ⟨ρ1, h1, h2⟩ := h
      unfold Reps at r
      obtain ⟨v, vr, rfl, r1, r2⟩ := r
      exact ⟨v, vr, rfl, s Z α F H σ ρ μ v d ρ1 _ R r1 h1 fun σ' R' => ss Z α F H σ' ρ1 μ vr dr ρ' Q R' r2 h2 k⟩
theorem mt_tup {x1 n : Nat} {gs : MGs} (hc : X.calm = true) (h : MTgs X es n gs) (hn : (assignEach es X.env).length = n := by rfl) (hst : (assignEach es X.env).findIdx? (·.1) = none := by rfl) : MTg X (.Tuple es x1 pos) (gTupT gs) := by
  obtain ⟨ts, ps, hl, ss⟩ := h
  refine ⟨_, pg_tup hc ps hn hst, fun Z α F H σ ρ μ v d ρ' Q R r h k => ?_⟩
  cases d with
  | tup ds =>
    unfold Rep at r
    obtain ⟨p, vs, rfl, hs, hr⟩ := r
    exact ⟨p, vs, rfl, Same.tup R.hp.sub hs, by rw [← hr.length]; exact hl _ _ _ h, ss Z α F H σ ρ μ vs ds ρ' Q R hr h k⟩
  | _ => cases h

/-! ### slices -/
abbrev MOp := En → Mu → Res (Option Int)
def mNoP : MOp := fun _ μ => .ok none μ
def mPart (m : MX) : MOp := fun ρ μ => (m ρ μ).bind fun d μ1 => match d with
  | .int i => .ok (some i) μ1
  | _ => .bad
def GO (K : PySem.W.Frag) (EX : EXT) (Z : Hp) (α : List Addr) (F : Hp) (Q : Option Int → Hp → Prop) : Res (Option Int) → Prop
  | .ok o μ => ∀ α' F' H', RH K Z α' F' H' μ → Ext α F α' F' → Q o H'
  | .exc x μ => EX x μ
  | .bad => False
theorem GO.step {K : PySem.W.Frag} {Z : Hp} {α : List Addr} {F : Hp} {r : Res (Option Int)} {β : Type} {f : Option Int → Mu → Res β} {G : Res β → Prop} {Q : Option Int → Hp → Prop} (h : G (r.bind f)) (hx : ∀ x μ, G (.exc x μ) → EX x μ) (hb : ¬ G .bad)
    (hk : ∀ d μ' α' F' H', RH K Z α' F' H' μ' → Ext α F α' F' → G (f d μ') → Q d H') : GO K EX Z α F Q r := by
  cases r with
  | ok d μ => exact fun α' F' H' R e => hk d μ α' F' H' R e h
  | exc x μ => exact hx _ _ h
  | bad => exact hb h
def MPt (X : Cx) (EX : EXT) (o : Option Expr) (mo : MOp) : Prop := ∃ t : TO, PO X o t ∧ ∀ Z α F H σ ρ μ Q, RS X.K Z α F H σ ρ μ → GO X.K EX Z α F Q (mo ρ μ) → t σ H Q
theorem mp_none : MPt X EX none mNoP := ⟨_, po_none, fun Z α F H σ ρ μ Q R g => g α F H R.hp (Ext.refl _ _)⟩
theorem mp_some (h : ME X EX e m) : MPt X EX (some e) (mPart m) := by
  obtain ⟨t, p, s⟩ := h
  refine ⟨_, po_some p, fun Z α F H σ ρ μ Q R g => ?_⟩
  refine s Z α F H σ ρ μ _ R (GE.step (G := GO X.K EX Z α F Q) g (fun _ _ h => h) (fun h => h) fun d μ1 v α1 F1 H1 R1 e1 p1 g1 => ?_)
  cases d with
  | int i => unfold Rep at p1; exact ⟨i, p1, g1 α1 F1 H1 R1 e1⟩
  | _ => exact g1.elim
def cutD (xs : List D) (lo hi : Option Int) : List D := (xs.drop (HT.sIx xs.length 0 lo)).take (HT.sIx xs.length xs.length hi - HT.sIx xs.length 0 lo)
def gSl (d : D) (lo hi : Option Int) : Option D := match d with
  | .tup xs => if HT.sIx xs.length 0 lo = 0 ∧ HT.sIx xs.length xs.length hi = xs.length then none else some (.tup (cutD xs lo hi))
  | .lst xs => some (.lst (cutD xs lo hi))
  | _ => none
def mSl (m : MX) (lo hi : MOp) : MX := fun ρ μ => (m ρ μ).bind fun d μ1 => (lo ρ μ1).bind fun l μ2 => (hi ρ μ2).bind fun h μ3 => ofO μ3 (gSl d l h)
theorem reps_cut {K : PySem.W.Frag} {F : Hp} {α : List Addr} {ds : List D} {vs : List V} {lo hi : Option Int} (h : Reps K F α ds vs) : Reps K F α (cutD ds lo hi) (cutV vs lo hi) := by
  unfold cutD cutV
  rw [h.length]
  exact Reps.take _ (Reps.drop _ h)
theorem me_slice {lo hi : Option Expr} {l h : MOp} {p2 : Pos} (ha : ME X EX a ma) (hl : MPt X EX lo l) (hh : MPt X EX hi h) : ME X EX (.Subscript a (.Slice lo hi none p2) pos) (mSl ma l h) := by
  obtain ⟨ta, pa, sa⟩ := ha
  obtain ⟨tl, pl, sl⟩ := hl
  obtain ⟨th, ph, sh⟩ := hh
  refine ⟨_, pe_slice (SlR.or sl_tup sl_list) pa pl ph, fun Z α F H σ ρ μ Q R g => ?_⟩
  refine sa Z α F H σ ρ μ _ R (GE.step (G := GE X.K EX Z α F Q) g (fun _ _ h => h) (fun h => h) fun d μ1 v α1 F1 H1 R1 e1 p1 g1 => ?_)
  refine sl Z α1 F1 H1 σ ρ μ1 _ (R.to R1 e1) (GO.step (G := GE X.K EX Z α F Q) g1 (fun _ _ h => h) (fun h => h) fun l μ2 α2 F2 H2 R2 e2 g2 => ?_)
  refine sh Z α2 F2 H2 σ ρ μ2 _ (R.to R2 (e1.trans e2)) (GO.step (G := GE X.K EX Z α F Q) g2 (fun _ _ h => h) (fun h => h) fun h μ3 α3 F3 H3 R3 e3 g3 => ?_)
  have p3 := (p1.mono e2).mono e3
  cases d with
  | tup xs =>
    unfold Rep at p3
    obtain ⟨q, vs, rfl, hs, hr⟩ := p3
    simp only [gSl] at g3
    split at g3
    · exact g3.elim
    · rename_i hw
      refine .inl ⟨q, vs, rfl, Same.tup R3.sub hs, by rw [← hr.length]; exact hw, fun p hp => ?_⟩
      obtain ⟨a1, a2, a3⟩ := lay_tup R3 (reps_cut (lo := l) (hi := h) hr) hp
      exact g3 _ _ _ _ a1 (e1.trans (e2.trans (e3.trans ⟨a2, fun _ _ h => h⟩))) a3
  | lst xs =>
    unfold Rep at p3
    obtain ⟨q, vs, rfl, hs, hr⟩ := p3
    refine .inr ⟨q, vs, rfl, R3.sub.seq hs, fun p hp => ?_⟩
    obtain ⟨a1, a2, a3⟩ := lay_lst R3 (reps_cut (lo := l) (hi := h) hr) hp
    exact g3 _ _ _ _ a1 (e1.trans (e2.trans (e3.trans ⟨a2, fun _ _ h => h⟩))) a3
  | _ => exact g3.elim

/-! ### list(x), all, any -/
def gListC : GL := fun ds => match ds with
  | [.lst xs] => some (.lst xs)
  | [.tup xs] => some (.lst xs)
  | _ => none
theorem cm_list : CallM X (.type "list") gListC := by
  refine ⟨_, call_list_of, fun Z α F H μ ds c vs Q R hp hg k => ?_⟩
  match ds, hg with
  | [.lst xs], hg =>
    obtain ⟨v, r, rfl, ⟨q, us, rfl, hs, hr⟩, hq⟩ := hp
    have hq : r = [] := hq
    subst hq
    cases hg
    refine ⟨q, us, rfl, .inl hs, fun p hp => ?_⟩
    obtain ⟨a1, a2, a3⟩ := lay_lst R hr hp
    exact k _ _ _ a1 a2 a3
  | [.tup xs], hg =>
    obtain ⟨v, r, rfl, hv, hq⟩ := hp
    have hq : r = [] := hq
    subst hq
    unfold Pk Rep at hv
    obtain ⟨q, us, rfl, hs, hr⟩ := hv
    cases hg
    refine ⟨q, us, rfl, .inr (Same.tup R.sub hs), fun p hp => ?_⟩
    obtain ⟨a1, a2, a3⟩ := lay_lst R hr hp
    exact k _ _ _ a1 a2 a3
def blsOf : List D → Option (List Bool)
  | [] => some []
  | .bl b :: r => (blsOf r).map (b :: ·)
  | _ => none
def gAll : GL := fun ds => match ds with
  | [.lst xs] => (blsOf xs).map fun bs => .bl (bs.all id)
  | _ => none
def gAny : GL := fun ds => match ds with
  | [.lst xs] => (blsOf xs).map fun bs => .bl (bs.any id)
  | _ => none
theorem reps_bls {K : PySem.W.Frag} {F : Hp} {α : List Addr} : ∀ {ds : List D} {vs : List V} {bs : List Bool}, Reps K F α ds vs → blsOf ds = some bs → vs = bs.map V.bl
  | [], vs, bs, h, e => by
    cases e
    have := h.length
    cases vs with
    | nil => rfl
    | cons _ _ => simp at this
  | d :: ds, vs, bs, h, e => by
    unfold Reps at h
    obtain ⟨v, vr, rfl, h1, h2⟩ := h
    cases d with
    | bl b =>
      simp only [blsOf, Option.map_eq_some_iff] at e
      obtain ⟨br, e1, rfl⟩ := e
      unfold Rep at h1
      rw [h1, reps_bls h2 e1]
      rfl
    | _ => cases e
theorem vals_bls : ∀ {bs : List Bool} {us : List Value}, Vals (bs.map V.bl) us → us = bs.map Value.bool
  | [], us, h => by cases h; rfl
  | b :: bs, us, h => by
    cases h with
    | cons r rr =>
      have r : _ = Value.bool b := r
      rw [r, vals_bls rr]
      rfl
theorem rng_all (bs : List Bool) : ((List.range bs.length).all fun i => (bs[i]?).getD true) = bs.all id := by
  induction bs with
  | nil => rfl
  | cons b r ih => rw [List.length_cons, List.range_succ_eq_map, List.all_cons, List.all_map, List.all_cons, ← ih]; rfl
theorem rng_any (bs : List Bool) : ((List.range bs.length).any fun i => (bs[i]?).getD false) = bs.any id := by
  induction bs with
  | nil => rfl
  | cons b r ih => rw [List.length_cons, List.range_succ_eq_map, List.any_cons, List.any_map, List.any_cons, ← ih]; rfl
theorem iter_kept {h h' : Heap} {o : Obj} (hk : ∀ b x, b ∉ [h.objs.size] → (h.push o).get? b = some x → h'.get? b = some x) (b : Addr) (x : Obj) (e : h.get? b = some x) : h'.get? b = some x := by
  refine hk b x (fun z => ?_) (Heap.get?_push_of_some _ e)
  have z2 := List.mem_singleton.mp z
  have z3 := Heap.lt_size e
  rw [z2] at z3
  exact absurd z3 (Nat.lt_irrefl _)
theorem call_allR (hc : X.calm = true) : CallR X (.builtin "all") (fun xs H Q => ∃ (p : Addr) (bs : List Bool), xs = [.ref p] ∧ SqL X.K H p (bs.map V.bl) ∧ Q (.bl (bs.all id)) H) := by
  intro pins s σ H xs us Q I r h
  obtain ⟨p, bs, rfl, hq, q⟩ := h
  obtain ⟨u, rfl, rx⟩ := vals1 r
  cases rx
  obtain ⟨its, r', pl, hz⟩ := I.list hq
  obtain rfl := vals_bls r'
  have hl := pl.isList
  have hlt : p < s.heap.objs.size := by obtain ⟨_, e, _⟩ := hl; exact Heap.lt_size e
  refine call_all_walk (wpAny_pyIter_list hl ⟨_, [_, p], [_], _, _, _, fun i => (bs[i]?).getD true, rfl, Walks.list (A := X.A.in1) (I.ok.hd hc) _ p (Nat.ne_of_lt hlt) _, ⟨⟨_, Heap.get?_push_size _ rfl, rfl, rfl⟩, hl.push _⟩, ?_, ?_⟩)
  · intro i v s' Q' E' hP hQ
    simp only [List.getElem?_toArray, List.getElem?_map, Option.map_eq_some_iff] at hP
    obtain ⟨b, e, rfl⟩ := hP
    simp only [e, Option.getD_some] at hQ
    exact wpAny_truthy_bool hQ
  · intro h' tk hk
    rw [List.size_toArray, List.length_map, rng_all]
    exact ⟨.bl _, H, I.kept (t' := tk) (iter_kept hk), rfl, q⟩
theorem call_anyR (hc : X.calm = true) : CallR X (.builtin "any") (fun xs H Q => ∃ (p : Addr) (bs : List Bool), xs = [.ref p] ∧ SqL X.K H p (bs.map V.bl) ∧ Q (.bl (bs.any id)) H) := by
  intro pins s σ H xs us Q I r h
  obtain ⟨p, bs, rfl, hq, q⟩ := h
  obtain ⟨u, rfl, rx⟩ := vals1 r
  cases rx
  obtain ⟨its, r', pl, hz⟩ := I.list hq
  obtain rfl := vals_bls r'
  have hl := pl.isList
  have hlt : p < s.heap.objs.size := by obtain ⟨_, e, _⟩ := hl; exact Heap.lt_size e
  refine call_any_walk (wpAny_pyIter_list hl ⟨_, [_, p], [_], _, _, _, fun i => (bs[i]?).getD false, rfl, Walks.list (A := X.A.in1) (I.ok.hd hc) _ p (Nat.ne_of_lt hlt) _, ⟨⟨_, Heap.get?_push_size _ rfl, rfl, rfl⟩, hl.push _⟩, ?_, ?_⟩)
  · intro i v s' Q' E' hP hQ
    simp only [List.getElem?_toArray, List.getElem?_map, Option.map_eq_some_iff] at hP
    obtain ⟨b, e, rfl⟩ := hP
    simp only [e, Option.getD_some] at hQ
    exact wpAny_truthy_bool hQ
  · intro h' tk hk
    rw [List.size_toArray, List.length_map, rng_any]
    exact ⟨.bl _, H, I.kept (t' := tk) (iter_kept hk), rfl, q⟩
theorem cm_all (hc : X.calm = true) : CallM X (.builtin "all") gAll := by
  refine ⟨_, call_allR hc, fun Z α F H μ ds c vs Q R hp hg k => ?_⟩
  match ds, hg with
  | [.lst xs], hg =>
    obtain ⟨v, r, rfl, ⟨q, us, rfl, hs, hr⟩, hq⟩ := hp
    have hq : r = [] := hq
    subst hq
    simp only [gAll, Option.map_eq_some_iff] at hg
    obtain ⟨bs, e, rfl⟩ := hg
    exact ⟨q, bs, rfl, by rw [← reps_bls hr e]; exact hs, k _ F H R (Same.refl _) (rep_bl _)⟩
theorem cm_any (hc : X.calm = true) : CallM X (.builtin "any") gAny := by
  refine ⟨_, call_anyR hc, fun Z α F H μ ds c vs Q R hp hg k => ?_⟩
  match ds, hg with
  | [.lst xs], hg =>
    obtain ⟨v, r, rfl, ⟨q, us, rfl, hs, hr⟩, hq⟩ := hp
    have hq : r = [] := hq
    subst hq
    simp only [gAny, Option.map_eq_some_iff] at hg
    obtain ⟨bs, e, rfl⟩ := hg
    exact ⟨q, bs, rfl, by rw [← reps_bls hr e]; exact hs, k _ F H R (Same.refl _) (rep_bl _)⟩
end
end M
set_option Elab.async false
set_option linter.all false
set_option maxRecDepth 100000
set_option maxHeartbeats 4000000
namespace M
open PySem PySem.Spec PyProof.Rows L2

/-! ### d.get(k, x) -/
def getD2 (a b x : D) : Option D := match a with
  | .dic ks vs => (keyD b).map fun k => (lookK ks vs k).getD x
  | _ => none
def isDic : D → Bool
  | .dic _ _ => true
  | _ => false
def mDGet2 (m mk mx : MX) : MX := fun ρ μ => (m ρ μ).bind fun d μ1 => if isDic (deref μ1 d) = true then (mk ρ μ1).bind fun k μ2 => (mx ρ μ2).bind fun x μ3 => ofO μ3 (getD2 (deref μ3 d) k x) else .bad
section
variable {X : Cx} {EX : EXT} {e a b c f : Expr} {pos : Pos} {m ma mb mc : MX} {es : List Expr}
theorem key_rep {K : PySem.W.Frag} {α : List Addr} {F : Hp} {d : D} {v : V} {k : DK} (h : Rep K F α d v) (e : keyD d = some k) : v = kV (dk k) := by
  cases d with
  | int i => cases e; unfold Rep at h; exact h
  | str x => cases e; unfold Rep at h; exact h
  | _ => cases e
theorem me_dget2 {apos cpos : Pos} (hu : X.A.units + 200 < cLine) (ha : ME X EX a ma) (hb : ME X EX b mb) (hc : ME X EX c mc) (m2 : L2.M2 X a "get" apos b c cpos) : ME X EX (.Call (.Attribute a "get" apos) [b, c] [] cpos) (mDGet2 ma mb mc) := by
  obtain ⟨ta, pa, sa⟩ := ha
  obtain ⟨tb, pb, sb⟩ := hb
  obtain ⟨tc, pc, sc⟩ := hc
  refine ⟨_, pe_dget2 (by omega) pa pb pc m2, fun Z α F H σ ρ μ Q R g => ?_⟩
  refine sa Z α F H σ ρ μ _ R (GE.step (G := GE X.K EX Z α F Q) g (fun _ _ h => h) (fun h => h) fun d μ1 v α1 F1 H1 R1 e1 p1 g1 => ?_)
  by_cases hd : isDic (deref μ1 d) = true
  · rw [if_pos hd] at g1
    have k1 := R1.pk p1
    cases hq : deref μ1 d with
    | dic ks vs =>
      rw [hq] at k1
      unfold Pk at k1
      obtain ⟨q, us, rfl, hs, hl, hr⟩ := k1
      refine ⟨q, rfl, .inl ⟨_, .inl hs⟩, ?_⟩
      refine sb Z α1 F1 H1 σ ρ μ1 _ (R.to R1 e1) (GE.step (G := GE X.K EX Z α F Q) g1 (fun _ _ h => h) (fun h => h) fun k μ2 vk α2 F2 H2 R2 e2 p2 g2 => ?_)
      refine sc Z α2 F2 H2 σ ρ μ2 _ (R.to R2 (e1.trans e2)) (GE.step (G := GE X.K EX Z α F Q) g2 (fun _ _ h => h) (fun h => h) fun x μ3 vx α3 F3 H3 R3 e3 p3 g3 => ?_)
      have k3 := R3.pk ((p1.mono e2).mono e3)
      cases hq3 : deref μ3 d with
      | dic ks3 ds3 =>
        rw [hq3] at k3 g3
        unfold Pk at k3
        obtain ⟨q3, us3, e3', hs3, hl3, hr3⟩ := k3
        cases e3'
        simp only [getD2] at g3
        cases hk : keyD k with
        | none => rw [hk] at g3; exact g3.elim
        | some kk =>
          rw [hk] at g3
          have hy := key_rep p2 hk
          subst hy
          refine ⟨_, DGet.k hs3, ?_⟩
          have g3 : GE X.K EX Z α F Q (.ok ((lookK ks3 ds3 kk).getD x) μ3) := g3
          rcases look_val (k := kk) hr3 hl3 with ⟨d', v', h1, h2, h3⟩ | ⟨h1, h2⟩
          · rw [h1] at g3
            rw [h2]
            exact g3 v' α3 F3 H3 R3 (e1.trans (e2.trans e3)) h3
          · rw [h1] at g3
            rw [h2]
            exact g3 vx α3 F3 H3 R3 (e1.trans (e2.trans e3)) p3
      | _ => rw [hq3] at g3; exact g3.elim
    | _ => rw [hq] at hd; cases hd
  · rw [if_neg hd] at g1; exact g1.elim

/-! ### a dict of the top, only read -/
def DictAt (w : World) (K : PySem.W.Frag) (mg : Str → Option Value) (x : Str) (ks : List DK) (ds : List D) : Prop :=
  ∃ p us vs, mg x = some (.ref p) ∧ (p == sysModules) = false ∧ (∀ (P : Program) (h : Heap), K.In h → h.DictOf (mixKind P w) p us) ∧ KV ((ks.map dk).zip vs) us ∧ ks.length = ds.length ∧ ∀ F α, Reps K F α ds vs
variable {x : Str} {ks : List DK} {ds : List D}
theorem me_cdget {p : Pos} (c : DictAt X.w X.K X.mg x ks ds) (hg : Gl X x) (hb : ME X EX b mb) (hs : NoSl b) (hd : (x == ("__debug__" : Str)) = false := by decide) : ME X EX (.Subscript (.Name x p) b pos) (mBin gDGet (mC (.dic ks ds)) mb) := by
  obtain ⟨q, us, vs, h1, h2, h3, h4, h5, h6⟩ := c
  obtain ⟨tb, pb, sb⟩ := hb
  refine ⟨fun σ H Q => tb σ H fun y H1 => ∃ k v, y = kV k ∧ valV ((ks.map dk).zip vs) k = some v ∧ Q v H1, fun pins s σ H Q I h => ?_, fun Z α F H σ ρ μ Q R g => ?_⟩
  · refine subD_of PySem.F.slot_dict_getitem.lookup hs (ld_glob I hg h1 (thn (pb pins s σ H _ I h) fun iv s2 ⟨y, H2, I2, ry, k, v, ey, hv, q2⟩ => ?_) hd)
    have dd := h3 X.prog _ I2.kIn
    refine ⟨dd.typeIs, ?_⟩
    subst ey
    obtain ⟨w', hw, rw'⟩ := RelO.some_of (v := v) (o := valueAt us k) (by rw [← hv]; exact h4.val k)
    exact wpAny_getItem_of (kV_is ry) dd.mapOf hw ⟨v, H2, I2.tok _, rw', q2⟩
  · refine sb Z α F H σ ρ μ _ R (GE.step (G := GE X.K EX Z α F Q) (show GE X.K EX Z α F Q ((mb ρ μ).bind fun d μ1 => ofO μ1 (gDGet (deref μ1 (.dic ks ds)) (deref μ1 d))) from g) (fun _ _ h => h) (fun h => h) fun d μ1 v α1 F1 H1 R1 e1 p1 g1 => ?_)
    simp only [deref_dic, gDGet] at g1
    cases hk : keyD (deref μ1 d) with
    | none => rw [hk] at g1; exact g1.elim
    | some kk =>
      rw [hk] at g1
      have hy := key_pk (R1.pk p1) hk
      rcases look_val (k := kk) (h6 F1 α1) h5 with ⟨d', v', l1, l2, l3⟩ | ⟨l1, l2⟩
      · have g1 : GE X.K EX Z α F Q (ofO μ1 (lookK ks ds kk)) := g1
        rw [l1] at g1
        exact ⟨_, v', hy, l2, g1 v' α1 F1 H1 R1 e1 l3⟩
      · have g1 : GE X.K EX Z α F Q (ofO μ1 (lookK ks ds kk)) := g1
        rw [l1] at g1
        exact g1.elim

def tCIn (neg : Bool) (kvs : List (Key × V)) (ta : TE) : TE := fun σ H Q => ta σ H fun y H1 => ∃ k, y = kV k ∧ Q (.bl (if neg then !(valV kvs k).isSome else (valV kvs k).isSome)) H1
theorem good_cin {neg : Bool} {ta : TE} {vs : List V} (h5 : ks.length = ds.length) (h6 : ∀ F α, Reps X.K F α ds vs) (sa : Good X EX ta ma) : Good X EX (tCIn neg ((ks.map dk).zip vs) ta) (mBin (gDIn neg) ma (mC (.dic ks ds))) := by
  intro Z α F H σ ρ μ Q R g
  refine sa Z α F H σ ρ μ _ R (GE.step (G := GE X.K EX Z α F Q) (show GE X.K EX Z α F Q ((ma ρ μ).bind fun d μ1 => ofO μ1 (gDIn neg (deref μ1 d) (deref μ1 (.dic ks ds)))) from g) (fun _ _ h => h) (fun h => h) fun d μ1 v α1 F1 H1 R1 e1 p1 g1 => ?_)
  simp only [deref_dic, gDIn] at g1
  cases hk : keyD (deref μ1 d) with
  | none => rw [hk] at g1; exact g1.elim
  | some kk =>
    rw [hk] at g1
    have hy := key_pk (R1.pk p1) hk
    refine ⟨_, hy, ?_⟩
    have g1 : GE X.K EX Z α F Q (.ok (.bl (if neg = true then !(lookK ks ds kk).isSome else (lookK ks ds kk).isSome)) μ1) := g1
    rcases look_val (k := kk) (h6 F1 α1) h5 with ⟨d', v', l1, l2, l3⟩ | ⟨l1, l2⟩
    · rw [l1] at g1
      rw [l2]
      exact g1 _ α1 F1 H1 R1 e1 (rep_bl _)
    · rw [l1] at g1
      rw [l2]
      exact g1 _ α1 F1 H1 R1 e1 (rep_bl _)
theorem pc_cin {p : Pos} {ta : TE} {q : Addr} {us : List (Key × Value)} {vs : List V} (h1 : X.mg x = some (.ref q)) (h2 : (q == sysModules) = false) (h3 : ∀ (P : Program) (h : Heap), X.K.In h → h.DictOf (mixKind P X.w) q us) (h4 : KV ((ks.map dk).zip vs) us) (hg : Gl X x) (hd : (x == ("__debug__" : Str)) = false)
    (pa : PE X a ta) : PC X .In a (.Name x p) (tCIn false ((ks.map dk).zip vs) ta) := by
  intro pins s σ H Q I h
  refine thn (pa pins s σ H _ I h) fun iv s1 ⟨y, H1, I1, ry, k, ey, q1⟩ => ld_glob I1 hg h1 ?_ hd
  subst ey
  have dd := h3 X.prog _ I1.kIn
  refine wpAny_in_of (kV_is ry) h2 dd.mapOf ?_
  rw [← (h4.val k).isSome_eq]
  exact ⟨.bl (valV ((ks.map dk).zip vs) k).isSome, H1, I1.tok _, rfl, q1⟩
theorem pc_cnin {p : Pos} {ta : TE} {q : Addr} {us : List (Key × Value)} {vs : List V} (h1 : X.mg x = some (.ref q)) (h2 : (q == sysModules) = false) (h3 : ∀ (P : Program) (h : Heap), X.K.In h → h.DictOf (mixKind P X.w) q us) (h4 : KV ((ks.map dk).zip vs) us) (hg : Gl X x) (hd : (x == ("__debug__" : Str)) = false)
    (pa : PE X a ta) : PC X .NotIn a (.Name x p) (tCIn true ((ks.map dk).zip vs) ta) := by
  intro pins s σ H Q I h
  refine thn (pa pins s σ H _ I h) fun iv s1 ⟨y, H1, I1, ry, k, ey, q1⟩ => ld_glob I1 hg h1 ?_ hd
  subst ey
  have dd := h3 X.prog _ I1.kIn
  refine wpAny_notIn_of (kV_is ry) h2 dd.mapOf ?_
  rw [← (h4.val k).isSome_eq]
  exact ⟨.bl (!(valV ((ks.map dk).zip vs) k).isSome), H1, I1.tok _, rfl, q1⟩
theorem me_cdin {p : Pos} (c : DictAt X.w X.K X.mg x ks ds) (hg : Gl X x) (ha : ME X EX a ma) (hd : (x == ("__debug__" : Str)) = false := by decide) : ME X EX (.Compare a [.In] [.Name x p] pos) (mBin (gDIn false) ma (mC (.dic ks ds))) := by
  obtain ⟨q, us, vs, h1, h2, h3, h4, h5, h6⟩ := c
  obtain ⟨ta, pa, sa⟩ := ha
  exact ⟨_, pe_cmp (pc_cin h1 h2 h3 h4 hg hd pa) rfl, good_cin h5 h6 sa⟩
theorem mt_cdin {p : Pos} (c : DictAt X.w X.K X.mg x ks ds) (hg : Gl X x) (ha : ME X EX a ma) (hd : (x == ("__debug__" : Str)) = false := by decide) : MT X EX (.Compare a [.In] [.Name x p] pos) (mTest (mBin (gDIn false) ma (mC (.dic ks ds)))) := by
  obtain ⟨q, us, vs, h1, h2, h3, h4, h5, h6⟩ := c
  obtain ⟨ta, pa, sa⟩ := ha
  exact ⟨_, pt_cmp (pc_cin h1 h2 h3 h4 hg hd pa) rfl, good_test (good_cin h5 h6 sa)⟩
theorem me_cdnotin {p : Pos} (c : DictAt X.w X.K X.mg x ks ds) (hg : Gl X x) (ha : ME X EX a ma) (hd : (x == ("__debug__" : Str)) = false := by decide) : ME X EX (.Compare a [.NotIn] [.Name x p] pos) (mBin (gDIn true) ma (mC (.dic ks ds))) := by
  obtain ⟨q, us, vs, h1, h2, h3, h4, h5, h6⟩ := c
  obtain ⟨ta, pa, sa⟩ := ha
  exact ⟨_, pe_cmp (pc_cnin h1 h2 h3 h4 hg hd pa) rfl, good_cin h5 h6 sa⟩
theorem mt_cdnotin {p : Pos} (c : DictAt X.w X.K X.mg x ks ds) (hg : Gl X x) (ha : ME X EX a ma) (hd : (x == ("__debug__" : Str)) = false := by decide) : MT X EX (.Compare a [.NotIn] [.Name x p] pos) (mTest (mBin (gDIn true) ma (mC (.dic ks ds)))) := by
  obtain ⟨q, us, vs, h1, h2, h3, h4, h5, h6⟩ := c
  obtain ⟨ta, pa, sa⟩ := ha
  exact ⟨_, pt_cmp (pc_cnin h1 h2 h3 h4 hg hd pa) rfl, good_test (good_cin h5 h6 sa)⟩

/-! ### what a comprehension's block reads off its scope -/
structure Cb (X : Cx) (N G : List Str) : Prop where
  hN : X.N = N
  nd : N.Nodup
  vis : ∀ x ∈ N, Vis X.env.scope x ∧ (x == ("__debug__" : Str)) = false ∧ (x == ("__classdict__" : Str)) = false
  gl : ∀ x ∈ G, Gl X x
  calm : X.calm = true
  un : X.A.units + 200 < cLine
end
section
variable {X : Cx} {EX : EXT} {N G : List Str}
theorem Cb.at (C : Cb X N G) {i : Nat} {x : Str} (h : N[i]? = some x) : X.N[i]? = some x := by rw [C.hN]; exact h
theorem Cb.ndX (C : Cb X N G) : X.N.Nodup := by rw [C.hN]; exact C.nd
theorem Cb.g (C : Cb X N G) (j : Nat) {x : Str} (h : G[j]? = some x) : Gl X x := C.gl x (mem_at h)
theorem svb (C : Cb X N G) (i : Nat) {x : Str} {pos : Pos} (h : N[i]? = some x) : ME X EX (.Name x pos) (mVar i) :=
  me_var (C.at h) (C.vis x (mem_at h)).1 (C.vis x (mem_at h)).2.1 (C.vis x (mem_at h)).2.2
theorem stb (C : Cb X N G) (i : Nat) {x : Str} {pos : Pos} (h : N[i]? = some x) (hl : X.env.scope.names.lookup x = some .local) : MTg X (.Name x pos) (gN i) := mt_name C.ndX (C.at h) (.inl hl) (.inr hl)
theorem relabel_of {env : Env} {scope : Scope} {x : Str} {k : NameKind} (hk : k ≠ .free) (h : scope.names.lookup x = some k) : (relabel scope env).names.lookup x = some k := by
  unfold relabel
  generalize scope.names = l at h
  simp only
  induction l with
  | nil => cases h
  | cons p r ih =>
    obtain ⟨n, q⟩ := p
    rw [List.lookup_cons] at h
    simp only [List.map_cons]
    by_cases e : (x == n) = true
    · rw [e] at h
      cases h
      rw [if_neg (by simp [hk]), List.lookup_cons, e]
    · have e' : (x == n) = false := by simpa using e
      rw [e'] at h
      have := ih h
      split
      · rw [List.lookup_cons, e']; exact this
      · rw [List.lookup_cons, e']; exact this
def blkB (sc : Scope) (T caps G : List Str) : Bool := T.all (fun x => sc.names.lookup x == some .local && !(x == ("__debug__" : Str)) && !(x == ("__classdict__" : Str))) && caps.all (fun x => sc.names.lookup x == some .free && !(x == ("__debug__" : Str)) && !(x == ("__classdict__" : Str))) && G.all fun x => sc.names.lookup x == some .globalImplicit
def compB (sc out : Scope) : Bool := sc.kind == .function && sc.names.all fun y => (match y.2 with
  | .cell => false
  | .local => sc.names.lookup y.1 == some .local
  | .free => out.names.lookup y.1 == some .cell || out.names.lookup y.1 == some .free
  | _ => true)
theorem compScope_of {scope : Scope} {env : Env} (h : compB scope env.scope = true) : CompScope scope env := by
  unfold compB at h
  rw [Bool.and_eq_true] at h
  have hk := h.1
  have ha := List.all_eq_true.mp h.2
  refine ⟨by simpa using hk, fun y hy e => ?_, fun y hy e => ?_, fun y hy e => ?_⟩
  · have := ha y hy; rw [e] at this; cases this
  · have := ha y hy; rw [e] at this; simpa using this
  · have := ha y hy
    rw [e] at this
    simpa [Env.kindOf] using this
def capsB (sc : Scope) (N caps : List Str) (ix : List Nat) : Bool := ix.length == caps.length && (caps.zip ix).all fun p => N[p.2]? == some p.1 && sc.names.lookup p.1 == some .free
theorem caps_of {scope : Scope} {T caps : List Str} {ix : List Nat} (hN : X.N = N) (h : capsB scope N caps ix = true) : Caps X scope T caps ix := by
  unfold capsB at h
  rw [Bool.and_eq_true] at h
  refine ⟨by simpa using h.1, fun j x i e1 e2 => ?_⟩
  have hm : (x, i) ∈ caps.zip ix := by
    refine List.mem_of_getElem? (i := j) ?_
    rw [List.getElem?_zip_eq_some]
    exact ⟨e1, e2⟩
  have := List.all_eq_true.mp h.2 (x, i) hm
  simp only [Bool.and_eq_true, beq_iff_eq] at this
  rw [hN]
  exact this
theorem cb_of {scope : Scope} {T caps : List Str} {C : Addr} {s : Shared} {H : Hp} {ex : List Addr} (hc : X.calm = true) (hu : X.A.units + 200 < cLine) (nd : (T ++ caps).Nodup) (h : blkB scope T caps G = true) : Cb (compCx X (T ++ caps) scope C s H ex) (T ++ caps) G := by
  unfold blkB at h
  rw [Bool.and_eq_true, Bool.and_eq_true] at h
  refine ⟨rfl, nd, fun x hx => ?_, fun x hx => ?_, hc, hu⟩
  · rcases List.mem_append.mp hx with hx | hx
    · have := List.all_eq_true.mp h.1.1 x hx
      simp only [Bool.and_eq_true, beq_iff_eq, Bool.not_eq_true'] at this
      exact ⟨.inl (relabel_of (by decide) this.1.1), this.1.2, this.2⟩
    · have := List.all_eq_true.mp h.1.2 x hx
      simp only [Bool.and_eq_true, beq_iff_eq, Bool.not_eq_true'] at this
      exact ⟨.inr (relabel_free this.1.1), this.1.2, this.2⟩
  · have := List.all_eq_true.mp h.2 x hx
    exact relabel_of (by decide) (by simpa using this)
theorem blk_loc {scope : Scope} {env : Env} {T caps : List Str} (h : blkB scope T caps G = true) {j : Nat} {x : Str} (e : T[j]? = some x) : (relabel scope env).names.lookup x = some .local := by
  unfold blkB at h
  rw [Bool.and_eq_true, Bool.and_eq_true] at h
  have := List.all_eq_true.mp h.1.1 x (mem_at e)
  simp only [Bool.and_eq_true, beq_iff_eq, Bool.not_eq_true'] at this
  exact relabel_of (by decide) this.1.1
/-- x = [.. for ..] -/
theorem sac (C : Ct X N G) (i : Nat) {x : Str} {pos pos' spos : Pos} {scope : Scope} {T caps : List Str} {ix : List Nat} {tg iter : Expr} {ifs : List Expr} {elt : Expr} {g : MG} {t : MB} {m : MX} {mi : MIt} (h : N[i]? = some x) (cs : CompScope scope X.env) (cp : Caps X scope T caps ix) (hcalm : X.calm = true) (hi : MI X EX tg iter mi)
    (hb : Blk X scope (T ++ caps) tg ifs elt g t m) (hsw : swapsWith (.ListComp elt [⟨tg, iter, ifs, 0⟩] scope pos) (some (.Name x pos')) spos.line X.env = pure true := by rfl) (hs : ∀ x, foldedSetIterable iter X.env x = pure x := by intro _; rfl) :
    MS X EX (.Assign [.Name x pos'] (.ListComp elt [⟨tg, iter, ifs, 0⟩] scope pos) spos) (mSet i (mComp T.length ix g mi t m)) :=
  ms_setC C.ndX (C.at h) (C.loc x (mem_at h)).1 (.inl (C.fn x)) cs cp hcalm hi hb hsw hs
end
end M
set_option Elab.async false
set_option linter.all false
set_option maxRecDepth 100000
set_option maxHeartbeats 4000000
namespace M
open PySem PySem.Spec PyProof.Rows L2
/-- a tuple that the written heap holds -/
theorem rep_tupK {K : PySem.W.Frag} {p : Addr} {od : Option Addr} {its : Array Value} {n : Nat} {sl : Array (Option Value)} {ds : List D} {vs : List V} {F : Hp} {α : List Addr} (l : K.lookup p = some ⟨.type "tuple", od, .seq its n, sl⟩) (hz : its.size ≤ 16777216) (hv : Vals vs its.toList) (hr : Reps K F α ds vs) : Rep K F α (.tup ds) (.ref p) := by
  unfold Rep
  exact ⟨p, vs, rfl, .inr ⟨_, its, n, l, rfl, rfl, by rw [sizeLine_eq]; exact hz, hv⟩, hr⟩
/-- the entries of a dict whose keys are texts -/
def entK (pr : Params) (x : List Nat × Nat × Addr) : DictEntry := ⟨PyData.keyHash pr ⟨x.1.toArray⟩, .str ⟨x.1.toArray⟩ x.2.1, .ref x.2.2⟩
theorem mem_entK {w : World} {xs : List (List Nat × Nat × Addr)} {e : DictEntry} (h : e ∈ xs.map (entK w.params)) (P : Program) : ∃ k, (mixKind P w).is k e.key = true ∧ e.hash = (mixKind P w).hash k := by
  obtain ⟨x, _, rfl⟩ := List.mem_map.mp h
  exact ⟨.inr ⟨x.1.toArray⟩, kV_is (P := P) (w := w) (k := .inr ⟨x.1.toArray⟩) (u := .str ⟨x.1.toArray⟩ x.2.1) ⟨x.2.1, rfl⟩, rfl⟩
theorem pairs_entK {w : World} (P : Program) : ∀ xs : List (List Nat × Nat × Addr), Pairs (mixKind P w) (xs.map (entK w.params)) (xs.map fun x => ((Sum.inr ⟨x.1.toArray⟩ : Key), Value.ref x.2.2))
  | [] => .nil
  | x :: xs => .cons (kV_is (P := P) (w := w) (k := .inr ⟨x.1.toArray⟩) (u := .str ⟨x.1.toArray⟩ x.2.1) ⟨x.2.1, rfl⟩) rfl (pairs_entK P xs)
theorem kv_entK : ∀ xs : List (List Nat × Nat × Addr), KV (((xs.map fun x => (.inr x.1 : DK)).map dk).zip (xs.map fun x => V.ref x.2.2)) (xs.map fun x => ((Sum.inr ⟨x.1.toArray⟩ : Key), Value.ref x.2.2))
  | [] => .nil
  | x :: xs => .cons ⟨rfl, rfl⟩ (kv_entK xs)
theorem nodup_entK : ∀ {xs : List (List Nat × Nat × Addr)}, (xs.map (·.1)).Nodup → ((xs.map fun x => ((Sum.inr ⟨x.1.toArray⟩ : Key), Value.ref x.2.2)).map (·.1)).Nodup
  | [], _ => List.nodup_nil
  | x :: xs, h => by
    rw [List.map_cons, List.nodup_cons] at h
    rw [List.map_cons, List.map_cons, List.nodup_cons]
    refine ⟨fun z => h.1 ?_, nodup_entK h.2⟩
    rw [List.map_map] at z
    obtain ⟨y, hy, e⟩ := List.mem_map.mp z
    have e2 : (⟨y.1.toArray⟩ : Str) = ⟨x.1.toArray⟩ := Sum.inr.inj e
    have e3 : y.1.toArray = x.1.toArray := by injection e2
    have e4 : y.1 = x.1 := by simpa using congrArg Array.toList e3
    exact List.mem_map.mpr ⟨y, hy, e4⟩
theorem dict_mk {w : World} {K : PySem.W.Frag} {mg : Str → Option Value} {h : Heap} {x : Str} {p : Addr} {ep : Nat} {ds : List D} (xs : List (List Nat × Nat × Addr)) (KX : K.In h) (G : h.Ns mainGlobals mg)
    (a : PySem.W.nsIn K mainGlobals x = some (some (.ref p))) (l : K.lookup p = some ⟨.type "dict", none, .dict (xs.map (entK w.params)).toArray ep, #[]⟩) (hp : (p == sysModules) = false) (nd : (xs.map (·.1)).Nodup)
    (hl : xs.length = ds.length) (hr : ∀ F α, Reps K F α ds (xs.map fun x => V.ref x.2.2)) : DictAt w K mg x (xs.map fun x => .inr x.1) ds := by
  refine ⟨p, _, _, PySem.W.mg_of KX G a, hp, fun P h' k' => ?_, kv_entK xs, by simpa using hl, hr⟩
  exact ⟨_, _, _, k' p _ l, ⟨rfl, rfl, rfl⟩, rfl, fun e he => mem_entK (by simpa using he) P, by simpa using pairs_entK P xs, nodup_entK nd⟩
end M
set_option Elab.async false
set_option linter.all false
set_option maxRecDepth 100000
set_option maxHeartbeats 4000000
/-! evaluation by terms: what a piece tells where its parts tell so -/
namespace M
open PySem PySem.Spec PyProof.Rows L2
variable {ρ : En} {μ μ1 μ2 : Mu} {m ma mb mc : MX} {ms : MAs} {t u : MB} {n a b r : MSt} {d x y z : D} {ds : List D} {k : Bool} {φ : Fn} {g : G2} {o : Out}
theorem v_var (i : Nat) (h : ρ[i]? = some (some d)) : mVar i ρ μ = .ok d μ := by unfold mVar; rw [h]
theorem v_bin (ha : ma ρ μ = .ok x μ1) (hb : mb ρ μ1 = .ok y μ2) (hg : g (deref μ2 x) (deref μ2 y) = some z) : mBin g ma mb ρ μ = .ok z μ2 := by unfold mBin; rw [ha, bind_ok, hb, bind_ok, hg]; rfl
theorem v_nil : mNil ρ μ = .ok [] μ := rfl
theorem v_cons (ha : m ρ μ = .ok d μ1) (hb : ms ρ μ1 = .ok ds μ2) : mCons m ms ρ μ = .ok (d :: ds) μ2 := by rw [e_cons, ha, bind_ok, e_cons1, hb, bind_ok, e_cons2]
theorem v_tup (h : ms ρ μ = .ok ds μ1) : mTup ms ρ μ = .ok (.tup ds) μ1 := by unfold mTup; rw [h]; rfl
theorem v_lst (h : ms ρ μ = .ok ds μ1) : mLst ms ρ μ = .ok (.lst ds) μ1 := by unfold mLst; rw [h]; rfl
theorem v_dic {ks : List DK} (h : ms ρ μ = .ok ds μ1) : mDic ks ms ρ μ = .ok (.dic ks ds) μ1 := by unfold mDic; rw [h]; rfl
theorem v_call (h : ms ρ μ = .ok ds μ1) (hf : φ ds μ1 = .ok d μ2) : mCall φ ms ρ μ = .ok d μ2 := by unfold mCall; rw [h, bind_ok, hf]; rfl
theorem v_callB {g : GL} (h : ms ρ μ = .ok ds μ1) (hf : g (ds.map (deref μ1)) = some d) : mCallB g ms ρ μ = .ok d μ1 := by unfold mCallB; rw [h, bind_ok, hf]; rfl
theorem v_test (h : m ρ μ = .ok (.bl k) μ1) : mTest m ρ μ = .ok k μ1 := by unfold mTest; rw [h]; rfl
theorem v_tru (h : m ρ μ = .ok d μ1) (ht : truD (deref μ1 d) = some k) : mTru m ρ μ = .ok k μ1 := by unfold mTru; rw [h, bind_ok, ht]; rfl
theorem v_not (h : t ρ μ = .ok k μ1) : mNot t ρ μ = .ok (!k) μ1 := by unfold mNot; rw [h]; rfl
theorem v_andT (h : t ρ μ = .ok true μ1) : mAnd t u ρ μ = u ρ μ1 := by unfold mAnd; rw [h]; rfl
theorem v_andF (h : t ρ μ = .ok false μ1) : mAnd t u ρ μ = .ok false μ1 := by unfold mAnd; rw [h]; rfl
theorem v_orT (h : t ρ μ = .ok true μ1) : mOr t u ρ μ = .ok true μ1 := by unfold mOr; rw [h]; rfl
theorem v_orF (h : t ρ μ = .ok false μ1) : mOr t u ρ μ = u ρ μ1 := by unfold mOr; rw [h]; rfl
theorem v_andVT (h : ma ρ μ = .ok (.bl true) μ1) : mAndV ma mb ρ μ = mb ρ μ1 := by unfold mAndV; rw [h]; rfl
theorem v_andVF (h : ma ρ μ = .ok (.bl false) μ1) : mAndV ma mb ρ μ = .ok (.bl false) μ1 := by unfold mAndV; rw [h]; rfl
theorem v_orVT (h : ma ρ μ = .ok (.bl true) μ1) : mOrV ma mb ρ μ = .ok (.bl true) μ1 := by unfold mOrV; rw [h]; rfl
theorem v_orVF (h : ma ρ μ = .ok (.bl false) μ1) : mOrV ma mb ρ μ = mb ρ μ1 := by unfold mOrV; rw [h]; rfl
theorem v_ifT (h : t ρ μ = .ok true μ1) : mIf t ma mb ρ μ = ma ρ μ1 := by unfold mIf; rw [h]; rfl
theorem v_ifF (h : t ρ μ = .ok false μ1) : mIf t ma mb ρ μ = mb ρ μ1 := by unfold mIf; rw [h]; rfl
theorem v_ret (h : m ρ μ = .ok d μ1) : mRet m ρ μ = .ok (.rt d) μ1 := by unfold mRet; rw [h]; rfl
theorem v_set (i : Nat) (h : m ρ μ = .ok d μ1) : mSeq (mSet i m) r ρ μ = r (ρ.set i (some d)) μ1 := by unfold mSeq mSet; rw [h]; rfl
theorem v_iteT (h : t ρ μ = .ok true μ1) : mIte t a b ρ μ = a ρ μ1 := by unfold mIte; rw [h]; rfl
theorem v_iteF (h : t ρ μ = .ok false μ1) : mIte t a b ρ μ = b ρ μ1 := by unfold mIte; rw [h]; rfl
theorem v_seqN {ρ1 : En} (h : n ρ μ = .ok (.nx ρ1) μ1) : mSeq n r ρ μ = r ρ1 μ1 := by unfold mSeq; rw [h]; rfl
theorem v_seqR (h : n ρ μ = .ok (.rt d) μ1) : mSeq n r ρ μ = .ok (.rt d) μ1 := by unfold mSeq; rw [h]; rfl
/-- if ..: return .., not taken; taken -/
theorem v_skip (h : t ρ μ = .ok false μ1) : mSeq (mIte t a mSkip) r ρ μ = r ρ μ1 := v_seqN (v_iteF h)
theorem v_take (h : t ρ μ = .ok true μ1) (hm : m ρ μ1 = .ok d μ2) : mSeq (mIte t (mRet m) b) r ρ μ = .ok (.rt d) μ2 := v_seqR ((v_iteT h).trans (v_ret hm))
theorem v_fn (j : Nat) (h : n (ds.map some ++ List.replicate j none) μ = .ok (.rt d) μ1) : fnOf j n ds μ = .ok d μ1 := by rw [e_fnOf, h]; rfl
theorem v_forN (i : Nat) {ρ1 : En} (h : n (ρ.set i (some d)) μ = .ok (.nx ρ1) μ1) : forGo (gN i) n (d :: ds) ρ μ = forGo (gN i) n ds ρ1 μ1 := by rw [e_forCons, h]; rfl
theorem v_forR (i : Nat) (h : n (ρ.set i (some d)) μ = .ok (.rt x) μ1) : forGo (gN i) n (d :: ds) ρ μ = .ok (.rt x) μ1 := by rw [e_forCons, h]; rfl
/-- a truth that is not known -/
theorem v_andVB {k k2 : Bool} (h : ma ρ μ = .ok (.bl k) μ) (h2 : mb ρ μ = .ok (.bl k2) μ) : mAndV ma mb ρ μ = .ok (.bl (k && k2)) μ := by
  cases k
  · exact v_andVF h
  · rw [v_andVT h, h2]; rfl
theorem v_orVB {k k2 : Bool} (h : ma ρ μ = .ok (.bl k) μ) (h2 : mb ρ μ = .ok (.bl k2) μ) : mOrV ma mb ρ μ = .ok (.bl (k || k2)) μ := by
  cases k
  · rw [v_orVF h, h2]; rfl
  · exact v_orVT h
/-- one of a list, by a rest -/
theorem v_pick {L : List D} {i : Int} {n : Nat} (h : ms ρ μ = .ok L μ) (hi : m ρ μ = .ok (.int i) μ) (hl : L.length = n) (h0 : 0 < n) : ∃ d ∈ L, mBin gIdx (mLst ms) (mBin gMod m (mC (.int n))) ρ μ = .ok d μ := by
  have h1 : mBin gMod m (mC (.int n)) ρ μ = .ok (.int (i % n)) μ := v_bin hi rfl (g_mod i n (by omega))
  have hk : (i % n).toNat < L.length := by
    have a1 := Int.emod_nonneg i (b := (n : Int)) (by omega)
    have a2 := Int.emod_lt_of_pos i (b := (n : Int)) (by omega)
    omega
  refine ⟨L[(i % n).toNat], List.getElem_mem hk, v_bin (v_lst h) h1 ?_⟩
  show atI L (i % n) = _
  rw [atI_pos (Int.emod_nonneg _ (by omega)), List.getElem?_eq_getElem hk]
end M
set_option Elab.async false
set_option linter.all false
set_option maxRecDepth 100000
set_option maxHeartbeats 4000000
namespace K02
open PySem PySem.Spec PyProof.Rows L2 M
def top (i : Nat) : Stmt := PySem.Challenge.pw_netsieve_k02_steps.main.body.getD i (.Pass ⟨0, 0, 0, 0⟩)
abbrev s_cell : Stmt := top 19
abbrev s_mix : Stmt := top 20
abbrev s_k : Stmt := top 23
abbrev s_op : Stmt := top 24
abbrev s_step : Stmt := top 25
abbrev s_p_is_whole : Stmt := top 6
abbrev s_p_is_number : Stmt := top 7
abbrev s_p_is_part : Stmt := top 16
abbrev s_p_can_be_done_by : Stmt := top 17
abbrev s_p_is_step : Stmt := top 15
abbrev s_whole : Stmt := top 21
abbrev s_number : Stmt := top 28
abbrev s_word : Stmt := top 29
abbrev s_is_step : Stmt := top 30
abbrev s_law : Stmt := top 31
def w_load : List Nat := [108, 111, 97, 100]
theorem w_load_eq : (Str.ofString "load") = ⟨w_load.toArray⟩ := by decide +kernel
def w_at : List Nat := [97, 116]
theorem w_at_eq : (Str.ofString "at") = ⟨w_at.toArray⟩ := by decide +kernel
def w_x : List Nat := [120]
theorem w_x_eq : (Str.ofString "x") = ⟨w_x.toArray⟩ := by decide +kernel
def w_len : List Nat := [108, 101, 110]
theorem w_len_eq : (Str.ofString "len") = ⟨w_len.toArray⟩ := by decide +kernel
def w_tax : List Nat := [116, 97, 120]
theorem w_tax_eq : (Str.ofString "tax") = ⟨w_tax.toArray⟩ := by decide +kernel
def w_txa : List Nat := [116, 120, 97]
theorem w_txa_eq : (Str.ofString "txa") = ⟨w_txa.toArray⟩ := by decide +kernel
def w_tella : List Nat := [116, 101, 108, 108, 97]
theorem w_tella_eq : (Str.ofString "tella") = ⟨w_tella.toArray⟩ := by decide +kernel
def w_set : List Nat := [115, 101, 116]
theorem w_set_eq : (Str.ofString "set") = ⟨w_set.toArray⟩ := by decide +kernel
def w_setx : List Nat := [115, 101, 116, 120]
theorem w_setx_eq : (Str.ofString "setx") = ⟨w_setx.toArray⟩ := by decide +kernel
def w_keep : List Nat := [107, 101, 101, 112]
theorem w_keep_eq : (Str.ofString "keep") = ⟨w_keep.toArray⟩ := by decide +kernel
def w_fetch : List Nat := [102, 101, 116, 99, 104]
theorem w_fetch_eq : (Str.ofString "fetch") = ⟨w_fetch.toArray⟩ := by decide +kernel
def w_plus : List Nat := [112, 108, 117, 115]
theorem w_plus_eq : (Str.ofString "plus") = ⟨w_plus.toArray⟩ := by decide +kernel
def w_minus : List Nat := [109, 105, 110, 117, 115]
theorem w_minus_eq : (Str.ofString "minus") = ⟨w_minus.toArray⟩ := by decide +kernel
def w_times : List Nat := [116, 105, 109, 101, 115]
theorem w_times_eq : (Str.ofString "times") = ⟨w_times.toArray⟩ := by decide +kernel
def w_over : List Nat := [111, 118, 101, 114]
theorem w_over_eq : (Str.ofString "over") = ⟨w_over.toArray⟩ := by decide +kernel
def w_rest : List Nat := [114, 101, 115, 116]
theorem w_rest_eq : (Str.ofString "rest") = ⟨w_rest.toArray⟩ := by decide +kernel
def w_and : List Nat := [97, 110, 100]
theorem w_and_eq : (Str.ofString "and") = ⟨w_and.toArray⟩ := by decide +kernel
def w_or : List Nat := [111, 114]
theorem w_or_eq : (Str.ofString "or") = ⟨w_or.toArray⟩ := by decide +kernel
def w_xor : List Nat := [120, 111, 114]
theorem w_xor_eq : (Str.ofString "xor") = ⟨w_xor.toArray⟩ := by decide +kernel
def w_left : List Nat := [108, 101, 102, 116]
theorem w_left_eq : (Str.ofString "left") = ⟨w_left.toArray⟩ := by decide +kernel
def w_right : List Nat := [114, 105, 103, 104, 116]
theorem w_right_eq : (Str.ofString "right") = ⟨w_right.toArray⟩ := by decide +kernel
def w_do : List Nat := [100, 111]
theorem w_do_eq : (Str.ofString "do") = ⟨w_do.toArray⟩ := by decide +kernel
def w_dox : List Nat := [100, 111, 120]
theorem w_dox_eq : (Str.ofString "dox") = ⟨w_dox.toArray⟩ := by decide +kernel
def w_jump : List Nat := [106, 117, 109, 112]
theorem w_jump_eq : (Str.ofString "jump") = ⟨w_jump.toArray⟩ := by decide +kernel
def w_equal : List Nat := [101, 113, 117, 97, 108]
theorem w_equal_eq : (Str.ofString "equal") = ⟨w_equal.toArray⟩ := by decide +kernel
def w_above : List Nat := [97, 98, 111, 118, 101]
theorem w_above_eq : (Str.ofString "above") = ⟨w_above.toArray⟩ := by decide +kernel
def w_least : List Nat := [108, 101, 97, 115, 116]
theorem w_least_eq : (Str.ofString "least") = ⟨w_least.toArray⟩ := by decide +kernel
def w_any : List Nat := [97, 110, 121]
theorem w_any_eq : (Str.ofString "any") = ⟨w_any.toArray⟩ := by decide +kernel
def w_if : List Nat := [105, 102]
theorem w_if_eq : (Str.ofString "if") = ⟨w_if.toArray⟩ := by decide +kernel
def w_ifx : List Nat := [105, 102, 120]
theorem w_ifx_eq : (Str.ofString "ifx") = ⟨w_ifx.toArray⟩ := by decide +kernel
def w_tell : List Nat := [116, 101, 108, 108]
theorem w_tell_eq : (Str.ofString "tell") = ⟨w_tell.toArray⟩ := by decide +kernel
def w_y : List Nat := [121]
theorem w_y_eq : (Str.ofString "y") = ⟨w_y.toArray⟩ := by decide +kernel
def w_mod : List Nat := [109, 111, 100]
theorem w_mod_eq : (Str.ofString "mod") = ⟨w_mod.toArray⟩ := by decide +kernel
def w_like : List Nat := [108, 105, 107, 101]
theorem w_like_eq : (Str.ofString "like") = ⟨w_like.toArray⟩ := by decide +kernel
def w34 : List Nat := []
theorem w34_eq : (Str.ofString "") = ⟨w34.toArray⟩ := by decide +kernel
def w_size : List Nat := [115, 105, 122, 101]
theorem w_size_eq : (Str.ofString "size") = ⟨w_size.toArray⟩ := by decide +kernel
def w_base : List Nat := [98, 97, 115, 101]
theorem w_base_eq : (Str.ofString "base") = ⟨w_base.toArray⟩ := by decide +kernel
def w_number : List Nat := [110, 117, 109, 98, 101, 114]
theorem w_number_eq : (Str.ofString "number") = ⟨w_number.toArray⟩ := by decide +kernel
def w_slot : List Nat := [115, 108, 111, 116]
theorem w_slot_eq : (Str.ofString "slot") = ⟨w_slot.toArray⟩ := by decide +kernel
def w_op : List Nat := [111, 112]
theorem w_op_eq : (Str.ofString "op") = ⟨w_op.toArray⟩ := by decide +kernel
def w_distance : List Nat := [100, 105, 115, 116, 97, 110, 99, 101]
theorem w_distance_eq : (Str.ofString "distance") = ⟨w_distance.toArray⟩ := by decide +kernel
def w_test : List Nat := [116, 101, 115, 116]
theorem w_test_eq : (Str.ofString "test") = ⟨w_test.toArray⟩ := by decide +kernel
def w_zak : List Nat := [122, 97, 107]
theorem w_zak_eq : (Str.ofString "zak") = ⟨w_zak.toArray⟩ := by decide +kernel
def w_k : List Nat := [107]
theorem w_k_eq : (Str.ofString "k") = ⟨w_k.toArray⟩ := by decide +kernel
def w_s : List Nat := [115]
theorem w_s_eq : (Str.ofString "s") = ⟨w_s.toArray⟩ := by decide +kernel
def w_ok : List Nat := [111, 107]
theorem w_ok_eq : (Str.ofString "ok") = ⟨w_ok.toArray⟩ := by decide +kernel
def w_o : List Nat := [111]
theorem w_o_eq : (Str.ofString "o") = ⟨w_o.toArray⟩ := by decide +kernel
def w_n : List Nat := [110]
theorem w_n_eq : (Str.ofString "n") = ⟨w_n.toArray⟩ := by decide +kernel
def w_tknn : List Nat := [116, 107, 110, 110]
theorem w_tknn_eq : (Str.ofString "tknn") = ⟨w_tknn.toArray⟩ := by decide +kernel
def w_tnn : List Nat := [116, 110, 110]
theorem w_tnn_eq : (Str.ofString "tnn") = ⟨w_tnn.toArray⟩ := by decide +kernel
def w_t : List Nat := [116]
theorem w_t_eq : (Str.ofString "t") = ⟨w_t.toArray⟩ := by decide +kernel
def w_a : List Nat := [97]
theorem w_a_eq : (Str.ofString "a") = ⟨w_a.toArray⟩ := by decide +kernel
def w_z : List Nat := [122]
theorem w_z_eq : (Str.ofString "z") = ⟨w_z.toArray⟩ := by decide +kernel
def ks_PARTS : List DK := [.inr w_load, .inr w_len, .inr w_set, .inr w_setx, .inr w_tax, .inr w_txa, .inr w_keep, .inr w_fetch, .inr w_do, .inr w_dox, .inr w_jump, .inr w_if, .inr w_ifx, .inr w_tell, .inr w_tella]
def ds_PARTS : List D := [(.tup [(.str w_size), (.str w_base), (.str w_number)]), (.tup []), (.tup [(.str w_number)]), (.tup [(.str w_number)]), (.tup []), (.tup []), (.tup [(.str w_slot)]), (.tup [(.str w_slot)]), (.tup [(.str w_op), (.str w_number)]), (.tup [(.str w_op)]), (.tup [(.str w_distance)]), (.tup [(.str w_test), (.str w_number), (.str w_distance), (.str w_distance)]), (.tup [(.str w_test), (.str w_distance), (.str w_distance)]), (.tup [(.str w_number)]), (.tup [])]
def c_ROUND : D := (.int 4294967296)
def c_SIZES : D := (.tup [(.int 1), (.int 2), (.int 4)])
def c_SLOTS : D := (.int 8)
def c_FARTHEST : D := (.int 2000)
def c_BASES : D := (.tup [(.str w_at), (.str w_x)])
def c_OPS : D := (.tup [(.str w_plus), (.str w_minus), (.str w_times), (.str w_over), (.str w_rest), (.str w_and), (.str w_or), (.str w_xor), (.str w_left), (.str w_right)])
def c_TESTS : D := (.tup [(.str w_equal), (.str w_above), (.str w_least), (.str w_any)])
def c_DIVIDING : D := (.tup [(.str w_over), (.str w_rest)])
def c_SHIFTING : D := (.tup [(.str w_left), (.str w_right)])
def c_WIDTH : D := (.int 32)
def b_cell : MSt := (mSeq (mIte (mTru (mVar 0))
    (mRet (mBin gIdx (mVar 0) (mBin gMod (mVar 1) (mCallB gLen (mCons (mVar 0) mNil)))))
    mSkip)
    (mRet (mC (.int 0))))
def f_cell : Fn := fnOf 0 b_cell
def b_mix : MSt := (mSeq (mSet 2 (mBin gMod (mBin gAdd (mCall f_cell (mCons (mVar 0) (mCons (mVar 1) mNil))) (mBin gMul (mC (.int 104729)) (mBin gAdd (mVar 1) (mC (.int 1))))) (mC (.int 4294967291))))
    (mSeq (mSet 2 (mBin gMod (mBin gMul (mVar 2) (mC (.int 48271))) (mC (.int 4294967279))))
    (mRet (mBin gMod (mBin gAdd (mBin gMul (mBin gDiv (mVar 2) (mC (.int 64))) (mC (.int 69621))) (mVar 2)) (mC (.int 4294967231))))))
def f_mix : Fn := fnOf 1 b_mix
def b_k : MSt := (mSeq (mSet 1 (mLst (mCons (mC (.int 0)) (mCons (mC (.int 1)) (mCons (mC (.int 2)) (mCons (mC (.int 7)) (mCons (mC (.int 31)) (mCons (mC (.int 32)) (mCons (mC (.int 255)) (mCons (mC (.int 256)) (mCons (mC (.int 65535)) (mCons (mC (.int 2147483648)) (mCons (mC (.int 4294967295)) (mCons (mC (.int 12)) mNil))))))))))))))
    (mRet (mIf (mTest (mBin gGt (mBin gMod (mVar 0) (mC (.int 4))) (mC (.int 0)))) (mBin gIdx (mVar 1) (mBin gMod (mBin gDiv (mVar 0) (mC (.int 4))) (mC (.int 12)))) (mBin gMod (mBin gDiv (mVar 0) (mC (.int 4))) (mC (.int 4294967296))))))
def f_k : Fn := fnOf 1 b_k
def b_op : MSt := (mRet (mBin gIdx (mLst (mCons (mC (.str w_plus)) (mCons (mC (.str w_minus)) (mCons (mC (.str w_times)) (mCons (mC (.str w_over)) (mCons (mC (.str w_rest)) (mCons (mC (.str w_and)) (mCons (mC (.str w_or)) (mCons (mC (.str w_xor)) (mCons (mC (.str w_left)) (mCons (mC (.str w_right)) mNil))))))))))) (mBin gMod (mVar 0) (mC (.int 10)))))
def f_op : Fn := fnOf 0 b_op
def b_step : MSt := (mSeq (mSet 3 (mCall f_mix (mCons (mVar 0) (mCons (mVar 1) mNil))))
    (mSeq (mSet 4 (mCall f_k (mCons (mCall f_mix (mCons (mVar 0) (mCons (mBin gAdd (mVar 1) (mC (.int 1))) mNil))) mNil)))
    (mSeq (mSet 5 (mBin gMod (mVar 3) (mC (.int 18))))
    (mSeq (mSet 6 (mBin gIdx (mLst (mCons (mC (.int 0)) (mCons (mC (.int 1)) (mCons (mC (.int 2)) (mCons (mC (.int 5)) (mCons (mC (.int 13)) (mCons (mC (.int 19)) mNil))))))) (mBin gMod (mBin gDiv (mVar 3) (mC (.int 18))) (mC (.int 6)))))
    (mSeq (mSet 7 (mBin gMod (mCall f_mix (mCons (mVar 0) (mCons (mBin gAdd (mVar 1) (mC (.int 2))) mNil))) (mCallB gMax (mCons (mC (.int 1)) (mCons (mVar 2) mNil)))))
    (mSeq (mSet 8 (mBin gMod (mCall f_mix (mCons (mVar 0) (mCons (mBin gAdd (mVar 1) (mC (.int 3))) mNil))) (mCallB gMax (mCons (mC (.int 1)) (mCons (mVar 2) mNil)))))
    (mSeq (mIte (mTest (mBin gLt (mVar 5) (mC (.int 3))))
    (mRet (mTup (mCons (mC (.str w_load)) (mCons (mBin gIdx (mLst (mCons (mC (.int 1)) (mCons (mC (.int 2)) (mCons (mC (.int 4)) mNil)))) (mBin gMod (mBin gDiv (mVar 3) (mC (.int 18))) (mC (.int 3)))) (mCons (mBin gIdx (mLst (mCons (mC (.str w_at)) (mCons (mC (.str w_x)) mNil))) (mBin gMod (mBin gDiv (mVar 3) (mC (.int 54))) (mC (.int 2)))) (mCons (mIf (mTru (mBin gMod (mBin gDiv (mVar 3) (mC (.int 108))) (mC (.int 5)))) (mVar 6) (mVar 4)) mNil))))))
    mSkip)
    (mSeq (mIte (mTest (mBin gLt (mVar 5) (mC (.int 5))))
    (mRet (mBin gIdx (mLst (mCons (mTup (mCons (mC (.str w_len)) mNil)) (mCons (mTup (mCons (mC (.str w_tax)) mNil)) (mCons (mTup (mCons (mC (.str w_txa)) mNil)) (mCons (mTup (mCons (mC (.str w_tella)) mNil)) mNil))))) (mBin gMod (mBin gDiv (mVar 3) (mC (.int 18))) (mC (.int 4)))))
    mSkip)
    (mSeq (mIte (mTest (mBin gLt (mVar 5) (mC (.int 7))))
    (mRet (mTup (mCons (mBin gIdx (mLst (mCons (mC (.str w_set)) (mCons (mC (.str w_setx)) mNil))) (mBin gSub (mVar 5) (mC (.int 5)))) (mCons (mVar 4) mNil))))
    mSkip)
    (mSeq (mIte (mTest (mBin gLt (mVar 5) (mC (.int 9))))
    (mRet (mTup (mCons (mBin gIdx (mLst (mCons (mC (.str w_keep)) (mCons (mC (.str w_fetch)) mNil))) (mBin gSub (mVar 5) (mC (.int 7)))) (mCons (mBin gMod (mBin gDiv (mVar 3) (mC (.int 18))) (mC (.int 3))) mNil))))
    mSkip)
    (mSeq (mIte (mTest (mBin gLt (mVar 5) (mC (.int 11))))
    (mSeq (mSet 9 (mCall f_op (mCons (mBin gDiv (mVar 3) (mC (.int 18))) mNil)))
    (mSeq (mIte (mTest (mBin gIn (mVar 9) (mTup (mCons (mC (.str w_over)) (mCons (mC (.str w_rest)) (mCons (mC (.str w_left)) (mCons (mC (.str w_right)) mNil)))))))
    (mSet 4 (mBin gAdd (mC (.int 1)) (mBin gMod (mVar 4) (mC (.int 31)))))
    mSkip)
    (mRet (mTup (mCons (mC (.str w_do)) (mCons (mVar 9) (mCons (mVar 4) mNil)))))))
    mSkip)
    (mSeq (mIte (mTest (mBin gEq (mVar 5) (mC (.int 11))))
    (mRet (mTup (mCons (mC (.str w_dox)) (mCons (mCall f_op (mCons (mBin gDiv (mVar 3) (mC (.int 18))) mNil)) mNil))))
    mSkip)
    (mSeq (mIte (mTest (mBin gEq (mVar 5) (mC (.int 12))))
    (mRet (mTup (mCons (mC (.str w_jump)) (mCons (mVar 7) mNil))))
    mSkip)
    (mSeq (mSet 10 (mBin gIdx (mLst (mCons (mC (.str w_equal)) (mCons (mC (.str w_above)) (mCons (mC (.str w_least)) (mCons (mC (.str w_any)) mNil))))) (mBin gMod (mBin gDiv (mVar 3) (mC (.int 18))) (mC (.int 4)))))
    (mSeq (mIte (mTest (mBin gLt (mVar 5) (mC (.int 15))))
    (mRet (mTup (mCons (mC (.str w_if)) (mCons (mVar 10) (mCons (mIf (mTru (mBin gMod (mBin gDiv (mVar 3) (mC (.int 72))) (mC (.int 2)))) (mVar 4) (mVar 6)) (mCons (mVar 7) (mCons (mVar 8) mNil)))))))
    mSkip)
    (mSeq (mIte (mTest (mBin gEq (mVar 5) (mC (.int 15))))
    (mRet (mTup (mCons (mC (.str w_ifx)) (mCons (mVar 10) (mCons (mVar 7) (mCons (mVar 8) mNil))))))
    mSkip)
    (mRet (mIf (mTest (mBin gEq (mVar 5) (mC (.int 16)))) (mTup (mCons (mC (.str w_tell)) (mCons (mVar 4) mNil))) (mTup (mCons (mC (.str w_keep)) (mCons (mBin gMod (mBin gDiv (mVar 3) (mC (.int 18))) (mC (.int 3))) mNil)))))))))))))))))))))
def f_step : Fn := fnOf 8 b_step
def b_p_is_whole : MSt := (mRet (mAndV (mIsI .int (mVar 0)) (mNotV (mIsI .bool (mVar 0)))))
def f_p_is_whole : Fn := fnOf 0 b_p_is_whole
def b_p_is_number : MSt := (mRet (mAndV (mCall f_p_is_whole (mCons (mVar 0) mNil)) (mChain gLe gLt (mC (.int 0)) (mVar 0) (mC c_ROUND))))
def f_p_is_number : Fn := fnOf 0 b_p_is_number
def b_p_is_part : MSt := (mSeq (mIte (mTest (mBin gEq (mVar 0) (mC (.str w_number))))
    (mRet (mCall f_p_is_number (mCons (mVar 1) mNil)))
    mSkip)
    (mSeq (mIte (mTest (mBin gEq (mVar 0) (mC (.str w_size))))
    (mRet (mAndV (mCall f_p_is_whole (mCons (mVar 1) mNil)) (mBin gIn (mVar 1) (mC c_SIZES))))
    mSkip)
    (mSeq (mIte (mTest (mBin gEq (mVar 0) (mC (.str w_slot))))
    (mRet (mAndV (mCall f_p_is_whole (mCons (mVar 1) mNil)) (mChain gLe gLt (mC (.int 0)) (mVar 1) (mC c_SLOTS))))
    mSkip)
    (mSeq (mIte (mTest (mBin gEq (mVar 0) (mC (.str w_distance))))
    (mRet (mAndV (mCall f_p_is_whole (mCons (mVar 1) mNil)) (mChain gLe gLe (mC (.int 0)) (mVar 1) (mC c_FARTHEST))))
    mSkip)
    (mSeq (mIte (mTest (mBin gEq (mVar 0) (mC (.str w_base))))
    (mRet (mBin gIn (mVar 1) (mC c_BASES)))
    mSkip)
    (mSeq (mIte (mTest (mBin gEq (mVar 0) (mC (.str w_op))))
    (mRet (mBin gIn (mVar 1) (mC c_OPS)))
    mSkip)
    (mRet (mBin gIn (mVar 1) (mC c_TESTS)))))))))
def f_p_is_part : Fn := fnOf 0 b_p_is_part
def b_p_can_be_done_by : MSt := (mSeq (mIte (mTest (mBin gIn (mVar 0) (mC c_DIVIDING)))
    (mRet (mBin gNe (mVar 1) (mC (.int 0))))
    mSkip)
    (mSeq (mIte (mTest (mBin gIn (mVar 0) (mC c_SHIFTING)))
    (mRet (mBin gLt (mVar 1) (mC c_WIDTH)))
    mSkip)
    (mRet (mC (.bl true)))))
def f_p_can_be_done_by : Fn := fnOf 0 b_p_can_be_done_by
def b_p_is_step : MSt := (mSeq (mIte (mOr (mNot (mTru (mIsI .tuple (mVar 0)))) (mTest (mBin gEq (mCallB gLen (mCons (mVar 0) mNil)) (mC (.int 0)))))
    (mRet (mC (.bl false)))
    mSkip)
    (mSeq (mIte (mOr (mNot (mTru (mIsI .str (mBin gIdx (mVar 0) (mC (.int 0)))))) (mTest (mBin (gDIn true) (mBin gIdx (mVar 0) (mC (.int 0))) (mC (.dic ks_PARTS ds_PARTS)))))
    (mRet (mC (.bl false)))
    mSkip)
    (mSeq (mSet 1 (mBin gDGet (mC (.dic ks_PARTS ds_PARTS)) (mBin gIdx (mVar 0) (mC (.int 0)))))
    (mSeq (mIte (mTest (mBin gNe (mCallB gLen (mCons (mVar 0) mNil)) (mBin gAdd (mC (.int 1)) (mCallB gLen (mCons (mVar 1) mNil)))))
    (mRet (mC (.bl false)))
    mSkip)
    (mSeq (mIte (mNot (mTru (mCallB gAll (mCons (mComp 2 [] (gTupT (gsCons (gN 0) (gsCons (gN 1) gsNil))) (mZip true true (mVar 1) (mSl (mVar 0) (mPart (mC (.int 1))) mNoP)) mTT (mCall f_p_is_part (mCons (mVar 0) (mCons (mVar 1) mNil)))) mNil))))
    (mRet (mC (.bl false)))
    mSkip)
    (mRet (mOrV (mBin gNe (mBin gIdx (mVar 0) (mC (.int 0))) (mC (.str w_do))) (mCall f_p_can_be_done_by (mCons (mBin gIdx (mVar 0) (mC (.int 1))) (mCons (mBin gIdx (mVar 0) (mC (.int 2))) mNil))))))))))
def f_p_is_step : Fn := fnOf 1 b_p_is_step
def b_whole : MSt := (mRet (mAndV (mIsI .int (mVar 0)) (mNotV (mIsI .bool (mVar 0)))))
def f_whole : Fn := fnOf 0 b_whole
def b_number : MSt := (mRet (mAndV (mCall f_whole (mCons (mVar 0) mNil)) (mChain gLe gLe (mC (.int 0)) (mVar 0) (mVar 1))))
def f_number : Fn := fnOf 0 b_number
def b_word : MSt := (mRet (mAndV (mIsI .str (mVar 0)) (mBin gIn (mVar 0) (mVar 1))))
def f_word : Fn := fnOf 0 b_word
def l_is_step_1 : MSt := (mSeq (mSet 6 (mBin gIdx (mVar 0) (mBin gAdd (mVar 5) (mC (.int 1)))))
    (mSeq (mSet 7 (mBin gDGet (mDic [.inr w_z, .inr w_a, .inr w_k, .inr w_s, .inr w_n, .inr w_o, .inr w_t] (mCons (mAndV (mCall f_number (mCons (mVar 6) (mCons (mC (.int 4)) mNil))) (mBin gIn (mVar 6) (mTup (mCons (mC (.int 1)) (mCons (mC (.int 2)) (mCons (mC (.int 4)) mNil)))))) (mCons (mCall f_word (mCons (mVar 6) (mCons (mLst (mCons (mC (.str w_at)) (mCons (mC (.str w_x)) mNil))) mNil))) (mCons (mCall f_number (mCons (mVar 6) (mCons (mC (.int 4294967295)) mNil))) (mCons (mCall f_number (mCons (mVar 6) (mCons (mC (.int 7)) mNil))) (mCons (mCall f_number (mCons (mVar 6) (mCons (mC (.int 2000)) mNil))) (mCons (mCall f_word (mCons (mVar 6) (mCons (mVar 1) mNil))) (mCons (mCall f_word (mCons (mVar 6) (mCons (mVar 2) mNil))) mNil)))))))) (mBin gIdx (mVar 4) (mVar 5))))
    (mIte (mNot (mTru (mVar 7)))
    (mRet (mC (.bl false)))
    mSkip)))
def b_is_step : MSt := (mSeq (mSet 1 (mLst (mCons (mC (.str w_plus)) (mCons (mC (.str w_minus)) (mCons (mC (.str w_times)) (mCons (mC (.str w_over)) (mCons (mC (.str w_rest)) (mCons (mC (.str w_and)) (mCons (mC (.str w_or)) (mCons (mC (.str w_xor)) (mCons (mC (.str w_left)) (mCons (mC (.str w_right)) mNil))))))))))))
    (mSeq (mSet 2 (mLst (mCons (mC (.str w_equal)) (mCons (mC (.str w_above)) (mCons (mC (.str w_least)) (mCons (mC (.str w_any)) mNil))))))
    (mSeq (mIte (mOr (mNot (mTru (mIsI .tuple (mVar 0)))) (mOr (mTest (mBin gEq (mCallB gLen (mCons (mVar 0) mNil)) (mC (.int 0)))) (mNot (mTru (mIsI .str (mBin gIdx (mVar 0) (mC (.int 0))))))))
    (mRet (mC (.bl false)))
    mSkip)
    (mSeq (mSet 3 (mDic [.inr w_load, .inr w_len, .inr w_set, .inr w_setx, .inr w_tax, .inr w_txa, .inr w_keep, .inr w_fetch, .inr w_do, .inr w_dox, .inr w_jump, .inr w_if, .inr w_ifx, .inr w_tell, .inr w_tella] (mCons (mC (.str w_zak)) (mCons (mC (.str w34)) (mCons (mC (.str w_k)) (mCons (mC (.str w_k)) (mCons (mC (.str w34)) (mCons (mC (.str w34)) (mCons (mC (.str w_s)) (mCons (mC (.str w_s)) (mCons (mC (.str w_ok)) (mCons (mC (.str w_o)) (mCons (mC (.str w_n)) (mCons (mC (.str w_tknn)) (mCons (mC (.str w_tnn)) (mCons (mC (.str w_k)) (mCons (mC (.str w34)) mNil)))))))))))))))))
    (mSeq (mSet 4 (mDGet2 (mVar 3) (mBin gIdx (mVar 0) (mC (.int 0))) (mC .non)))
    (mSeq (mIte (mOr (mTest (mIsN (mVar 4))) (mTest (mBin gNe (mCallB gLen (mCons (mVar 0) mNil)) (mBin gAdd (mCallB gLen (mCons (mVar 4) mNil)) (mC (.int 1))))))
    (mRet (mC (.bl false)))
    mSkip)
    (mSeq (mFor (gN 5) (mRange1 (mCallB gLen (mCons (mVar 4) mNil))) l_is_step_1)
    (mSeq (mIte (mAnd (mTest (mBin gEq (mBin gIdx (mVar 0) (mC (.int 0))) (mC (.str w_do)))) (mTest (mBin gIn (mBin gIdx (mVar 0) (mC (.int 1))) (mTup (mCons (mC (.str w_over)) (mCons (mC (.str w_rest)) mNil))))))
    (mRet (mBin gGt (mBin gIdx (mVar 0) (mC (.int 2))) (mC (.int 0))))
    mSkip)
    (mRet (mOrV (mBin gNe (mBin gIdx (mVar 0) (mC (.int 0))) (mC (.str w_do))) (mOrV (mBin gNotIn (mBin gIdx (mVar 0) (mC (.int 1))) (mTup (mCons (mC (.str w_left)) (mCons (mC (.str w_right)) mNil)))) (mBin gLt (mBin gIdx (mVar 0) (mC (.int 2))) (mC (.int 32))))))))))))))
def f_is_step : Fn := fnOf 7 b_is_step
def b_law : MSt := (mSeq (mSet 1 (mCall f_step (mCons (mVar 0) (mCons (mC (.int 0)) (mCons (mC (.int 2000)) mNil)))))
    (mSeq (mSet 2 (mLst (mCons (mC (.int 0)) (mCons (mNeg (mC (.int 1))) (mCons (mC (.bl true)) (mCons (mC (.bl false)) (mCons (mC .non) (mCons (mC (.str w_at)) (mCons (mC (.str w_x)) (mCons (mC (.str w_y)) (mCons (mC (.int 8)) (mCons (mC (.int 7)) (mCons (mC (.int 2000)) (mCons (mC (.int 2001)) (mCons (mC (.int 4294967295)) (mCons (mC (.int 4294967296)) (mCons (mC (.int 3)) (mCons (mC (.int 4)) (mCons (mC (.int 32)) (mCons (mC (.int 31)) (mCons (mC (.str w_plus)) (mCons (mC (.str w_mod)) (mCons (mTup (mCons (mC (.int 1)) mNil)) (mCons (mLst mNil) (mCons (mC (.str w_equal)) (mCons (mC (.str w_like)) (mCons (mC (.str w34)) (mCons (mBin gPow (mC (.int 10)) (mC (.int 30))) (mCons (mC (.str w_tell)) (mCons (mC (.str w_len)) (mCons (mC (.int 1)) (mCons (mC (.int 2)) mNil))))))))))))))))))))))))))))))))
    (mSeq (mSet 3 (mBin gIdx (mVar 2) (mBin gMod (mCall f_mix (mCons (mVar 0) (mCons (mC (.int 10)) mNil))) (mC (.int 30)))))
    (mSeq (mSet 4 (mBin gMod (mCall f_mix (mCons (mVar 0) (mCons (mC (.int 11)) mNil))) (mCallB gLen (mCons (mVar 1) mNil))))
    (mSeq (mSet 5 (mBin gMod (mCall f_mix (mCons (mVar 0) (mCons (mC (.int 12)) mNil))) (mC (.int 6))))
    (mSeq (mSet 6 (mVar 1))
    (mSeq (mIte (mTest (mBin gIn (mVar 5) (mTup (mCons (mC (.int 1)) (mCons (mC (.int 2)) mNil)))))
    (mSet 6 (mBin gAdd (mBin gAdd (mSl (mVar 1) mNoP (mPart (mVar 4))) (mTup (mCons (mVar 3) mNil))) (mSl (mVar 1) (mPart (mBin gAdd (mVar 4) (mC (.int 1)))) mNoP)))
    mSkip)
    (mSeq (mIte (mTest (mBin gEq (mVar 5) (mC (.int 3))))
    (mSet 6 (mBin gIdx (mLst (mCons (mBin gAdd (mVar 1) (mTup (mCons (mVar 3) mNil))) (mCons (mSl (mVar 1) mNoP (mPart (mNeg (mC (.int 1))))) (mCons (mCallB gListC (mCons (mVar 1) mNil)) (mCons (mTup (mCons (mVar 3) mNil)) mNil))))) (mBin gMod (mCall f_mix (mCons (mVar 0) (mCons (mC (.int 13)) mNil))) (mC (.int 4)))))
    mSkip)
    (mSeq (mIte (mTest (mBin gEq (mVar 5) (mC (.int 4))))
    (mSet 6 (mVar 3))
    mSkip)
    (mSeq (mIte (mTest (mBin gEq (mVar 5) (mC (.int 5))))
    (mSet 6 (mTup (mCons (mC (.str w_do)) (mCons (mBin gIdx (mLst (mCons (mC (.str w_over)) (mCons (mC (.str w_left)) (mCons (mC (.str w_rest)) (mCons (mC (.str w_right)) mNil))))) (mBin gMod (mVar 4) (mC (.int 4)))) (mCons (mBin gIdx (mLst (mCons (mC (.int 0)) (mCons (mC (.int 31)) (mCons (mC (.int 32)) (mCons (mC (.int 1)) mNil))))) (mBin gMod (mCall f_mix (mCons (mVar 0) (mCons (mC (.int 13)) mNil))) (mC (.int 4)))) mNil)))))
    mSkip)
    (mSeq (mSet 7 (mCall f_p_is_step (mCons (mVar 6) mNil)))
    (mRet (mAndV (mIsI .bool (mVar 7)) (mBin gEq (mVar 7) (mCall f_is_step (mCons (mVar 6) mNil))))))))))))))))
def f_law : Fn := fnOf 7 b_law
structure Tx (w : World) (K : PySem.W.Frag) (mg : Str → Option Value) : Prop where
  n_len : mg "len" = none
  n_max : mg "max" = none
  n_list : mg "list" = none
  n_isinstance : mg "isinstance" = none
  n_tuple : mg "tuple" = none
  n_str : mg "str" = none
  n_zip : mg "zip" = none
  n_int : mg "int" = none
  n_bool : mg "bool" = none
  n_all : mg "all" = none
  n_range : mg "range" = none
  c_PARTS : DictAt w K mg "PARTS" ks_PARTS ds_PARTS
  c_ROUND : ConstAt K mg "ROUND" c_ROUND
  c_SIZES : ConstAt K mg "SIZES" c_SIZES
  c_SLOTS : ConstAt K mg "SLOTS" c_SLOTS
  c_FARTHEST : ConstAt K mg "FARTHEST" c_FARTHEST
  c_BASES : ConstAt K mg "BASES" c_BASES
  c_OPS : ConstAt K mg "OPS" c_OPS
  c_TESTS : ConstAt K mg "TESTS" c_TESTS
  c_DIVIDING : ConstAt K mg "DIVIDING" c_DIVIDING
  c_SHIFTING : ConstAt K mg "SHIFTING" c_SHIFTING
  c_WIDTH : ConstAt K mg "WIDTH" c_WIDTH
  d_cell : DefAt K mg "_law_cell" s_cell ["_law_script", "_law_k_here"]
  d_mix : DefAt K mg "_law_mix" s_mix ["_law_script", "_law_k_here"]
  d_k : DefAt K mg "_law_k" s_k ["_law_number_here"]
  d_op : DefAt K mg "_law_op" s_op ["_law_number_here"]
  d_step : DefAt K mg "_law_step" s_step ["_law_script", "_law_base", "_law_left"]
  d_p_is_whole : DefAt K mg "is_whole" s_p_is_whole ["thing"]
  d_p_is_number : DefAt K mg "is_number" s_p_is_number ["thing"]
  d_p_is_part : DefAt K mg "is_part" s_p_is_part ["kind", "part"]
  d_p_can_be_done_by : DefAt K mg "can_be_done_by" s_p_can_be_done_by ["op", "k"]
  d_p_is_step : DefAt K mg "is_step" s_p_is_step ["thing"]
  d_whole : DefAt K mg "_law_whole" s_whole ["_law_found"]
  d_number : DefAt K mg "_law_number" s_number ["_law_thing", "_law_most"]
  d_word : DefAt K mg "_law_word" s_word ["_law_thing", "_law_words"]
  d_is_step : DefAt K mg "_law_is_step" s_is_step ["_law_step_here"]
  d_law : DefAt K mg "law" s_law ["_law_script"]
section
variable {P : Program} {w : World} {K : PySem.W.Frag} {mg : Str → Option Value} {base : Heap}
theorem sc_cell : FnScope ["_law_script", "_law_k_here"] ["_law_script", "_law_k_here"] (defScope s_cell) := ⟨rfl, rfl, rfl, by decide +kernel, rfl, by decide +kernel, by decide +kernel⟩
theorem lo_cell : locB (defScope s_cell) ["_law_script", "_law_k_here"] = true := by decide +kernel
theorem gl_cell : glB (defScope s_cell) ["len"] = true := by decide +kernel
theorem okd_cell (T : Tx w K mg) {f : Addr} {fd : FuncData} (F : Fun K "_law_cell" "_law_cell" s_cell f fd) : FnOk P w K mg base CX0 1 f fd ["_law_script", "_law_k_here"] (spM K 2 f_cell) := by
  refine fnOk_of F sc_cell rfl rfl fun cdv A outer s H E hr => ?_
  have C := ct_of (CX := CX0) (P := P) (w := w) (K := K) (mg := mg) (base := base) (outer := outer) (H := H) (E := E) sc_cell.nd (loc_of lo_cell) (gl_of gl_cell) hr
  exact ((mss_cons (ms_if (mt_truth (sv C 0 rfl) (fun _ => rfl))
    (mss_one (ms_ret (me_idx (sv C 0 rfl) (me_bin om_mod (sv C 1 rfl) (me_callB cm_len (C.g 0 rfl) T.n_len PySem.boot_len (ma_cons (sv C 0 rfl) ma_nil rfl))) (fun _ _ => rfl))))
    mss_nil)
    (mss_one (ms_ret me_int))))
theorem ok_cell (T : Tx w K mg) : FnAt P w K mg base "_law_cell" 1 2 f_cell := fnAt_of T.d_cell rfl fun f fd F => okd_cell T F
theorem sc_mix : FnScope ["_law_script", "_law_k_here", "_law_number_here"] ["_law_script", "_law_k_here"] (defScope s_mix) := ⟨rfl, rfl, rfl, by decide +kernel, rfl, by decide +kernel, by decide +kernel⟩
theorem lo_mix : locB (defScope s_mix) ["_law_script", "_law_k_here", "_law_number_here"] = true := by decide +kernel
theorem gl_mix : glB (defScope s_mix) ["_law_cell"] = true := by decide +kernel
theorem okd_mix (T : Tx w K mg) {f : Addr} {fd : FuncData} (F : Fun K "_law_mix" "_law_mix" s_mix f fd) : FnOk P w K mg base CX0 2 f fd ["_law_script", "_law_k_here"] (spM K 2 f_mix) := by
  refine fnOk_of F sc_mix rfl rfl fun cdv A outer s H E hr => ?_
  have C := ct_of (CX := CX0) (P := P) (w := w) (K := K) (mg := mg) (base := base) (outer := outer) (H := H) (E := E) sc_mix.nd (loc_of lo_mix) (gl_of gl_mix) hr
  exact ((mss_cons (sa C 2 rfl (me_bin om_mod (me_bin om_add (me_fn (ok_cell T) (hr.mono (by decide)) (C.g 0 rfl) (ma_cons (sv C 0 rfl) (ma_cons (sv C 1 rfl) ma_nil rfl) rfl) rfl) (me_bin om_mul me_int (me_bin om_add (sv C 1 rfl) me_int))) me_int))
    (mss_cons (sa C 2 rfl (me_bin om_mod (me_bin om_mul (sv C 2 rfl) me_int) me_int))
    (mss_one (ms_ret (me_bin om_mod (me_bin om_add (me_bin om_mul (me_bin om_div (sv C 2 rfl) me_int) me_int) (sv C 2 rfl)) me_int))))))
theorem ok_mix (T : Tx w K mg) : FnAt P w K mg base "_law_mix" 2 2 f_mix := fnAt_of T.d_mix rfl fun f fd F => okd_mix T F
theorem sc_k : FnScope ["_law_number_here", "_law_some"] ["_law_number_here"] (defScope s_k) := ⟨rfl, rfl, rfl, by decide +kernel, rfl, by decide +kernel, by decide +kernel⟩
theorem lo_k : locB (defScope s_k) ["_law_number_here", "_law_some"] = true := by decide +kernel
theorem gl_k : glB (defScope s_k) [] = true := by decide +kernel
theorem okd_k (T : Tx w K mg) {f : Addr} {fd : FuncData} (F : Fun K "_law_k" "_law_k" s_k f fd) : FnOk P w K mg base CX0 1 f fd ["_law_number_here"] (spM K 1 f_k) := by
  refine fnOk_of F sc_k rfl rfl fun cdv A outer s H E hr => ?_
  have C := ct_of (CX := CX0) (P := P) (w := w) (K := K) (mg := mg) (base := base) (outer := outer) (H := H) (E := E) sc_k.nd (loc_of lo_k) (gl_of gl_k) hr
  exact ((mss_cons (sa C 1 rfl (me_lst (ma_cons me_int (ma_cons me_int (ma_cons me_int (ma_cons me_int (ma_cons me_int (ma_cons me_int (ma_cons me_int (ma_cons me_int (ma_cons me_int (ma_cons me_int (ma_cons me_int (ma_cons me_int ma_nil rfl) rfl) rfl) rfl) rfl) rfl) rfl) rfl) rfl) rfl) rfl) rfl)))
    (mss_one (ms_ret (me_if (mt_cmp om_gt (me_bin om_mod (sv C 0 rfl) me_int) me_int (nomark _)) (me_idx (sv C 1 rfl) (me_bin om_mod (me_bin om_div (sv C 0 rfl) me_int) me_int) (fun _ _ => rfl)) (me_bin om_mod (me_bin om_div (sv C 0 rfl) me_int) me_int))))))
theorem ok_k (T : Tx w K mg) : FnAt P w K mg base "_law_k" 1 1 f_k := fnAt_of T.d_k rfl fun f fd F => okd_k T F
theorem sc_op : FnScope ["_law_number_here"] ["_law_number_here"] (defScope s_op) := ⟨rfl, rfl, rfl, by decide +kernel, rfl, by decide +kernel, by decide +kernel⟩
theorem lo_op : locB (defScope s_op) ["_law_number_here"] = true := by decide +kernel
theorem gl_op : glB (defScope s_op) [] = true := by decide +kernel
theorem okd_op (T : Tx w K mg) {f : Addr} {fd : FuncData} (F : Fun K "_law_op" "_law_op" s_op f fd) : FnOk P w K mg base CX0 1 f fd ["_law_number_here"] (spM K 1 f_op) := by
  refine fnOk_of F sc_op rfl rfl fun cdv A outer s H E hr => ?_
  have C := ct_of (CX := CX0) (P := P) (w := w) (K := K) (mg := mg) (base := base) (outer := outer) (H := H) (E := E) sc_op.nd (loc_of lo_op) (gl_of gl_op) hr
  exact ((mss_one (ms_ret (me_idx (me_lst (ma_cons (me_str w_plus_eq) (ma_cons (me_str w_minus_eq) (ma_cons (me_str w_times_eq) (ma_cons (me_str w_over_eq) (ma_cons (me_str w_rest_eq) (ma_cons (me_str w_and_eq) (ma_cons (me_str w_or_eq) (ma_cons (me_str w_xor_eq) (ma_cons (me_str w_left_eq) (ma_cons (me_str w_right_eq) ma_nil rfl) rfl) rfl) rfl) rfl) rfl) rfl) rfl) rfl) rfl)) (me_bin om_mod (sv C 0 rfl) me_int) (fun _ _ => rfl)))))
theorem ok_op (T : Tx w K mg) : FnAt P w K mg base "_law_op" 1 1 f_op := fnAt_of T.d_op rfl fun f fd F => okd_op T F
theorem sc_step : FnScope ["_law_script", "_law_base", "_law_left", "_law_number_here", "_law_k_here", "_law_way", "_law_small", "_law_one", "_law_other", "_law_op_here", "_law_test"] ["_law_script", "_law_base", "_law_left"] (defScope s_step) := ⟨rfl, rfl, rfl, by decide +kernel, rfl, by decide +kernel, by decide +kernel⟩
theorem lo_step : locB (defScope s_step) ["_law_script", "_law_base", "_law_left", "_law_number_here", "_law_k_here", "_law_way", "_law_small", "_law_one", "_law_other", "_law_op_here", "_law_test"] = true := by decide +kernel
theorem gl_step : glB (defScope s_step) ["_law_mix", "_law_k", "max", "_law_op"] = true := by decide +kernel
theorem okd_step (T : Tx w K mg) {f : Addr} {fd : FuncData} (F : Fun K "_law_step" "_law_step" s_step f fd) : FnOk P w K mg base CX0 3 f fd ["_law_script", "_law_base", "_law_left"] (spM K 3 f_step) := by
  refine fnOk_of F sc_step rfl rfl fun cdv A outer s H E hr => ?_
  have C := ct_of (CX := CX0) (P := P) (w := w) (K := K) (mg := mg) (base := base) (outer := outer) (H := H) (E := E) sc_step.nd (loc_of lo_step) (gl_of gl_step) hr
  exact ((mss_cons (sa C 3 rfl (me_fn (ok_mix T) (hr.mono (by decide)) (C.g 0 rfl) (ma_cons (sv C 0 rfl) (ma_cons (sv C 1 rfl) ma_nil rfl) rfl) rfl))
    (mss_cons (sa C 4 rfl (me_fn (ok_k T) (hr.mono (by decide)) (C.g 1 rfl) (ma_cons (me_fn (ok_mix T) (hr.mono (by decide)) (C.g 0 rfl) (ma_cons (sv C 0 rfl) (ma_cons (me_bin om_add (sv C 1 rfl) me_int) ma_nil rfl) rfl) rfl) ma_nil rfl) rfl))
    (mss_cons (sa C 5 rfl (me_bin om_mod (sv C 3 rfl) me_int))
    (mss_cons (sa C 6 rfl (me_idx (me_lst (ma_cons me_int (ma_cons me_int (ma_cons me_int (ma_cons me_int (ma_cons me_int (ma_cons me_int ma_nil rfl) rfl) rfl) rfl) rfl) rfl)) (me_bin om_mod (me_bin om_div (sv C 3 rfl) me_int) me_int) (fun _ _ => rfl)))
    (mss_cons (sa C 7 rfl (me_bin om_mod (me_fn (ok_mix T) (hr.mono (by decide)) (C.g 0 rfl) (ma_cons (sv C 0 rfl) (ma_cons (me_bin om_add (sv C 1 rfl) me_int) ma_nil rfl) rfl) rfl) (me_callB (cm_max C.calm) (C.g 2 rfl) T.n_max PyProof.Rows.boot_max (ma_cons me_int (ma_cons (sv C 2 rfl) ma_nil rfl) rfl))))
    (mss_cons (sa C 8 rfl (me_bin om_mod (me_fn (ok_mix T) (hr.mono (by decide)) (C.g 0 rfl) (ma_cons (sv C 0 rfl) (ma_cons (me_bin om_add (sv C 1 rfl) me_int) ma_nil rfl) rfl) rfl) (me_callB (cm_max C.calm) (C.g 2 rfl) T.n_max PyProof.Rows.boot_max (ma_cons me_int (ma_cons (sv C 2 rfl) ma_nil rfl) rfl))))
    (mss_cons (ms_if (mt_cmp om_lt (sv C 5 rfl) me_int (nomark _))
    (mss_one (ms_ret (me_tup (ma_cons (me_str w_load_eq) (ma_cons (me_idx (me_lst (ma_cons me_int (ma_cons me_int (ma_cons me_int ma_nil rfl) rfl) rfl)) (me_bin om_mod (me_bin om_div (sv C 3 rfl) me_int) me_int) (fun _ _ => rfl)) (ma_cons (me_idx (me_lst (ma_cons (me_str w_at_eq) (ma_cons (me_str w_x_eq) ma_nil rfl) rfl)) (me_bin om_mod (me_bin om_div (sv C 3 rfl) me_int) me_int) (fun _ _ => rfl)) (ma_cons (me_if (mt_truth (me_bin om_mod (me_bin om_div (sv C 3 rfl) me_int) me_int) (fun _ => rfl)) (sv C 6 rfl) (sv C 4 rfl)) ma_nil rfl) rfl) rfl) rfl))))
    mss_nil)
    (mss_cons (ms_if (mt_cmp om_lt (sv C 5 rfl) me_int (nomark _))
    (mss_one (ms_ret (me_idx (me_lst (ma_cons (me_tup (ma_cons (me_str w_len_eq) ma_nil rfl)) (ma_cons (me_tup (ma_cons (me_str w_tax_eq) ma_nil rfl)) (ma_cons (me_tup (ma_cons (me_str w_txa_eq) ma_nil rfl)) (ma_cons (me_tup (ma_cons (me_str w_tella_eq) ma_nil rfl)) ma_nil rfl) rfl) rfl) rfl)) (me_bin om_mod (me_bin om_div (sv C 3 rfl) me_int) me_int) (fun _ _ => rfl))))
    mss_nil)
    (mss_cons (ms_if (mt_cmp om_lt (sv C 5 rfl) me_int (nomark _))
    (mss_one (ms_ret (me_tup (ma_cons (me_idx (me_lst (ma_cons (me_str w_set_eq) (ma_cons (me_str w_setx_eq) ma_nil rfl) rfl)) (me_bin om_sub (sv C 5 rfl) me_int) (fun _ _ => rfl)) (ma_cons (sv C 4 rfl) ma_nil rfl) rfl))))
    mss_nil)
    (mss_cons (ms_if (mt_cmp om_lt (sv C 5 rfl) me_int (nomark _))
    (mss_one (ms_ret (me_tup (ma_cons (me_idx (me_lst (ma_cons (me_str w_keep_eq) (ma_cons (me_str w_fetch_eq) ma_nil rfl) rfl)) (me_bin om_sub (sv C 5 rfl) me_int) (fun _ _ => rfl)) (ma_cons (me_bin om_mod (me_bin om_div (sv C 3 rfl) me_int) me_int) ma_nil rfl) rfl))))
    mss_nil)
    (mss_cons (ms_if (mt_cmp om_lt (sv C 5 rfl) me_int (nomark _))
    (mss_cons (sa C 9 rfl (me_fn (ok_op T) (hr.mono (by decide)) (C.g 3 rfl) (ma_cons (me_bin om_div (sv C 3 rfl) me_int) ma_nil rfl) rfl))
    (mss_cons (ms_if (mt_cmp (om_in C.un) (sv C 9 rfl) (me_tup (ma_cons (me_str w_over_eq) (ma_cons (me_str w_rest_eq) (ma_cons (me_str w_left_eq) (ma_cons (me_str w_right_eq) ma_nil rfl) rfl) rfl) rfl)) rfl)
    (mss_one (sa C 4 rfl (me_bin om_add me_int (me_bin om_mod (sv C 4 rfl) me_int))))
    mss_nil)
    (mss_one (ms_ret (me_tup (ma_cons (me_str w_do_eq) (ma_cons (sv C 9 rfl) (ma_cons (sv C 4 rfl) ma_nil rfl) rfl) rfl))))))
    mss_nil)
    (mss_cons (ms_if (mt_cmp (om_eq C.un) (sv C 5 rfl) me_int (nomark _))
    (mss_one (ms_ret (me_tup (ma_cons (me_str w_dox_eq) (ma_cons (me_fn (ok_op T) (hr.mono (by decide)) (C.g 3 rfl) (ma_cons (me_bin om_div (sv C 3 rfl) me_int) ma_nil rfl) rfl) ma_nil rfl) rfl))))
    mss_nil)
    (mss_cons (ms_if (mt_cmp (om_eq C.un) (sv C 5 rfl) me_int (nomark _))
    (mss_one (ms_ret (me_tup (ma_cons (me_str w_jump_eq) (ma_cons (sv C 7 rfl) ma_nil rfl) rfl))))
    mss_nil)
    (mss_cons (sa C 10 rfl (me_idx (me_lst (ma_cons (me_str w_equal_eq) (ma_cons (me_str w_above_eq) (ma_cons (me_str w_least_eq) (ma_cons (me_str w_any_eq) ma_nil rfl) rfl) rfl) rfl)) (me_bin om_mod (me_bin om_div (sv C 3 rfl) me_int) me_int) (fun _ _ => rfl)))
    (mss_cons (ms_if (mt_cmp om_lt (sv C 5 rfl) me_int (nomark _))
    (mss_one (ms_ret (me_tup (ma_cons (me_str w_if_eq) (ma_cons (sv C 10 rfl) (ma_cons (me_if (mt_truth (me_bin om_mod (me_bin om_div (sv C 3 rfl) me_int) me_int) (fun _ => rfl)) (sv C 4 rfl) (sv C 6 rfl)) (ma_cons (sv C 7 rfl) (ma_cons (sv C 8 rfl) ma_nil rfl) rfl) rfl) rfl) rfl))))
    mss_nil)
    (mss_cons (ms_if (mt_cmp (om_eq C.un) (sv C 5 rfl) me_int (nomark _))
    (mss_one (ms_ret (me_tup (ma_cons (me_str w_ifx_eq) (ma_cons (sv C 10 rfl) (ma_cons (sv C 7 rfl) (ma_cons (sv C 8 rfl) ma_nil rfl) rfl) rfl) rfl))))
    mss_nil)
    (mss_one (ms_ret (me_if (mt_cmp (om_eq C.un) (sv C 5 rfl) me_int (nomark _)) (me_tup (ma_cons (me_str w_tell_eq) (ma_cons (sv C 4 rfl) ma_nil rfl) rfl)) (me_tup (ma_cons (me_str w_keep_eq) (ma_cons (me_bin om_mod (me_bin om_div (sv C 3 rfl) me_int) me_int) ma_nil rfl) rfl))))))))))))))))))))))
theorem ok_step (T : Tx w K mg) : FnAt P w K mg base "_law_step" 3 3 f_step := fnAt_of T.d_step rfl fun f fd F => okd_step T F
theorem sc_p_is_whole : FnScope ["thing"] ["thing"] (defScope s_p_is_whole) := ⟨rfl, rfl, rfl, by decide +kernel, rfl, by decide +kernel, by decide +kernel⟩
theorem lo_p_is_whole : locB (defScope s_p_is_whole) ["thing"] = true := by decide +kernel
theorem gl_p_is_whole : glB (defScope s_p_is_whole) ["isinstance", "int", "bool"] = true := by decide +kernel
theorem okd_p_is_whole (T : Tx w K mg) {f : Addr} {fd : FuncData} (F : Fun K "is_whole" "is_whole" s_p_is_whole f fd) : FnOk P w K mg base CX0 1 f fd ["thing"] (spM K 1 f_p_is_whole) := by
  refine fnOk_of F sc_p_is_whole rfl rfl fun cdv A outer s H E hr => ?_
  have C := ct_of (CX := CX0) (P := P) (w := w) (K := K) (mg := mg) (base := base) (outer := outer) (H := H) (E := E) sc_p_is_whole.nd (loc_of lo_p_is_whole) (gl_of gl_p_is_whole) hr
  exact ((mss_one (ms_ret (me_and (me_isI .int PyProof.Rows.boot_int (C.g 0 rfl) T.n_isinstance (C.g 1 rfl) T.n_int (sv C 0 rfl)) (me_one (me_not (me_isI .bool M.boot_bool (C.g 0 rfl) T.n_isinstance (C.g 2 rfl) T.n_bool (sv C 0 rfl))))))))
theorem ok_p_is_whole (T : Tx w K mg) : FnAt P w K mg base "is_whole" 1 1 f_p_is_whole := fnAt_of T.d_p_is_whole rfl fun f fd F => okd_p_is_whole T F
theorem sc_p_is_number : FnScope ["thing"] ["thing"] (defScope s_p_is_number) := ⟨rfl, rfl, rfl, by decide +kernel, rfl, by decide +kernel, by decide +kernel⟩
theorem lo_p_is_number : locB (defScope s_p_is_number) ["thing"] = true := by decide +kernel
theorem gl_p_is_number : glB (defScope s_p_is_number) ["is_whole", "ROUND"] = true := by decide +kernel
theorem okd_p_is_number (T : Tx w K mg) {f : Addr} {fd : FuncData} (F : Fun K "is_number" "is_number" s_p_is_number f fd) : FnOk P w K mg base CX0 2 f fd ["thing"] (spM K 1 f_p_is_number) := by
  refine fnOk_of F sc_p_is_number rfl rfl fun cdv A outer s H E hr => ?_
  have C := ct_of (CX := CX0) (P := P) (w := w) (K := K) (mg := mg) (base := base) (outer := outer) (H := H) (E := E) sc_p_is_number.nd (loc_of lo_p_is_number) (gl_of gl_p_is_number) hr
  exact ((mss_one (ms_ret (me_and (me_fn (ok_p_is_whole T) (hr.mono (by decide)) (C.g 0 rfl) (ma_cons (sv C 0 rfl) ma_nil rfl) rfl) (me_one (me_chain om_le om_lt me_int (sv C 0 rfl) (me_const T.c_ROUND (C.g 1 rfl)) rfl))))))
theorem ok_p_is_number (T : Tx w K mg) : FnAt P w K mg base "is_number" 2 1 f_p_is_number := fnAt_of T.d_p_is_number rfl fun f fd F => okd_p_is_number T F
theorem sc_p_is_part : FnScope ["kind", "part"] ["kind", "part"] (defScope s_p_is_part) := ⟨rfl, rfl, rfl, by decide +kernel, rfl, by decide +kernel, by decide +kernel⟩
theorem lo_p_is_part : locB (defScope s_p_is_part) ["kind", "part"] = true := by decide +kernel
theorem gl_p_is_part : glB (defScope s_p_is_part) ["is_number", "is_whole", "SIZES", "SLOTS", "FARTHEST", "BASES", "OPS", "TESTS"] = true := by decide +kernel
theorem okd_p_is_part (T : Tx w K mg) {f : Addr} {fd : FuncData} (F : Fun K "is_part" "is_part" s_p_is_part f fd) : FnOk P w K mg base CX0 3 f fd ["kind", "part"] (spM K 2 f_p_is_part) := by
  refine fnOk_of F sc_p_is_part rfl rfl fun cdv A outer s H E hr => ?_
  have C := ct_of (CX := CX0) (P := P) (w := w) (K := K) (mg := mg) (base := base) (outer := outer) (H := H) (E := E) sc_p_is_part.nd (loc_of lo_p_is_part) (gl_of gl_p_is_part) hr
  exact ((mss_cons (ms_if (mt_cmp (om_eq C.un) (sv C 0 rfl) (me_str w_number_eq) (nomark _))
    (mss_one (ms_ret (me_fn (ok_p_is_number T) (hr.mono (by decide)) (C.g 0 rfl) (ma_cons (sv C 1 rfl) ma_nil rfl) rfl)))
    mss_nil)
    (mss_cons (ms_if (mt_cmp (om_eq C.un) (sv C 0 rfl) (me_str w_size_eq) (nomark _))
    (mss_one (ms_ret (me_and (me_fn (ok_p_is_whole T) (hr.mono (by decide)) (C.g 1 rfl) (ma_cons (sv C 1 rfl) ma_nil rfl) rfl) (me_one (me_cmp (om_in C.un) (sv C 1 rfl) (me_const T.c_SIZES (C.g 2 rfl)) rfl)))))
    mss_nil)
    (mss_cons (ms_if (mt_cmp (om_eq C.un) (sv C 0 rfl) (me_str w_slot_eq) (nomark _))
    (mss_one (ms_ret (me_and (me_fn (ok_p_is_whole T) (hr.mono (by decide)) (C.g 1 rfl) (ma_cons (sv C 1 rfl) ma_nil rfl) rfl) (me_one (me_chain om_le om_lt me_int (sv C 1 rfl) (me_const T.c_SLOTS (C.g 3 rfl)) rfl)))))
    mss_nil)
    (mss_cons (ms_if (mt_cmp (om_eq C.un) (sv C 0 rfl) (me_str w_distance_eq) (nomark _))
    (mss_one (ms_ret (me_and (me_fn (ok_p_is_whole T) (hr.mono (by decide)) (C.g 1 rfl) (ma_cons (sv C 1 rfl) ma_nil rfl) rfl) (me_one (me_chain om_le om_le me_int (sv C 1 rfl) (me_const T.c_FARTHEST (C.g 4 rfl)) rfl)))))
    mss_nil)
    (mss_cons (ms_if (mt_cmp (om_eq C.un) (sv C 0 rfl) (me_str w_base_eq) (nomark _))
    (mss_one (ms_ret (me_cmp (om_in C.un) (sv C 1 rfl) (me_const T.c_BASES (C.g 5 rfl)) rfl)))
    mss_nil)
    (mss_cons (ms_if (mt_cmp (om_eq C.un) (sv C 0 rfl) (me_str w_op_eq) (nomark _))
    (mss_one (ms_ret (me_cmp (om_in C.un) (sv C 1 rfl) (me_const T.c_OPS (C.g 6 rfl)) rfl)))
    mss_nil)
    (mss_one (ms_ret (me_cmp (om_in C.un) (sv C 1 rfl) (me_const T.c_TESTS (C.g 7 rfl)) rfl))))))))))
theorem ok_p_is_part (T : Tx w K mg) : FnAt P w K mg base "is_part" 3 2 f_p_is_part := fnAt_of T.d_p_is_part rfl fun f fd F => okd_p_is_part T F
theorem sc_p_can_be_done_by : FnScope ["op", "k"] ["op", "k"] (defScope s_p_can_be_done_by) := ⟨rfl, rfl, rfl, by decide +kernel, rfl, by decide +kernel, by decide +kernel⟩
theorem lo_p_can_be_done_by : locB (defScope s_p_can_be_done_by) ["op", "k"] = true := by decide +kernel
theorem gl_p_can_be_done_by : glB (defScope s_p_can_be_done_by) ["DIVIDING", "SHIFTING", "WIDTH"] = true := by decide +kernel
theorem okd_p_can_be_done_by (T : Tx w K mg) {f : Addr} {fd : FuncData} (F : Fun K "can_be_done_by" "can_be_done_by" s_p_can_be_done_by f fd) : FnOk P w K mg base CX0 1 f fd ["op", "k"] (spM K 2 f_p_can_be_done_by) := by
  refine fnOk_of F sc_p_can_be_done_by rfl rfl fun cdv A outer s H E hr => ?_
  have C := ct_of (CX := CX0) (P := P) (w := w) (K := K) (mg := mg) (base := base) (outer := outer) (H := H) (E := E) sc_p_can_be_done_by.nd (loc_of lo_p_can_be_done_by) (gl_of gl_p_can_be_done_by) hr
  exact ((mss_cons (ms_if (mt_cmp (om_in C.un) (sv C 0 rfl) (me_const T.c_DIVIDING (C.g 0 rfl)) rfl)
    (mss_one (ms_ret (me_cmp (om_ne C.un) (sv C 1 rfl) me_int (nomark _))))
    mss_nil)
    (mss_cons (ms_if (mt_cmp (om_in C.un) (sv C 0 rfl) (me_const T.c_SHIFTING (C.g 1 rfl)) rfl)
    (mss_one (ms_ret (me_cmp om_lt (sv C 1 rfl) (me_const T.c_WIDTH (C.g 2 rfl)) (nomark _))))
    mss_nil)
    (mss_one (ms_ret me_bl)))))
theorem ok_p_can_be_done_by (T : Tx w K mg) : FnAt P w K mg base "can_be_done_by" 1 2 f_p_can_be_done_by := fnAt_of T.d_p_can_be_done_by rfl fun f fd F => okd_p_can_be_done_by T F
theorem sc_p_is_step : FnScope ["thing", "kinds"] ["thing"] (defScope s_p_is_step) := ⟨rfl, rfl, rfl, by decide +kernel, rfl, by decide +kernel, by decide +kernel⟩
theorem lo_p_is_step : locB (defScope s_p_is_step) ["thing", "kinds"] = true := by decide +kernel
theorem gl_p_is_step : glB (defScope s_p_is_step) ["isinstance", "tuple", "len", "str", "PARTS", "zip", "all", "can_be_done_by"] = true := by decide +kernel
theorem okd_p_is_step (T : Tx w K mg) {f : Addr} {fd : FuncData} (F : Fun K "is_step" "is_step" s_p_is_step f fd) : FnOk P w K mg base CX0 4 f fd ["thing"] (spM K 1 f_p_is_step) := by
  refine fnOk_of F sc_p_is_step rfl rfl fun cdv A outer s H E hr => ?_
  have C := ct_of (CX := CX0) (P := P) (w := w) (K := K) (mg := mg) (base := base) (outer := outer) (H := H) (E := E) sc_p_is_step.nd (loc_of lo_p_is_step) (gl_of gl_p_is_step) hr
  exact ((mss_cons (ms_if (mw_or (mt_not (mt_truth (me_isI .tuple M.boot_tuple (C.g 0 rfl) T.n_isinstance (C.g 1 rfl) T.n_tuple (sv C 0 rfl)) (fun _ => rfl))) (mw_or1 (mt_cmp (om_eq C.un) (me_callB cm_len (C.g 2 rfl) T.n_len PySem.boot_len (ma_cons (sv C 0 rfl) ma_nil rfl)) me_int (nomark _)))).t
    (mss_one (ms_ret me_bl))
    mss_nil)
    (mss_cons (ms_if (mw_or (mt_not (mt_truth (me_isI .str M.boot_str (C.g 0 rfl) T.n_isinstance (C.g 3 rfl) T.n_str (me_idx (sv C 0 rfl) me_int (fun _ _ => rfl))) (fun _ => rfl))) (mw_or1 (mt_cdnotin T.c_PARTS (C.g 4 rfl) (me_idx (sv C 0 rfl) me_int (fun _ _ => rfl))))).t
    (mss_one (ms_ret me_bl))
    mss_nil)
    (mss_cons (sa C 1 rfl (me_cdget T.c_PARTS (C.g 4 rfl) (me_idx (sv C 0 rfl) me_int (fun _ _ => rfl)) (fun _ _ => rfl)))
    (mss_cons (ms_if (mt_cmp (om_ne C.un) (me_callB cm_len (C.g 2 rfl) T.n_len PySem.boot_len (ma_cons (sv C 0 rfl) ma_nil rfl)) (me_bin om_add me_int (me_callB cm_len (C.g 2 rfl) T.n_len PySem.boot_len (ma_cons (sv C 1 rfl) ma_nil rfl))) (nomark _))
    (mss_one (ms_ret me_bl))
    mss_nil)
    (mss_cons (ms_if (mt_not (mt_truth (me_callB (cm_all C.calm) (C.g 6 rfl) T.n_all PyProof.Rows.boot_all (ma_cons (me_comp (T := ["kind", "part"]) (caps := []) (ix := []) (compScope_of (show compB _ (defScope s_p_is_step) = true by decide +kernel)) (caps_of C.hN (by decide +kernel)) C.calm (mi_zip true true (C.g 5 rfl) T.n_zip (sv C 1 rfl) (me_slice (sv C 0 rfl) (mp_some me_int) mp_none)) (fun C2 s2 H2 ex2 => have B : blkB _ ["kind", "part"] [] ["is_part"] = true := (by decide +kernel); have C := cb_of (C := C2) (s := s2) (H := H2) (ex := ex2) C.calm C.un (by decide +kernel) B; And.intro (mt_tup C.calm (mts_cons (stb C 0 rfl (blk_loc B (j := 0) rfl)) (mts_cons (stb C 1 rfl (blk_loc B (j := 1) rfl)) mts_nil))) (And.intro mifs_nil (me_fn (ok_p_is_part T) (hr.mono (by decide)) (C.g 0 rfl) (ma_cons (svb C 0 rfl) (ma_cons (svb C 1 rfl) ma_nil rfl) rfl) rfl)))) ma_nil rfl)) (fun _ => rfl)))
    (mss_one (ms_ret me_bl))
    mss_nil)
    (mss_one (ms_ret (me_or (me_cmp (om_ne C.un) (me_idx (sv C 0 rfl) me_int (fun _ _ => rfl)) (me_str w_do_eq) (nomark _)) (me_one (me_fn (ok_p_can_be_done_by T) (hr.mono (by decide)) (C.g 7 rfl) (ma_cons (me_idx (sv C 0 rfl) me_int (fun _ _ => rfl)) (ma_cons (me_idx (sv C 0 rfl) me_int (fun _ _ => rfl)) ma_nil rfl) rfl) rfl)))))))))))
theorem ok_p_is_step (T : Tx w K mg) : FnAt P w K mg base "is_step" 4 1 f_p_is_step := fnAt_of T.d_p_is_step rfl fun f fd F => okd_p_is_step T F
theorem sc_whole : FnScope ["_law_found"] ["_law_found"] (defScope s_whole) := ⟨rfl, rfl, rfl, by decide +kernel, rfl, by decide +kernel, by decide +kernel⟩
theorem lo_whole : locB (defScope s_whole) ["_law_found"] = true := by decide +kernel
theorem gl_whole : glB (defScope s_whole) ["isinstance", "int", "bool"] = true := by decide +kernel
theorem okd_whole (T : Tx w K mg) {f : Addr} {fd : FuncData} (F : Fun K "_law_whole" "_law_whole" s_whole f fd) : FnOk P w K mg base CX0 1 f fd ["_law_found"] (spM K 1 f_whole) := by
  refine fnOk_of F sc_whole rfl rfl fun cdv A outer s H E hr => ?_
  have C := ct_of (CX := CX0) (P := P) (w := w) (K := K) (mg := mg) (base := base) (outer := outer) (H := H) (E := E) sc_whole.nd (loc_of lo_whole) (gl_of gl_whole) hr
  exact ((mss_one (ms_ret (me_and (me_isI .int PyProof.Rows.boot_int (C.g 0 rfl) T.n_isinstance (C.g 1 rfl) T.n_int (sv C 0 rfl)) (me_one (me_not (me_isI .bool M.boot_bool (C.g 0 rfl) T.n_isinstance (C.g 2 rfl) T.n_bool (sv C 0 rfl))))))))
theorem ok_whole (T : Tx w K mg) : FnAt P w K mg base "_law_whole" 1 1 f_whole := fnAt_of T.d_whole rfl fun f fd F => okd_whole T F
theorem sc_number : FnScope ["_law_thing", "_law_most"] ["_law_thing", "_law_most"] (defScope s_number) := ⟨rfl, rfl, rfl, by decide +kernel, rfl, by decide +kernel, by decide +kernel⟩
theorem lo_number : locB (defScope s_number) ["_law_thing", "_law_most"] = true := by decide +kernel
theorem gl_number : glB (defScope s_number) ["_law_whole"] = true := by decide +kernel
theorem okd_number (T : Tx w K mg) {f : Addr} {fd : FuncData} (F : Fun K "_law_number" "_law_number" s_number f fd) : FnOk P w K mg base CX0 2 f fd ["_law_thing", "_law_most"] (spM K 2 f_number) := by
  refine fnOk_of F sc_number rfl rfl fun cdv A outer s H E hr => ?_
  have C := ct_of (CX := CX0) (P := P) (w := w) (K := K) (mg := mg) (base := base) (outer := outer) (H := H) (E := E) sc_number.nd (loc_of lo_number) (gl_of gl_number) hr
  exact ((mss_one (ms_ret (me_and (me_fn (ok_whole T) (hr.mono (by decide)) (C.g 0 rfl) (ma_cons (sv C 0 rfl) ma_nil rfl) rfl) (me_one (me_chain om_le om_le me_int (sv C 0 rfl) (sv C 1 rfl) rfl))))))
theorem ok_number (T : Tx w K mg) : FnAt P w K mg base "_law_number" 2 2 f_number := fnAt_of T.d_number rfl fun f fd F => okd_number T F
theorem sc_word : FnScope ["_law_thing", "_law_words"] ["_law_thing", "_law_words"] (defScope s_word) := ⟨rfl, rfl, rfl, by decide +kernel, rfl, by decide +kernel, by decide +kernel⟩
theorem lo_word : locB (defScope s_word) ["_law_thing", "_law_words"] = true := by decide +kernel
theorem gl_word : glB (defScope s_word) ["isinstance", "str"] = true := by decide +kernel
theorem okd_word (T : Tx w K mg) {f : Addr} {fd : FuncData} (F : Fun K "_law_word" "_law_word" s_word f fd) : FnOk P w K mg base CX0 1 f fd ["_law_thing", "_law_words"] (spM K 2 f_word) := by
  refine fnOk_of F sc_word rfl rfl fun cdv A outer s H E hr => ?_
  have C := ct_of (CX := CX0) (P := P) (w := w) (K := K) (mg := mg) (base := base) (outer := outer) (H := H) (E := E) sc_word.nd (loc_of lo_word) (gl_of gl_word) hr
  exact ((mss_one (ms_ret (me_and (me_isI .str M.boot_str (C.g 0 rfl) T.n_isinstance (C.g 1 rfl) T.n_str (sv C 0 rfl)) (me_one (me_cmp (om_in C.un) (sv C 0 rfl) (sv C 1 rfl) rfl))))))
theorem ok_word (T : Tx w K mg) : FnAt P w K mg base "_law_word" 1 2 f_word := fnAt_of T.d_word rfl fun f fd F => okd_word T F
theorem sc_is_step : FnScope ["_law_step_here", "_law_ops", "_law_tests", "_law_shapes", "_law_shape", "_law_k_here", "_law_part", "_law_good"] ["_law_step_here"] (defScope s_is_step) := ⟨rfl, rfl, rfl, by decide +kernel, rfl, by decide +kernel, by decide +kernel⟩
theorem lo_is_step : locB (defScope s_is_step) ["_law_step_here", "_law_ops", "_law_tests", "_law_shapes", "_law_shape", "_law_k_here", "_law_part", "_law_good"] = true := by decide +kernel
theorem gl_is_step : glB (defScope s_is_step) ["isinstance", "tuple", "len", "str", "range", "_law_number", "_law_word"] = true := by decide +kernel
theorem okd_is_step (T : Tx w K mg) {f : Addr} {fd : FuncData} (F : Fun K "_law_is_step" "_law_is_step" s_is_step f fd) : FnOk P w K mg base CX0 3 f fd ["_law_step_here"] (spM K 1 f_is_step) := by
  refine fnOk_of F sc_is_step rfl rfl fun cdv A outer s H E hr => ?_
  have C := ct_of (CX := CX0) (P := P) (w := w) (K := K) (mg := mg) (base := base) (outer := outer) (H := H) (E := E) sc_is_step.nd (loc_of lo_is_step) (gl_of gl_is_step) hr
  exact ((mss_cons (sa C 1 rfl (me_lst (ma_cons (me_str w_plus_eq) (ma_cons (me_str w_minus_eq) (ma_cons (me_str w_times_eq) (ma_cons (me_str w_over_eq) (ma_cons (me_str w_rest_eq) (ma_cons (me_str w_and_eq) (ma_cons (me_str w_or_eq) (ma_cons (me_str w_xor_eq) (ma_cons (me_str w_left_eq) (ma_cons (me_str w_right_eq) ma_nil rfl) rfl) rfl) rfl) rfl) rfl) rfl) rfl) rfl) rfl)))
    (mss_cons (sa C 2 rfl (me_lst (ma_cons (me_str w_equal_eq) (ma_cons (me_str w_above_eq) (ma_cons (me_str w_least_eq) (ma_cons (me_str w_any_eq) ma_nil rfl) rfl) rfl) rfl)))
    (mss_cons (ms_if (mw_or (mt_not (mt_truth (me_isI .tuple M.boot_tuple (C.g 0 rfl) T.n_isinstance (C.g 1 rfl) T.n_tuple (sv C 0 rfl)) (fun _ => rfl))) (mw_or (mt_cmp (om_eq C.un) (me_callB cm_len (C.g 2 rfl) T.n_len PySem.boot_len (ma_cons (sv C 0 rfl) ma_nil rfl)) me_int (nomark _)) (mw_or1 (mt_not (mt_truth (me_isI .str M.boot_str (C.g 0 rfl) T.n_isinstance (C.g 3 rfl) T.n_str (me_idx (sv C 0 rfl) me_int (fun _ _ => rfl))) (fun _ => rfl)))))).t
    (mss_one (ms_ret me_bl))
    mss_nil)
    (mss_cons (sa C 3 rfl (me_dic (mps_cons w_load_eq (me_str w_zak_eq) (mps_cons w_len_eq (me_str w34_eq) (mps_cons w_set_eq (me_str w_k_eq) (mps_cons w_setx_eq (me_str w_k_eq) (mps_cons w_tax_eq (me_str w34_eq) (mps_cons w_txa_eq (me_str w34_eq) (mps_cons w_keep_eq (me_str w_s_eq) (mps_cons w_fetch_eq (me_str w_s_eq) (mps_cons w_do_eq (me_str w_ok_eq) (mps_cons w_dox_eq (me_str w_o_eq) (mps_cons w_jump_eq (me_str w_n_eq) (mps_cons w_if_eq (me_str w_tknn_eq) (mps_cons w_ifx_eq (me_str w_tnn_eq) (mps_cons w_tell_eq (me_str w_k_eq) (mps_cons w_tella_eq (me_str w34_eq) mps_nil))))))))))))))) (by decide) rfl rfl (by intro h; cases h) (by decide)))
    (mss_cons (sa C 4 rfl (me_dget2 C.un (sv C 3 rfl) (me_idx (sv C 0 rfl) me_int (fun _ _ => rfl)) me_non ⟨rfl, rfl, rfl, rfl⟩))
    (mss_cons (ms_if (mw_or (mt_isN (sv C 4 rfl)) (mw_or1 (mt_cmp (om_ne C.un) (me_callB cm_len (C.g 2 rfl) T.n_len PySem.boot_len (ma_cons (sv C 0 rfl) ma_nil rfl)) (me_bin om_add (me_callB cm_len (C.g 2 rfl) T.n_len PySem.boot_len (ma_cons (sv C 4 rfl) ma_nil rfl)) me_int) (nomark _)))).t
    (mss_one (ms_ret me_bl))
    mss_nil)
    (mss_cons (ms_for PassesOwn.never C.calm (mi_range1 (C.g 4 rfl) T.n_range (me_callB cm_len (C.g 2 rfl) T.n_len PySem.boot_len (ma_cons (sv C 4 rfl) ma_nil rfl))) (st C 5 rfl)
    (mss_cons (sa C 6 rfl (me_idx (sv C 0 rfl) (me_bin om_add (sv C 5 rfl) me_int) (fun _ _ => rfl)))
    (mss_cons (sa C 7 rfl (me_dget C.un (me_dic (mps_cons w_z_eq (me_and (me_fn (ok_number T) (hr.mono (by decide)) (C.g 5 rfl) (ma_cons (sv C 6 rfl) (ma_cons me_int ma_nil rfl) rfl) rfl) (me_one (me_cmp (om_in C.un) (sv C 6 rfl) (me_tup (ma_cons me_int (ma_cons me_int (ma_cons me_int ma_nil rfl) rfl) rfl)) rfl))) (mps_cons w_a_eq (me_fn (ok_word T) (hr.mono (by decide)) (C.g 6 rfl) (ma_cons (sv C 6 rfl) (ma_cons (me_lst (ma_cons (me_str w_at_eq) (ma_cons (me_str w_x_eq) ma_nil rfl) rfl)) ma_nil rfl) rfl) rfl) (mps_cons w_k_eq (me_fn (ok_number T) (hr.mono (by decide)) (C.g 5 rfl) (ma_cons (sv C 6 rfl) (ma_cons me_int ma_nil rfl) rfl) rfl) (mps_cons w_s_eq (me_fn (ok_number T) (hr.mono (by decide)) (C.g 5 rfl) (ma_cons (sv C 6 rfl) (ma_cons me_int ma_nil rfl) rfl) rfl) (mps_cons w_n_eq (me_fn (ok_number T) (hr.mono (by decide)) (C.g 5 rfl) (ma_cons (sv C 6 rfl) (ma_cons me_int ma_nil rfl) rfl) rfl) (mps_cons w_o_eq (me_fn (ok_word T) (hr.mono (by decide)) (C.g 6 rfl) (ma_cons (sv C 6 rfl) (ma_cons (sv C 1 rfl) ma_nil rfl) rfl) rfl) (mps_cons w_t_eq (me_fn (ok_word T) (hr.mono (by decide)) (C.g 6 rfl) (ma_cons (sv C 6 rfl) (ma_cons (sv C 2 rfl) ma_nil rfl) rfl) rfl) mps_nil))))))) (by decide) rfl rfl (by intro h; cases h) (by decide)) (me_idx (sv C 4 rfl) (sv C 5 rfl) (fun _ _ => rfl)) (fun _ _ => rfl)))
    (mss_one (ms_if (mt_not (mt_truth (sv C 7 rfl) (fun _ => rfl)))
    (mss_one (ms_ret me_bl))
    mss_nil)))))
    (mss_cons (ms_if (mw_and (mt_cmp (om_eq C.un) (me_idx (sv C 0 rfl) me_int (fun _ _ => rfl)) (me_str w_do_eq) (nomark _)) (mw_and1 (mt_cmp (om_in C.un) (me_idx (sv C 0 rfl) me_int (fun _ _ => rfl)) (me_tup (ma_cons (me_str w_over_eq) (ma_cons (me_str w_rest_eq) ma_nil rfl) rfl)) rfl))).t
    (mss_one (ms_ret (me_cmp om_gt (me_idx (sv C 0 rfl) me_int (fun _ _ => rfl)) me_int (nomark _))))
    mss_nil)
    (mss_one (ms_ret (me_or (me_cmp (om_ne C.un) (me_idx (sv C 0 rfl) me_int (fun _ _ => rfl)) (me_str w_do_eq) (nomark _)) (me_or (me_cmp (om_notIn C.un) (me_idx (sv C 0 rfl) me_int (fun _ _ => rfl)) (me_tup (ma_cons (me_str w_left_eq) (ma_cons (me_str w_right_eq) ma_nil rfl) rfl)) rfl) (me_one (me_cmp om_lt (me_idx (sv C 0 rfl) me_int (fun _ _ => rfl)) me_int (nomark _))))))))))))))))
theorem ok_is_step (T : Tx w K mg) : FnAt P w K mg base "_law_is_step" 3 1 f_is_step := fnAt_of T.d_is_step rfl fun f fd F => okd_is_step T F
theorem sc_law : FnScope ["_law_script", "_law_step_here", "_law_menu", "_law_some", "_law_at", "_law_way", "_law_thing", "_law_found"] ["_law_script"] (defScope s_law) := ⟨rfl, rfl, rfl, by decide +kernel, rfl, by decide +kernel, by decide +kernel⟩
theorem lo_law : locB (defScope s_law) ["_law_script", "_law_step_here", "_law_menu", "_law_some", "_law_at", "_law_way", "_law_thing", "_law_found"] = true := by decide +kernel
theorem gl_law : glB (defScope s_law) ["_law_step", "_law_mix", "len", "list", "is_step", "isinstance", "bool", "_law_is_step"] = true := by decide +kernel
theorem okd_law (T : Tx w K mg) {f : Addr} {fd : FuncData} (F : Fun K "law" "law" s_law f fd) : FnOk P w K mg base CX0 5 f fd ["_law_script"] (spM K 1 f_law) := by
  refine fnOk_of F sc_law rfl rfl fun cdv A outer s H E hr => ?_
  have C := ct_of (CX := CX0) (P := P) (w := w) (K := K) (mg := mg) (base := base) (outer := outer) (H := H) (E := E) sc_law.nd (loc_of lo_law) (gl_of gl_law) hr
  exact ((mss_cons (sa C 1 rfl (me_fn (ok_step T) (hr.mono (by decide)) (C.g 0 rfl) (ma_cons (sv C 0 rfl) (ma_cons me_int (ma_cons me_int ma_nil rfl) rfl) rfl) rfl))
    (mss_cons (sa C 2 rfl (me_lst (ma_cons me_int (ma_cons (me_neg me_int) (ma_cons me_bl (ma_cons me_bl (ma_cons me_non (ma_cons (me_str w_at_eq) (ma_cons (me_str w_x_eq) (ma_cons (me_str w_y_eq) (ma_cons me_int (ma_cons me_int (ma_cons me_int (ma_cons me_int (ma_cons me_int (ma_cons me_int (ma_cons me_int (ma_cons me_int (ma_cons me_int (ma_cons me_int (ma_cons (me_str w_plus_eq) (ma_cons (me_str w_mod_eq) (ma_cons (me_tup (ma_cons me_int ma_nil rfl)) (ma_cons (me_lst ma_nil) (ma_cons (me_str w_equal_eq) (ma_cons (me_str w_like_eq) (ma_cons (me_str w34_eq) (ma_cons (me_bin om_pow me_int me_int) (ma_cons (me_str w_tell_eq) (ma_cons (me_str w_len_eq) (ma_cons me_int (ma_cons me_int ma_nil rfl) rfl) rfl) rfl) rfl) rfl) rfl) rfl) rfl) rfl) rfl) rfl) rfl) rfl) rfl) rfl) rfl) rfl) rfl) rfl) rfl) rfl) rfl) rfl) rfl) rfl) rfl) rfl) rfl) rfl)))
    (mss_cons (sa C 3 rfl (me_idx (sv C 2 rfl) (me_bin om_mod (me_fn (ok_mix T) (hr.mono (by decide)) (C.g 1 rfl) (ma_cons (sv C 0 rfl) (ma_cons me_int ma_nil rfl) rfl) rfl) me_int) (fun _ _ => rfl)))
    (mss_cons (sa C 4 rfl (me_bin om_mod (me_fn (ok_mix T) (hr.mono (by decide)) (C.g 1 rfl) (ma_cons (sv C 0 rfl) (ma_cons me_int ma_nil rfl) rfl) rfl) (me_callB cm_len (C.g 2 rfl) T.n_len PySem.boot_len (ma_cons (sv C 1 rfl) ma_nil rfl))))
    (mss_cons (sa C 5 rfl (me_bin om_mod (me_fn (ok_mix T) (hr.mono (by decide)) (C.g 1 rfl) (ma_cons (sv C 0 rfl) (ma_cons me_int ma_nil rfl) rfl) rfl) me_int))
    (mss_cons (sa C 6 rfl (sv C 1 rfl))
    (mss_cons (ms_if (mt_cmp (om_in C.un) (sv C 5 rfl) (me_tup (ma_cons me_int (ma_cons me_int ma_nil rfl) rfl)) rfl)
    (mss_one (sa C 6 rfl (me_bin om_add (me_bin om_add (me_slice (sv C 1 rfl) mp_none (mp_some (sv C 4 rfl))) (me_tup (ma_cons (sv C 3 rfl) ma_nil rfl))) (me_slice (sv C 1 rfl) (mp_some (me_bin om_add (sv C 4 rfl) me_int)) mp_none))))
    mss_nil)
    (mss_cons (ms_if (mt_cmp (om_eq C.un) (sv C 5 rfl) me_int (nomark _))
    (mss_one (sa C 6 rfl (me_idx (me_lst (ma_cons (me_bin om_add (sv C 1 rfl) (me_tup (ma_cons (sv C 3 rfl) ma_nil rfl))) (ma_cons (me_slice (sv C 1 rfl) mp_none (mp_some (me_neg me_int))) (ma_cons (me_callTy cm_list (C.g 3 rfl) T.n_list M.boot_list (ma_cons (sv C 1 rfl) ma_nil rfl)) (ma_cons (me_tup (ma_cons (sv C 3 rfl) ma_nil rfl)) ma_nil rfl) rfl) rfl) rfl)) (me_bin om_mod (me_fn (ok_mix T) (hr.mono (by decide)) (C.g 1 rfl) (ma_cons (sv C 0 rfl) (ma_cons me_int ma_nil rfl) rfl) rfl) me_int) (fun _ _ => rfl))))
    mss_nil)
    (mss_cons (ms_if (mt_cmp (om_eq C.un) (sv C 5 rfl) me_int (nomark _))
    (mss_one (sa C 6 rfl (sv C 3 rfl)))
    mss_nil)
    (mss_cons (ms_if (mt_cmp (om_eq C.un) (sv C 5 rfl) me_int (nomark _))
    (mss_one (sa C 6 rfl (me_tup (ma_cons (me_str w_do_eq) (ma_cons (me_idx (me_lst (ma_cons (me_str w_over_eq) (ma_cons (me_str w_left_eq) (ma_cons (me_str w_rest_eq) (ma_cons (me_str w_right_eq) ma_nil rfl) rfl) rfl) rfl)) (me_bin om_mod (sv C 4 rfl) me_int) (fun _ _ => rfl)) (ma_cons (me_idx (me_lst (ma_cons me_int (ma_cons me_int (ma_cons me_int (ma_cons me_int ma_nil rfl) rfl) rfl) rfl)) (me_bin om_mod (me_fn (ok_mix T) (hr.mono (by decide)) (C.g 1 rfl) (ma_cons (sv C 0 rfl) (ma_cons me_int ma_nil rfl) rfl) rfl) me_int) (fun _ _ => rfl)) ma_nil rfl) rfl) rfl))))
    mss_nil)
    (mss_cons (sa C 7 rfl (me_fn (ok_p_is_step T) (hr.mono (by decide)) (C.g 4 rfl) (ma_cons (sv C 6 rfl) ma_nil rfl) rfl))
    (mss_one (ms_ret (me_and (me_isI .bool M.boot_bool (C.g 5 rfl) T.n_isinstance (C.g 6 rfl) T.n_bool (sv C 7 rfl)) (me_one (me_cmp (om_eq C.un) (sv C 7 rfl) (me_fn (ok_is_step T) (hr.mono (by decide)) (C.g 7 rfl) (ma_cons (sv C 6 rfl) ma_nil rfl) rfl) (nomark _))))))))))))))))))
theorem ok_law (T : Tx w K mg) : FnAt P w K mg base "law" 5 1 f_law := fnAt_of T.d_law rfl fun f fd F => okd_law T F
theorem finish {fa : Addr} (hmg : mg "law" = some (.ref fa)) (T : Tx w K mg) : ∃ fd : FuncData, BindsS fd ["_law_script"] ∧ ∀ base : Heap, FnOk P w K mg base CX0 5 fa fd ["_law_script"] (spM K 1 f_law) := by
  obtain ⟨f, fd, h1, h2, h3⟩ := T.d_law
  have e := hmg.symm.trans h1
  cases e
  exact ⟨fd, h3, fun base => okd_law T h2⟩
theorem mkT {h : Heap} (KX : K.In h) (G : h.Ns mainGlobals mg)
    (n_len : PySem.W.nsIn K mainGlobals "len" = some none)
    (n_max : PySem.W.nsIn K mainGlobals "max" = some none)
    (n_list : PySem.W.nsIn K mainGlobals "list" = some none)
    (n_isinstance : PySem.W.nsIn K mainGlobals "isinstance" = some none)
    (n_tuple : PySem.W.nsIn K mainGlobals "tuple" = some none)
    (n_str : PySem.W.nsIn K mainGlobals "str" = some none)
    (n_zip : PySem.W.nsIn K mainGlobals "zip" = some none)
    (n_int : PySem.W.nsIn K mainGlobals "int" = some none)
    (n_bool : PySem.W.nsIn K mainGlobals "bool" = some none)
    (n_all : PySem.W.nsIn K mainGlobals "all" = some none)
    (n_range : PySem.W.nsIn K mainGlobals "range" = some none)
    {p_PARTS : Addr} {ep_PARTS : Nat} {k0_PARTS k1_PARTS k2_PARTS k3_PARTS k4_PARTS k5_PARTS k6_PARTS k7_PARTS k8_PARTS k9_PARTS k10_PARTS k11_PARTS k12_PARTS k13_PARTS k14_PARTS : Tok} {v0_PARTS v1_PARTS v2_PARTS v3_PARTS v4_PARTS v5_PARTS v6_PARTS v7_PARTS v8_PARTS v9_PARTS v10_PARTS v11_PARTS v12_PARTS v13_PARTS v14_PARTS : Addr}
    (a_PARTS : PySem.W.nsIn K mainGlobals "PARTS" = some (some (.ref p_PARTS)))
    (l_PARTS : K.lookup p_PARTS = some ⟨.type "dict", none, .dict #[⟨PyData.keyHash w.params ⟨w_load.toArray⟩, .str ⟨w_load.toArray⟩ k0_PARTS, .ref v0_PARTS⟩, ⟨PyData.keyHash w.params ⟨w_len.toArray⟩, .str ⟨w_len.toArray⟩ k1_PARTS, .ref v1_PARTS⟩, ⟨PyData.keyHash w.params ⟨w_set.toArray⟩, .str ⟨w_set.toArray⟩ k2_PARTS, .ref v2_PARTS⟩, ⟨PyData.keyHash w.params ⟨w_setx.toArray⟩, .str ⟨w_setx.toArray⟩ k3_PARTS, .ref v3_PARTS⟩, ⟨PyData.keyHash w.params ⟨w_tax.toArray⟩, .str ⟨w_tax.toArray⟩ k4_PARTS, .ref v4_PARTS⟩, ⟨PyData.keyHash w.params ⟨w_txa.toArray⟩, .str ⟨w_txa.toArray⟩ k5_PARTS, .ref v5_PARTS⟩, ⟨PyData.keyHash w.params ⟨w_keep.toArray⟩, .str ⟨w_keep.toArray⟩ k6_PARTS, .ref v6_PARTS⟩, ⟨PyData.keyHash w.params ⟨w_fetch.toArray⟩, .str ⟨w_fetch.toArray⟩ k7_PARTS, .ref v7_PARTS⟩, ⟨PyData.keyHash w.params ⟨w_do.toArray⟩, .str ⟨w_do.toArray⟩ k8_PARTS, .ref v8_PARTS⟩, ⟨PyData.keyHash w.params ⟨w_dox.toArray⟩, .str ⟨w_dox.toArray⟩ k9_PARTS, .ref v9_PARTS⟩, ⟨PyData.keyHash w.params ⟨w_jump.toArray⟩, .str ⟨w_jump.toArray⟩ k10_PARTS, .ref v10_PARTS⟩, ⟨PyData.keyHash w.params ⟨w_if.toArray⟩, .str ⟨w_if.toArray⟩ k11_PARTS, .ref v11_PARTS⟩, ⟨PyData.keyHash w.params ⟨w_ifx.toArray⟩, .str ⟨w_ifx.toArray⟩ k12_PARTS, .ref v12_PARTS⟩, ⟨PyData.keyHash w.params ⟨w_tell.toArray⟩, .str ⟨w_tell.toArray⟩ k13_PARTS, .ref v13_PARTS⟩, ⟨PyData.keyHash w.params ⟨w_tella.toArray⟩, .str ⟨w_tella.toArray⟩ k14_PARTS, .ref v14_PARTS⟩] ep_PARTS, #[]⟩)
    (h_PARTS : (p_PARTS == sysModules) = false)
    {u0_0_PARTS u0_1_PARTS u0_2_PARTS : Tok} {od0_PARTS : Option Addr} {z0_PARTS : Nat} {sl0_PARTS : Array (Option Value)}
    (l0_PARTS : K.lookup v0_PARTS = some ⟨.type "tuple", od0_PARTS, .seq #[.str ⟨w_size.toArray⟩ u0_0_PARTS, .str ⟨w_base.toArray⟩ u0_1_PARTS, .str ⟨w_number.toArray⟩ u0_2_PARTS] z0_PARTS, sl0_PARTS⟩)
    {od1_PARTS : Option Addr} {z1_PARTS : Nat} {sl1_PARTS : Array (Option Value)}
    (l1_PARTS : K.lookup v1_PARTS = some ⟨.type "tuple", od1_PARTS, .seq #[] z1_PARTS, sl1_PARTS⟩)
    {u2_0_PARTS : Tok} {od2_PARTS : Option Addr} {z2_PARTS : Nat} {sl2_PARTS : Array (Option Value)}
    (l2_PARTS : K.lookup v2_PARTS = some ⟨.type "tuple", od2_PARTS, .seq #[.str ⟨w_number.toArray⟩ u2_0_PARTS] z2_PARTS, sl2_PARTS⟩)
    {u3_0_PARTS : Tok} {od3_PARTS : Option Addr} {z3_PARTS : Nat} {sl3_PARTS : Array (Option Value)}
    (l3_PARTS : K.lookup v3_PARTS = some ⟨.type "tuple", od3_PARTS, .seq #[.str ⟨w_number.toArray⟩ u3_0_PARTS] z3_PARTS, sl3_PARTS⟩)
    {od4_PARTS : Option Addr} {z4_PARTS : Nat} {sl4_PARTS : Array (Option Value)}
    (l4_PARTS : K.lookup v4_PARTS = some ⟨.type "tuple", od4_PARTS, .seq #[] z4_PARTS, sl4_PARTS⟩)
    {od5_PARTS : Option Addr} {z5_PARTS : Nat} {sl5_PARTS : Array (Option Value)}
    (l5_PARTS : K.lookup v5_PARTS = some ⟨.type "tuple", od5_PARTS, .seq #[] z5_PARTS, sl5_PARTS⟩)
    {u6_0_PARTS : Tok} {od6_PARTS : Option Addr} {z6_PARTS : Nat} {sl6_PARTS : Array (Option Value)}
    (l6_PARTS : K.lookup v6_PARTS = some ⟨.type "tuple", od6_PARTS, .seq #[.str ⟨w_slot.toArray⟩ u6_0_PARTS] z6_PARTS, sl6_PARTS⟩)
    {u7_0_PARTS : Tok} {od7_PARTS : Option Addr} {z7_PARTS : Nat} {sl7_PARTS : Array (Option Value)}
    (l7_PARTS : K.lookup v7_PARTS = some ⟨.type "tuple", od7_PARTS, .seq #[.str ⟨w_slot.toArray⟩ u7_0_PARTS] z7_PARTS, sl7_PARTS⟩)
    {u8_0_PARTS u8_1_PARTS : Tok} {od8_PARTS : Option Addr} {z8_PARTS : Nat} {sl8_PARTS : Array (Option Value)}
    (l8_PARTS : K.lookup v8_PARTS = some ⟨.type "tuple", od8_PARTS, .seq #[.str ⟨w_op.toArray⟩ u8_0_PARTS, .str ⟨w_number.toArray⟩ u8_1_PARTS] z8_PARTS, sl8_PARTS⟩)
    {u9_0_PARTS : Tok} {od9_PARTS : Option Addr} {z9_PARTS : Nat} {sl9_PARTS : Array (Option Value)}
    (l9_PARTS : K.lookup v9_PARTS = some ⟨.type "tuple", od9_PARTS, .seq #[.str ⟨w_op.toArray⟩ u9_0_PARTS] z9_PARTS, sl9_PARTS⟩)
    {u10_0_PARTS : Tok} {od10_PARTS : Option Addr} {z10_PARTS : Nat} {sl10_PARTS : Array (Option Value)}
    (l10_PARTS : K.lookup v10_PARTS = some ⟨.type "tuple", od10_PARTS, .seq #[.str ⟨w_distance.toArray⟩ u10_0_PARTS] z10_PARTS, sl10_PARTS⟩)
    {u11_0_PARTS u11_1_PARTS u11_2_PARTS u11_3_PARTS : Tok} {od11_PARTS : Option Addr} {z11_PARTS : Nat} {sl11_PARTS : Array (Option Value)}
    (l11_PARTS : K.lookup v11_PARTS = some ⟨.type "tuple", od11_PARTS, .seq #[.str ⟨w_test.toArray⟩ u11_0_PARTS, .str ⟨w_number.toArray⟩ u11_1_PARTS, .str ⟨w_distance.toArray⟩ u11_2_PARTS, .str ⟨w_distance.toArray⟩ u11_3_PARTS] z11_PARTS, sl11_PARTS⟩)
    {u12_0_PARTS u12_1_PARTS u12_2_PARTS : Tok} {od12_PARTS : Option Addr} {z12_PARTS : Nat} {sl12_PARTS : Array (Option Value)}
    (l12_PARTS : K.lookup v12_PARTS = some ⟨.type "tuple", od12_PARTS, .seq #[.str ⟨w_test.toArray⟩ u12_0_PARTS, .str ⟨w_distance.toArray⟩ u12_1_PARTS, .str ⟨w_distance.toArray⟩ u12_2_PARTS] z12_PARTS, sl12_PARTS⟩)
    {u13_0_PARTS : Tok} {od13_PARTS : Option Addr} {z13_PARTS : Nat} {sl13_PARTS : Array (Option Value)}
    (l13_PARTS : K.lookup v13_PARTS = some ⟨.type "tuple", od13_PARTS, .seq #[.str ⟨w_number.toArray⟩ u13_0_PARTS] z13_PARTS, sl13_PARTS⟩)
    {od14_PARTS : Option Addr} {z14_PARTS : Nat} {sl14_PARTS : Array (Option Value)}
    (l14_PARTS : K.lookup v14_PARTS = some ⟨.type "tuple", od14_PARTS, .seq #[] z14_PARTS, sl14_PARTS⟩)
    {t_ROUND : Tok}
    (a_ROUND : PySem.W.nsIn K mainGlobals "ROUND" = some (some (.int 4294967296 t_ROUND)))
    {p_SIZES : Addr} {t0_SIZES t1_SIZES t2_SIZES : Tok} {od_SIZES : Option Addr} {z_SIZES : Nat} {sl_SIZES : Array (Option Value)}
    (a_SIZES : PySem.W.nsIn K mainGlobals "SIZES" = some (some (.ref p_SIZES)))
    (l_SIZES : K.lookup p_SIZES = some ⟨.type "tuple", od_SIZES, .seq #[.int 1 t0_SIZES, .int 2 t1_SIZES, .int 4 t2_SIZES] z_SIZES, sl_SIZES⟩)
    {t_SLOTS : Tok}
    (a_SLOTS : PySem.W.nsIn K mainGlobals "SLOTS" = some (some (.int 8 t_SLOTS)))
    {t_FARTHEST : Tok}
    (a_FARTHEST : PySem.W.nsIn K mainGlobals "FARTHEST" = some (some (.int 2000 t_FARTHEST)))
    {p_BASES : Addr} {t0_BASES t1_BASES : Tok} {od_BASES : Option Addr} {z_BASES : Nat} {sl_BASES : Array (Option Value)}
    (a_BASES : PySem.W.nsIn K mainGlobals "BASES" = some (some (.ref p_BASES)))
    (l_BASES : K.lookup p_BASES = some ⟨.type "tuple", od_BASES, .seq #[.str ⟨w_at.toArray⟩ t0_BASES, .str ⟨w_x.toArray⟩ t1_BASES] z_BASES, sl_BASES⟩)
    {p_OPS : Addr} {t0_OPS t1_OPS t2_OPS t3_OPS t4_OPS t5_OPS t6_OPS t7_OPS t8_OPS t9_OPS : Tok} {od_OPS : Option Addr} {z_OPS : Nat} {sl_OPS : Array (Option Value)}
    (a_OPS : PySem.W.nsIn K mainGlobals "OPS" = some (some (.ref p_OPS)))
    (l_OPS : K.lookup p_OPS = some ⟨.type "tuple", od_OPS, .seq #[.str ⟨w_plus.toArray⟩ t0_OPS, .str ⟨w_minus.toArray⟩ t1_OPS, .str ⟨w_times.toArray⟩ t2_OPS, .str ⟨w_over.toArray⟩ t3_OPS, .str ⟨w_rest.toArray⟩ t4_OPS, .str ⟨w_and.toArray⟩ t5_OPS, .str ⟨w_or.toArray⟩ t6_OPS, .str ⟨w_xor.toArray⟩ t7_OPS, .str ⟨w_left.toArray⟩ t8_OPS, .str ⟨w_right.toArray⟩ t9_OPS] z_OPS, sl_OPS⟩)
    {p_TESTS : Addr} {t0_TESTS t1_TESTS t2_TESTS t3_TESTS : Tok} {od_TESTS : Option Addr} {z_TESTS : Nat} {sl_TESTS : Array (Option Value)}
    (a_TESTS : PySem.W.nsIn K mainGlobals "TESTS" = some (some (.ref p_TESTS)))
    (l_TESTS : K.lookup p_TESTS = some ⟨.type "tuple", od_TESTS, .seq #[.str ⟨w_equal.toArray⟩ t0_TESTS, .str ⟨w_above.toArray⟩ t1_TESTS, .str ⟨w_least.toArray⟩ t2_TESTS, .str ⟨w_any.toArray⟩ t3_TESTS] z_TESTS, sl_TESTS⟩)
    {p_DIVIDING : Addr} {t0_DIVIDING t1_DIVIDING : Tok} {od_DIVIDING : Option Addr} {z_DIVIDING : Nat} {sl_DIVIDING : Array (Option Value)}
    (a_DIVIDING : PySem.W.nsIn K mainGlobals "DIVIDING" = some (some (.ref p_DIVIDING)))
    (l_DIVIDING : K.lookup p_DIVIDING = some ⟨.type "tuple", od_DIVIDING, .seq #[.str ⟨w_over.toArray⟩ t0_DIVIDING, .str ⟨w_rest.toArray⟩ t1_DIVIDING] z_DIVIDING, sl_DIVIDING⟩)
    {p_SHIFTING : Addr} {t0_SHIFTING t1_SHIFTING : Tok} {od_SHIFTING : Option Addr} {z_SHIFTING : Nat} {sl_SHIFTING : Array (Option Value)}
    (a_SHIFTING : PySem.W.nsIn K mainGlobals "SHIFTING" = some (some (.ref p_SHIFTING)))
    (l_SHIFTING : K.lookup p_SHIFTING = some ⟨.type "tuple", od_SHIFTING, .seq #[.str ⟨w_left.toArray⟩ t0_SHIFTING, .str ⟨w_right.toArray⟩ t1_SHIFTING] z_SHIFTING, sl_SHIFTING⟩)
    {t_WIDTH : Tok}
    (a_WIDTH : PySem.W.nsIn K mainGlobals "WIDTH" = some (some (.int 32 t_WIDTH)))
    {q_cell : Addr} {oc_cell kV_cell dc_cell pm_cell cd_cell ct_cell : Value} {od_cell an_cell : Option Addr} {os_cell : Array (Option Value)}
    (a_cell : PySem.W.nsIn K mainGlobals "_law_cell" = some (some (.ref q_cell)))
    (l_cell : K.lookup q_cell = some ⟨oc_cell, od_cell, .func (PySem.W.fnOf "_law_cell" "_law_cell" (defArgs s_cell) (defBody s_cell) (defScope s_cell) .none kV_cell dc_cell pm_cell an_cell cd_cell ct_cell), os_cell⟩)
    (c_cell : PySem.W.codeIn K cd_cell "_law_cell" = true)
    (k_cell : PySem.W.keepIn K (.ref q_cell) = true)
    {q_mix : Addr} {oc_mix kV_mix dc_mix pm_mix cd_mix ct_mix : Value} {od_mix an_mix : Option Addr} {os_mix : Array (Option Value)}
    (a_mix : PySem.W.nsIn K mainGlobals "_law_mix" = some (some (.ref q_mix)))
    (l_mix : K.lookup q_mix = some ⟨oc_mix, od_mix, .func (PySem.W.fnOf "_law_mix" "_law_mix" (defArgs s_mix) (defBody s_mix) (defScope s_mix) .none kV_mix dc_mix pm_mix an_mix cd_mix ct_mix), os_mix⟩)
    (c_mix : PySem.W.codeIn K cd_mix "_law_mix" = true)
    (k_mix : PySem.W.keepIn K (.ref q_mix) = true)
    {q_k : Addr} {oc_k kV_k dc_k pm_k cd_k ct_k : Value} {od_k an_k : Option Addr} {os_k : Array (Option Value)}
    (a_k : PySem.W.nsIn K mainGlobals "_law_k" = some (some (.ref q_k)))
    (l_k : K.lookup q_k = some ⟨oc_k, od_k, .func (PySem.W.fnOf "_law_k" "_law_k" (defArgs s_k) (defBody s_k) (defScope s_k) .none kV_k dc_k pm_k an_k cd_k ct_k), os_k⟩)
    (c_k : PySem.W.codeIn K cd_k "_law_k" = true)
    (k_k : PySem.W.keepIn K (.ref q_k) = true)
    {q_op : Addr} {oc_op kV_op dc_op pm_op cd_op ct_op : Value} {od_op an_op : Option Addr} {os_op : Array (Option Value)}
    (a_op : PySem.W.nsIn K mainGlobals "_law_op" = some (some (.ref q_op)))
    (l_op : K.lookup q_op = some ⟨oc_op, od_op, .func (PySem.W.fnOf "_law_op" "_law_op" (defArgs s_op) (defBody s_op) (defScope s_op) .none kV_op dc_op pm_op an_op cd_op ct_op), os_op⟩)
    (c_op : PySem.W.codeIn K cd_op "_law_op" = true)
    (k_op : PySem.W.keepIn K (.ref q_op) = true)
    {q_step : Addr} {oc_step kV_step dc_step pm_step cd_step ct_step : Value} {od_step an_step : Option Addr} {os_step : Array (Option Value)}
    (a_step : PySem.W.nsIn K mainGlobals "_law_step" = some (some (.ref q_step)))
    (l_step : K.lookup q_step = some ⟨oc_step, od_step, .func (PySem.W.fnOf "_law_step" "_law_step" (defArgs s_step) (defBody s_step) (defScope s_step) .none kV_step dc_step pm_step an_step cd_step ct_step), os_step⟩)
    (c_step : PySem.W.codeIn K cd_step "_law_step" = true)
    (k_step : PySem.W.keepIn K (.ref q_step) = true)
    {q_p_is_whole : Addr} {oc_p_is_whole kV_p_is_whole dc_p_is_whole pm_p_is_whole cd_p_is_whole ct_p_is_whole : Value} {od_p_is_whole an_p_is_whole : Option Addr} {os_p_is_whole : Array (Option Value)}
    (a_p_is_whole : PySem.W.nsIn K mainGlobals "is_whole" = some (some (.ref q_p_is_whole)))
    (l_p_is_whole : K.lookup q_p_is_whole = some ⟨oc_p_is_whole, od_p_is_whole, .func (PySem.W.fnOf "is_whole" "is_whole" (defArgs s_p_is_whole) (defBody s_p_is_whole) (defScope s_p_is_whole) .none kV_p_is_whole dc_p_is_whole pm_p_is_whole an_p_is_whole cd_p_is_whole ct_p_is_whole), os_p_is_whole⟩)
    (c_p_is_whole : PySem.W.codeIn K cd_p_is_whole "is_whole" = true)
    (k_p_is_whole : PySem.W.keepIn K (.ref q_p_is_whole) = true)
    {q_p_is_number : Addr} {oc_p_is_number kV_p_is_number dc_p_is_number pm_p_is_number cd_p_is_number ct_p_is_number : Value} {od_p_is_number an_p_is_number : Option Addr} {os_p_is_number : Array (Option Value)}
    (a_p_is_number : PySem.W.nsIn K mainGlobals "is_number" = some (some (.ref q_p_is_number)))
    (l_p_is_number : K.lookup q_p_is_number = some ⟨oc_p_is_number, od_p_is_number, .func (PySem.W.fnOf "is_number" "is_number" (defArgs s_p_is_number) (defBody s_p_is_number) (defScope s_p_is_number) .none kV_p_is_number dc_p_is_number pm_p_is_number an_p_is_number cd_p_is_number ct_p_is_number), os_p_is_number⟩)
    (c_p_is_number : PySem.W.codeIn K cd_p_is_number "is_number" = true)
    (k_p_is_number : PySem.W.keepIn K (.ref q_p_is_number) = true)
    {q_p_is_part : Addr} {oc_p_is_part kV_p_is_part dc_p_is_part pm_p_is_part cd_p_is_part ct_p_is_part : Value} {od_p_is_part an_p_is_part : Option Addr} {os_p_is_part : Array (Option Value)}
    (a_p_is_part : PySem.W.nsIn K mainGlobals "is_part" = some (some (.ref q_p_is_part)))
    (l_p_is_part : K.lookup q_p_is_part = some ⟨oc_p_is_part, od_p_is_part, .func (PySem.W.fnOf "is_part" "is_part" (defArgs s_p_is_part) (defBody s_p_is_part) (defScope s_p_is_part) .none kV_p_is_part dc_p_is_part pm_p_is_part an_p_is_part cd_p_is_part ct_p_is_part), os_p_is_part⟩)
    (c_p_is_part : PySem.W.codeIn K cd_p_is_part "is_part" = true)
    (k_p_is_part : PySem.W.keepIn K (.ref q_p_is_part) = true)
    {q_p_can_be_done_by : Addr} {oc_p_can_be_done_by kV_p_can_be_done_by dc_p_can_be_done_by pm_p_can_be_done_by cd_p_can_be_done_by ct_p_can_be_done_by : Value} {od_p_can_be_done_by an_p_can_be_done_by : Option Addr} {os_p_can_be_done_by : Array (Option Value)}
    (a_p_can_be_done_by : PySem.W.nsIn K mainGlobals "can_be_done_by" = some (some (.ref q_p_can_be_done_by)))
    (l_p_can_be_done_by : K.lookup q_p_can_be_done_by = some ⟨oc_p_can_be_done_by, od_p_can_be_done_by, .func (PySem.W.fnOf "can_be_done_by" "can_be_done_by" (defArgs s_p_can_be_done_by) (defBody s_p_can_be_done_by) (defScope s_p_can_be_done_by) .none kV_p_can_be_done_by dc_p_can_be_done_by pm_p_can_be_done_by an_p_can_be_done_by cd_p_can_be_done_by ct_p_can_be_done_by), os_p_can_be_done_by⟩)
    (c_p_can_be_done_by : PySem.W.codeIn K cd_p_can_be_done_by "can_be_done_by" = true)
    (k_p_can_be_done_by : PySem.W.keepIn K (.ref q_p_can_be_done_by) = true)
    {q_p_is_step : Addr} {oc_p_is_step kV_p_is_step dc_p_is_step pm_p_is_step cd_p_is_step ct_p_is_step : Value} {od_p_is_step an_p_is_step : Option Addr} {os_p_is_step : Array (Option Value)}
    (a_p_is_step : PySem.W.nsIn K mainGlobals "is_step" = some (some (.ref q_p_is_step)))
    (l_p_is_step : K.lookup q_p_is_step = some ⟨oc_p_is_step, od_p_is_step, .func (PySem.W.fnOf "is_step" "is_step" (defArgs s_p_is_step) (defBody s_p_is_step) (defScope s_p_is_step) .none kV_p_is_step dc_p_is_step pm_p_is_step an_p_is_step cd_p_is_step ct_p_is_step), os_p_is_step⟩)
    (c_p_is_step : PySem.W.codeIn K cd_p_is_step "is_step" = true)
    (k_p_is_step : PySem.W.keepIn K (.ref q_p_is_step) = true)
    {q_whole : Addr} {oc_whole kV_whole dc_whole pm_whole cd_whole ct_whole : Value} {od_whole an_whole : Option Addr} {os_whole : Array (Option Value)}
    (a_whole : PySem.W.nsIn K mainGlobals "_law_whole" = some (some (.ref q_whole)))
    (l_whole : K.lookup q_whole = some ⟨oc_whole, od_whole, .func (PySem.W.fnOf "_law_whole" "_law_whole" (defArgs s_whole) (defBody s_whole) (defScope s_whole) .none kV_whole dc_whole pm_whole an_whole cd_whole ct_whole), os_whole⟩)
    (c_whole : PySem.W.codeIn K cd_whole "_law_whole" = true)
    (k_whole : PySem.W.keepIn K (.ref q_whole) = true)
    {q_number : Addr} {oc_number kV_number dc_number pm_number cd_number ct_number : Value} {od_number an_number : Option Addr} {os_number : Array (Option Value)}
    (a_number : PySem.W.nsIn K mainGlobals "_law_number" = some (some (.ref q_number)))
    (l_number : K.lookup q_number = some ⟨oc_number, od_number, .func (PySem.W.fnOf "_law_number" "_law_number" (defArgs s_number) (defBody s_number) (defScope s_number) .none kV_number dc_number pm_number an_number cd_number ct_number), os_number⟩)
    (c_number : PySem.W.codeIn K cd_number "_law_number" = true)
    (k_number : PySem.W.keepIn K (.ref q_number) = true)
    {q_word : Addr} {oc_word kV_word dc_word pm_word cd_word ct_word : Value} {od_word an_word : Option Addr} {os_word : Array (Option Value)}
    (a_word : PySem.W.nsIn K mainGlobals "_law_word" = some (some (.ref q_word)))
    (l_word : K.lookup q_word = some ⟨oc_word, od_word, .func (PySem.W.fnOf "_law_word" "_law_word" (defArgs s_word) (defBody s_word) (defScope s_word) .none kV_word dc_word pm_word an_word cd_word ct_word), os_word⟩)
    (c_word : PySem.W.codeIn K cd_word "_law_word" = true)
    (k_word : PySem.W.keepIn K (.ref q_word) = true)
    {q_is_step : Addr} {oc_is_step kV_is_step dc_is_step pm_is_step cd_is_step ct_is_step : Value} {od_is_step an_is_step : Option Addr} {os_is_step : Array (Option Value)}
    (a_is_step : PySem.W.nsIn K mainGlobals "_law_is_step" = some (some (.ref q_is_step)))
    (l_is_step : K.lookup q_is_step = some ⟨oc_is_step, od_is_step, .func (PySem.W.fnOf "_law_is_step" "_law_is_step" (defArgs s_is_step) (defBody s_is_step) (defScope s_is_step) .none kV_is_step dc_is_step pm_is_step an_is_step cd_is_step ct_is_step), os_is_step⟩)
    (c_is_step : PySem.W.codeIn K cd_is_step "_law_is_step" = true)
    (k_is_step : PySem.W.keepIn K (.ref q_is_step) = true)
    {q_law : Addr} {oc_law kV_law dc_law pm_law cd_law ct_law : Value} {od_law an_law : Option Addr} {os_law : Array (Option Value)}
    (a_law : PySem.W.nsIn K mainGlobals "law" = some (some (.ref q_law)))
    (l_law : K.lookup q_law = some ⟨oc_law, od_law, .func (PySem.W.fnOf "law" "law" (defArgs s_law) (defBody s_law) (defScope s_law) .none kV_law dc_law pm_law an_law cd_law ct_law), os_law⟩)
    (c_law : PySem.W.codeIn K cd_law "law" = true)
    (k_law : PySem.W.keepIn K (.ref q_law) = true) : Tx w K mg :=
  ⟨PySem.W.mg_none_of KX G n_len,
   PySem.W.mg_none_of KX G n_max,
   PySem.W.mg_none_of KX G n_list,
   PySem.W.mg_none_of KX G n_isinstance,
   PySem.W.mg_none_of KX G n_tuple,
   PySem.W.mg_none_of KX G n_str,
   PySem.W.mg_none_of KX G n_zip,
   PySem.W.mg_none_of KX G n_int,
   PySem.W.mg_none_of KX G n_bool,
   PySem.W.mg_none_of KX G n_all,
   PySem.W.mg_none_of KX G n_range,
   dict_mk [(w_load, k0_PARTS, v0_PARTS), (w_len, k1_PARTS, v1_PARTS), (w_set, k2_PARTS, v2_PARTS), (w_setx, k3_PARTS, v3_PARTS), (w_tax, k4_PARTS, v4_PARTS), (w_txa, k5_PARTS, v5_PARTS), (w_keep, k6_PARTS, v6_PARTS), (w_fetch, k7_PARTS, v7_PARTS), (w_do, k8_PARTS, v8_PARTS), (w_dox, k9_PARTS, v9_PARTS), (w_jump, k10_PARTS, v10_PARTS), (w_if, k11_PARTS, v11_PARTS), (w_ifx, k12_PARTS, v12_PARTS), (w_tell, k13_PARTS, v13_PARTS), (w_tella, k14_PARTS, v14_PARTS)] KX G a_PARTS l_PARTS h_PARTS (show ([w_load, w_len, w_set, w_setx, w_tax, w_txa, w_keep, w_fetch, w_do, w_dox, w_jump, w_if, w_ifx, w_tell, w_tella] : List (List Nat)).Nodup by decide) rfl (fun F α => (reps_cons (rep_tupK (vs := [.str ⟨w_size.toArray⟩, .str ⟨w_base.toArray⟩, .str ⟨w_number.toArray⟩]) l0_PARTS (by show 3 ≤ 16777216; decide) (.cons ⟨_, rfl⟩ (.cons ⟨_, rfl⟩ (.cons ⟨_, rfl⟩ .nil))) (reps_cons (by unfold Rep; rfl) (reps_cons (by unfold Rep; rfl) (reps_cons (by unfold Rep; rfl) reps_nil)))) (reps_cons (rep_tupK (vs := []) l1_PARTS (by show 0 ≤ 16777216; decide) .nil reps_nil) (reps_cons (rep_tupK (vs := [.str ⟨w_number.toArray⟩]) l2_PARTS (by show 1 ≤ 16777216; decide) (.cons ⟨_, rfl⟩ .nil) (reps_cons (by unfold Rep; rfl) reps_nil)) (reps_cons (rep_tupK (vs := [.str ⟨w_number.toArray⟩]) l3_PARTS (by show 1 ≤ 16777216; decide) (.cons ⟨_, rfl⟩ .nil) (reps_cons (by unfold Rep; rfl) reps_nil)) (reps_cons (rep_tupK (vs := []) l4_PARTS (by show 0 ≤ 16777216; decide) .nil reps_nil) (reps_cons (rep_tupK (vs := []) l5_PARTS (by show 0 ≤ 16777216; decide) .nil reps_nil) (reps_cons (rep_tupK (vs := [.str ⟨w_slot.toArray⟩]) l6_PARTS (by show 1 ≤ 16777216; decide) (.cons ⟨_, rfl⟩ .nil) (reps_cons (by unfold Rep; rfl) reps_nil)) (reps_cons (rep_tupK (vs := [.str ⟨w_slot.toArray⟩]) l7_PARTS (by show 1 ≤ 16777216; decide) (.cons ⟨_, rfl⟩ .nil) (reps_cons (by unfold Rep; rfl) reps_nil)) (reps_cons (rep_tupK (vs := [.str ⟨w_op.toArray⟩, .str ⟨w_number.toArray⟩]) l8_PARTS (by show 2 ≤ 16777216; decide) (.cons ⟨_, rfl⟩ (.cons ⟨_, rfl⟩ .nil)) (reps_cons (by unfold Rep; rfl) (reps_cons (by unfold Rep; rfl) reps_nil))) (reps_cons (rep_tupK (vs := [.str ⟨w_op.toArray⟩]) l9_PARTS (by show 1 ≤ 16777216; decide) (.cons ⟨_, rfl⟩ .nil) (reps_cons (by unfold Rep; rfl) reps_nil)) (reps_cons (rep_tupK (vs := [.str ⟨w_distance.toArray⟩]) l10_PARTS (by show 1 ≤ 16777216; decide) (.cons ⟨_, rfl⟩ .nil) (reps_cons (by unfold Rep; rfl) reps_nil)) (reps_cons (rep_tupK (vs := [.str ⟨w_test.toArray⟩, .str ⟨w_number.toArray⟩, .str ⟨w_distance.toArray⟩, .str ⟨w_distance.toArray⟩]) l11_PARTS (by show 4 ≤ 16777216; decide) (.cons ⟨_, rfl⟩ (.cons ⟨_, rfl⟩ (.cons ⟨_, rfl⟩ (.cons ⟨_, rfl⟩ .nil)))) (reps_cons (by unfold Rep; rfl) (reps_cons (by unfold Rep; rfl) (reps_cons (by unfold Rep; rfl) (reps_cons (by unfold Rep; rfl) reps_nil))))) (reps_cons (rep_tupK (vs := [.str ⟨w_test.toArray⟩, .str ⟨w_distance.toArray⟩, .str ⟨w_distance.toArray⟩]) l12_PARTS (by show 3 ≤ 16777216; decide) (.cons ⟨_, rfl⟩ (.cons ⟨_, rfl⟩ (.cons ⟨_, rfl⟩ .nil))) (reps_cons (by unfold Rep; rfl) (reps_cons (by unfold Rep; rfl) (reps_cons (by unfold Rep; rfl) reps_nil)))) (reps_cons (rep_tupK (vs := [.str ⟨w_number.toArray⟩]) l13_PARTS (by show 1 ≤ 16777216; decide) (.cons ⟨_, rfl⟩ .nil) (reps_cons (by unfold Rep; rfl) reps_nil)) (reps_cons (rep_tupK (vs := []) l14_PARTS (by show 0 ≤ 16777216; decide) .nil reps_nil) reps_nil)))))))))))))))),
   const_int KX G a_ROUND,
   const_tup (vs := [.int 1, .int 2, .int 4]) KX G a_SIZES l_SIZES (by show 3 ≤ 16777216; decide) (.cons ⟨_, rfl⟩ (.cons ⟨_, rfl⟩ (.cons ⟨_, rfl⟩ .nil))) (fun F α => (reps_cons (by unfold Rep; rfl) (reps_cons (by unfold Rep; rfl) (reps_cons (by unfold Rep; rfl) reps_nil)))),
   const_int KX G a_SLOTS,
   const_int KX G a_FARTHEST,
   const_tup (vs := [.str ⟨w_at.toArray⟩, .str ⟨w_x.toArray⟩]) KX G a_BASES l_BASES (by show 2 ≤ 16777216; decide) (.cons ⟨_, rfl⟩ (.cons ⟨_, rfl⟩ .nil)) (fun F α => (reps_cons (by unfold Rep; rfl) (reps_cons (by unfold Rep; rfl) reps_nil))),
   const_tup (vs := [.str ⟨w_plus.toArray⟩, .str ⟨w_minus.toArray⟩, .str ⟨w_times.toArray⟩, .str ⟨w_over.toArray⟩, .str ⟨w_rest.toArray⟩, .str ⟨w_and.toArray⟩, .str ⟨w_or.toArray⟩, .str ⟨w_xor.toArray⟩, .str ⟨w_left.toArray⟩, .str ⟨w_right.toArray⟩]) KX G a_OPS l_OPS (by show 10 ≤ 16777216; decide) (.cons ⟨_, rfl⟩ (.cons ⟨_, rfl⟩ (.cons ⟨_, rfl⟩ (.cons ⟨_, rfl⟩ (.cons ⟨_, rfl⟩ (.cons ⟨_, rfl⟩ (.cons ⟨_, rfl⟩ (.cons ⟨_, rfl⟩ (.cons ⟨_, rfl⟩ (.cons ⟨_, rfl⟩ .nil)))))))))) (fun F α => (reps_cons (by unfold Rep; rfl) (reps_cons (by unfold Rep; rfl) (reps_cons (by unfold Rep; rfl) (reps_cons (by unfold Rep; rfl) (reps_cons (by unfold Rep; rfl) (reps_cons (by unfold Rep; rfl) (reps_cons (by unfold Rep; rfl) (reps_cons (by unfold Rep; rfl) (reps_cons (by unfold Rep; rfl) (reps_cons (by unfold Rep; rfl) reps_nil))))))))))),
   const_tup (vs := [.str ⟨w_equal.toArray⟩, .str ⟨w_above.toArray⟩, .str ⟨w_least.toArray⟩, .str ⟨w_any.toArray⟩]) KX G a_TESTS l_TESTS (by show 4 ≤ 16777216; decide) (.cons ⟨_, rfl⟩ (.cons ⟨_, rfl⟩ (.cons ⟨_, rfl⟩ (.cons ⟨_, rfl⟩ .nil)))) (fun F α => (reps_cons (by unfold Rep; rfl) (reps_cons (by unfold Rep; rfl) (reps_cons (by unfold Rep; rfl) (reps_cons (by unfold Rep; rfl) reps_nil))))),
   const_tup (vs := [.str ⟨w_over.toArray⟩, .str ⟨w_rest.toArray⟩]) KX G a_DIVIDING l_DIVIDING (by show 2 ≤ 16777216; decide) (.cons ⟨_, rfl⟩ (.cons ⟨_, rfl⟩ .nil)) (fun F α => (reps_cons (by unfold Rep; rfl) (reps_cons (by unfold Rep; rfl) reps_nil))),
   const_tup (vs := [.str ⟨w_left.toArray⟩, .str ⟨w_right.toArray⟩]) KX G a_SHIFTING l_SHIFTING (by show 2 ≤ 16777216; decide) (.cons ⟨_, rfl⟩ (.cons ⟨_, rfl⟩ .nil)) (fun F α => (reps_cons (by unfold Rep; rfl) (reps_cons (by unfold Rep; rfl) reps_nil))),
   const_int KX G a_WIDTH,
   def_mk KX G a_cell l_cell c_cell k_cell (fun us hl => match us, hl with | [_, _], _ => rfl),
   def_mk KX G a_mix l_mix c_mix k_mix (fun us hl => match us, hl with | [_, _], _ => rfl),
   def_mk KX G a_k l_k c_k k_k (fun us hl => match us, hl with | [_], _ => rfl),
   def_mk KX G a_op l_op c_op k_op (fun us hl => match us, hl with | [_], _ => rfl),
   def_mk KX G a_step l_step c_step k_step (fun us hl => match us, hl with | [_, _, _], _ => rfl),
   def_mk KX G a_p_is_whole l_p_is_whole c_p_is_whole k_p_is_whole (fun us hl => match us, hl with | [_], _ => rfl),
   def_mk KX G a_p_is_number l_p_is_number c_p_is_number k_p_is_number (fun us hl => match us, hl with | [_], _ => rfl),
   def_mk KX G a_p_is_part l_p_is_part c_p_is_part k_p_is_part (fun us hl => match us, hl with | [_, _], _ => rfl),
   def_mk KX G a_p_can_be_done_by l_p_can_be_done_by c_p_can_be_done_by k_p_can_be_done_by (fun us hl => match us, hl with | [_, _], _ => rfl),
   def_mk KX G a_p_is_step l_p_is_step c_p_is_step k_p_is_step (fun us hl => match us, hl with | [_], _ => rfl),
   def_mk KX G a_whole l_whole c_whole k_whole (fun us hl => match us, hl with | [_], _ => rfl),
   def_mk KX G a_number l_number c_number k_number (fun us hl => match us, hl with | [_, _], _ => rfl),
   def_mk KX G a_word l_word c_word k_word (fun us hl => match us, hl with | [_, _], _ => rfl),
   def_mk KX G a_is_step l_is_step c_is_step k_is_step (fun us hl => match us, hl with | [_], _ => rfl),
   def_mk KX G a_law l_law c_law k_law (fun us hl => match us, hl with | [_], _ => rfl)⟩
end
end K02
set_option Elab.async false
set_option linter.all false
set_option maxRecDepth 100000
set_option maxHeartbeats 4000000
namespace K02
open PySem PySem.Spec PyProof.Rows L2 M
local macro_rules | `(tactic| walk_at "ev") => `(tactic| simp only [e_bin, e_bin1, e_bin2, e_var0, e_varS, e_c, e_test, e_kTest, e_ch, e_ch1, e_ch2, e_ch3, e_isN, e_notN, e_kIsN, e_kNotN, e_tru, e_kTru, e_and, e_or, e_not, e_kAnd, e_kOr, e_kNot, e_andV, e_orV, e_notV, e_kAndV, e_kOrV, e_kNotV, e_if, e_kIf, e_nil, e_cons, e_cons1, e_cons2, e_tup, e_lst, e_dic, e_kTup, e_kLst, e_kDic, e_callB, e_kCallB, e_isI, e_kIsI, e_call, e_kCall, e_neg, e_kNeg, e_skip, e_seq, e_kSeqN, e_kSeqR, e_kSeqB, e_kSeqC, e_ret, e_kRet, e_retN, e_drop, e_kDrop, e_set, e_kSet, e_ite, e_kIte, e_for, e_kFor, e_range1, e_kRange1, e_overL, e_overT, e_kOverL, e_kOverT, e_kFinR, e_kFinN, e_fnOf, bind_ok, bind_exc, bind_bad, ofO_some, ofO_none, noX_ok, deref_non, deref_bl, deref_int, deref_str, deref_tup, deref_lst, deref_dic, List.map_cons, List.map_nil, List.cons_append, List.nil_append, List.replicate_succ, List.replicate_zero, List.append_nil, List.set_cons_zero, List.set_cons_succ, g_add, g_sub, g_mulL, g_mulR, g_div, g_mod, g_and, g_or, g_xor, g_lt, g_le, g_gt, g_ge, g_eqI, g_neI, g_eqB, g_idxL, g_idxT, g_lenL, g_lenT, g_max, g_min, g_intB, g_intI, if_true, if_false, Int.reduceLT, Int.reduceNeg, truD, isN, Bool.not_true, Bool.not_false, decide_true, decide_false, Bool.false_eq_true, reduceIte, Option.map_some, Option.bind_some, List.isEmpty_nil, List.isEmpty_cons])
local macro_rules | `(tactic| walk_at "evh") => `(tactic| simp only [*, e_bin, e_bin1, e_bin2, e_var0, e_varS, e_c, e_test, e_kTest, e_ch, e_ch1, e_ch2, e_ch3, e_isN, e_notN, e_kIsN, e_kNotN, e_tru, e_kTru, e_and, e_or, e_not, e_kAnd, e_kOr, e_kNot, e_andV, e_orV, e_notV, e_kAndV, e_kOrV, e_kNotV, e_if, e_kIf, e_nil, e_cons, e_cons1, e_cons2, e_tup, e_lst, e_dic, e_kTup, e_kLst, e_kDic, e_callB, e_kCallB, e_isI, e_kIsI, e_call, e_kCall, e_neg, e_kNeg, e_skip, e_seq, e_kSeqN, e_kSeqR, e_kSeqB, e_kSeqC, e_ret, e_kRet, e_retN, e_drop, e_kDrop, e_set, e_kSet, e_ite, e_kIte, e_for, e_kFor, e_range1, e_kRange1, e_overL, e_overT, e_kOverL, e_kOverT, e_kFinR, e_kFinN, e_fnOf, bind_ok, bind_exc, bind_bad, ofO_some, ofO_none, noX_ok, deref_non, deref_bl, deref_int, deref_str, deref_tup, deref_lst, deref_dic, List.map_cons, List.map_nil, List.cons_append, List.nil_append, List.replicate_succ, List.replicate_zero, List.append_nil, List.set_cons_zero, List.set_cons_succ, g_add, g_sub, g_mulL, g_mulR, g_div, g_mod, g_and, g_or, g_xor, g_lt, g_le, g_gt, g_ge, g_eqI, g_neI, g_eqB, g_idxL, g_idxT, g_lenL, g_lenT, g_max, g_min, g_intB, g_intI, if_true, if_false, Int.reduceLT, Int.reduceNeg, truD, isN, Bool.not_true, Bool.not_false, decide_true, decide_false, Bool.false_eq_true, reduceIte, Option.map_some, Option.bind_some, List.isEmpty_nil, List.isEmpty_cons])
local macro_rules | `(tactic| walk_at "evd") => `(tactic| simp (config := {decide := true}) only [g_eqS, g_neS, beq_self_eq_true, e_bin, e_bin1, e_bin2, e_var0, e_varS, e_c, e_test, e_kTest, e_ch, e_ch1, e_ch2, e_ch3, e_isN, e_notN, e_kIsN, e_kNotN, e_tru, e_kTru, e_and, e_or, e_not, e_kAnd, e_kOr, e_kNot, e_andV, e_orV, e_notV, e_kAndV, e_kOrV, e_kNotV, e_if, e_kIf, e_nil, e_cons, e_cons1, e_cons2, e_tup, e_lst, e_dic, e_kTup, e_kLst, e_kDic, e_callB, e_kCallB, e_isI, e_kIsI, e_call, e_kCall, e_neg, e_kNeg, e_skip, e_seq, e_kSeqN, e_kSeqR, e_kSeqB, e_kSeqC, e_ret, e_kRet, e_retN, e_drop, e_kDrop, e_set, e_kSet, e_ite, e_kIte, e_for, e_kFor, e_range1, e_kRange1, e_overL, e_overT, e_kOverL, e_kOverT, e_kFinR, e_kFinN, e_fnOf, bind_ok, bind_exc, bind_bad, ofO_some, ofO_none, noX_ok, deref_non, deref_bl, deref_int, deref_str, deref_tup, deref_lst, deref_dic, List.map_cons, List.map_nil, List.cons_append, List.nil_append, List.replicate_succ, List.replicate_zero, List.append_nil, List.set_cons_zero, List.set_cons_succ, g_add, g_sub, g_mulL, g_mulR, g_div, g_mod, g_and, g_or, g_xor, g_lt, g_le, g_gt, g_ge, g_eqI, g_neI, g_eqB, g_idxL, g_idxT, g_lenL, g_lenT, g_max, g_min, g_intB, g_intI, if_true, if_false, Int.reduceLT, Int.reduceNeg, truD, isN, Bool.not_true, Bool.not_false, decide_true, decide_false, Bool.false_eq_true, reduceIte, Option.map_some, Option.bind_some, List.isEmpty_nil, List.isEmpty_cons])
local macro_rules | `(tactic| walk_at "evhd") => `(tactic| simp (config := {decide := true}) only [*, g_eqS, g_neS, beq_self_eq_true, e_bin, e_bin1, e_bin2, e_var0, e_varS, e_c, e_test, e_kTest, e_ch, e_ch1, e_ch2, e_ch3, e_isN, e_notN, e_kIsN, e_kNotN, e_tru, e_kTru, e_and, e_or, e_not, e_kAnd, e_kOr, e_kNot, e_andV, e_orV, e_notV, e_kAndV, e_kOrV, e_kNotV, e_if, e_kIf, e_nil, e_cons, e_cons1, e_cons2, e_tup, e_lst, e_dic, e_kTup, e_kLst, e_kDic, e_callB, e_kCallB, e_isI, e_kIsI, e_call, e_kCall, e_neg, e_kNeg, e_skip, e_seq, e_kSeqN, e_kSeqR, e_kSeqB, e_kSeqC, e_ret, e_kRet, e_retN, e_drop, e_kDrop, e_set, e_kSet, e_ite, e_kIte, e_for, e_kFor, e_range1, e_kRange1, e_overL, e_overT, e_kOverL, e_kOverT, e_kFinR, e_kFinN, e_fnOf, bind_ok, bind_exc, bind_bad, ofO_some, ofO_none, noX_ok, deref_non, deref_bl, deref_int, deref_str, deref_tup, deref_lst, deref_dic, List.map_cons, List.map_nil, List.cons_append, List.nil_append, List.replicate_succ, List.replicate_zero, List.append_nil, List.set_cons_zero, List.set_cons_succ, g_add, g_sub, g_mulL, g_mulR, g_div, g_mod, g_and, g_or, g_xor, g_lt, g_le, g_gt, g_ge, g_eqI, g_neI, g_eqB, g_idxL, g_idxT, g_lenL, g_lenT, g_max, g_min, g_intB, g_intI, if_true, if_false, Int.reduceLT, Int.reduceNeg, truD, isN, Bool.not_true, Bool.not_false, decide_true, decide_false, Bool.false_eq_true, reduceIte, Option.map_some, Option.bind_some, List.isEmpty_nil, List.isEmpty_cons])
def opL : List (List Nat) := [w_plus, w_minus, w_times, w_over, w_rest, w_and, w_or, w_xor, w_left, w_right]
def tsL : List (List Nat) := [w_equal, w_above, w_least, w_any]
/-- the words that can come -/
def wsL : List (List Nat) := [w_load, w_len, w_set, w_setx, w_tax, w_txa, w_keep, w_fetch, w_do, w_dox, w_jump, w_if, w_ifx, w_tell, w_tella,
  w_plus, w_minus, w_times, w_over, w_rest, w_and, w_or, w_xor, w_left, w_right, w_equal, w_above, w_least, w_any, w_at, w_x, w_y, w_mod, w_like, w34]
inductive Pl : D → Prop
  | non : Pl .non
  | bl (b : Bool) : Pl (.bl b)
  | int (i : Int) : Pl (.int i)
  | tup : Pl (.tup [.int 1])
  | lst : Pl (.lst [])
  | str {x : List Nat} : x ∈ wsL → Pl (.str x)
theorem ws_all {P : List Nat → Prop} (h : P w_load ∧ P w_len ∧ P w_set ∧ P w_setx ∧ P w_tax ∧ P w_txa ∧ P w_keep ∧ P w_fetch ∧ P w_do ∧ P w_dox ∧ P w_jump ∧ P w_if ∧ P w_ifx ∧ P w_tell ∧ P w_tella ∧
  P w_plus ∧ P w_minus ∧ P w_times ∧ P w_over ∧ P w_rest ∧ P w_and ∧ P w_or ∧ P w_xor ∧ P w_left ∧ P w_right ∧ P w_equal ∧ P w_above ∧ P w_least ∧ P w_any ∧ P w_at ∧ P w_x ∧ P w_y ∧ P w_mod ∧ P w_like ∧ P w34) : ∀ x ∈ wsL, P x := by
  intro x hx
  simp only [wsL, List.mem_cons, List.not_mem_nil, or_false] at hx
  obtain ⟨h1, h2, h3, h4, h5, h6, h7, h8, h9, h10, h11, h12, h13, h14, h15, h16, h17, h18, h19, h20, h21, h22, h23, h24, h25, h26, h27, h28, h29, h30, h31, h32, h33, h34, h35⟩ := h
  rcases hx with rfl | rfl | rfl | rfl | rfl | rfl | rfl | rfl | rfl | rfl | rfl | rfl | rfl | rfl | rfl | rfl | rfl | rfl | rfl | rfl | rfl | rfl | rfl | rfl | rfl | rfl | rfl | rfl | rfl | rfl | rfl | rfl | rfl | rfl | rfl <;> assumption
/-- the seven kinds of parts -/
inductive Kd | num | size | slot | dist | base | op | test
def Kd.w : Kd → List Nat
  | .num => w_number
  | .size => w_size
  | .slot => w_slot
  | .dist => w_distance
  | .base => w_base
  | .op => w_op
  | .test => w_test
def Kd.l : Kd → List Nat
  | .num => w_k
  | .size => w_z
  | .slot => w_s
  | .dist => w_n
  | .base => w_a
  | .op => w_o
  | .test => w_t
def pB (k : Kd) (d : D) : Bool := match k, d with
  | .num, .int i => decide (0 ≤ i) && decide (i < 4294967296)
  | .size, .int i => 1 == i || (2 == i || (4 == i || false))
  | .slot, .int i => decide (0 ≤ i) && decide (i < 8)
  | .dist, .int i => decide (0 ≤ i) && decide (i ≤ 2000)
  | .base, .str x => x == w_at || x == w_x
  | .op, .str x => opL.contains x
  | .test, .str x => tsL.contains x
  | _, _ => false
/-- an int between -/
theorem ch_lt (i j : Int) (ρ : En) (μ : Mu) (ma mb mc : MX) (h1 : ma ρ μ = .ok (.int 0) μ) (h2 : mb ρ μ = .ok (.int i) μ) (h3 : mc ρ μ = .ok (.int j) μ) : mChain gLe gLt ma mb mc ρ μ = .ok (.bl (decide (0 ≤ i) && decide (i < j))) μ := by
  rw [e_ch, h1, bind_ok, e_ch1, h2, bind_ok, e_ch2, deref_int, deref_int, g_le]
  by_cases h : 0 ≤ i
  · simp only [h, decide_true, Bool.true_and, Option.bind_some]
    show Res.bind (.ok true μ) _ = _
    rw [bind_ok, e_ch3t, h3, bind_ok]
    rfl
  · simp only [h, decide_false, Bool.false_and]
    rfl
theorem ch_le (i j : Int) (ρ : En) (μ : Mu) (ma mb mc : MX) (h1 : ma ρ μ = .ok (.int 0) μ) (h2 : mb ρ μ = .ok (.int i) μ) (h3 : mc ρ μ = .ok (.int j) μ) : mChain gLe gLe ma mb mc ρ μ = .ok (.bl (decide (0 ≤ i) && decide (i ≤ j))) μ := by
  rw [e_ch, h1, bind_ok, e_ch1, h2, bind_ok, e_ch2, deref_int, deref_int, g_le]
  by_cases h : 0 ≤ i
  · simp only [h, decide_true, Bool.true_and, Option.bind_some]
    show Res.bind (.ok true μ) _ = _
    rw [bind_ok, e_ch3t, h3, bind_ok]
    rfl
  · simp only [h, decide_false, Bool.false_and]
    rfl
theorem part_str (k : Kd) (μ : Mu) : ∀ x ∈ wsL, f_p_is_part [.str k.w, .str x] μ = .ok (.bl (pB k (.str x))) μ := by
  cases k <;> exact ws_all ⟨rfl, rfl, rfl, rfl, rfl, rfl, rfl, rfl, rfl, rfl, rfl, rfl, rfl, rfl, rfl, rfl, rfl, rfl, rfl, rfl, rfl, rfl, rfl, rfl, rfl, rfl, rfl, rfl, rfl, rfl, rfl, rfl, rfl, rfl, rfl⟩
theorem whole_int (i : Int) (μ : Mu) : f_p_is_whole [.int i] μ = .ok (.bl true) μ := rfl
theorem part_int (k : Kd) (i : Int) (μ : Mu) : f_p_is_part [.str k.w, .int i] μ = .ok (.bl (pB k (.int i))) μ := by
  cases k with
  | num => exact v_fn 0 (v_take rfl (v_call rfl (v_fn 0 (v_ret ((v_andVT rfl).trans (ch_lt i 4294967296 _ _ _ _ _ rfl rfl rfl))))))
  | size => exact v_fn 0 ((v_skip rfl).trans (v_take rfl ((v_andVT rfl).trans rfl)))
  | slot => exact v_fn 0 ((v_skip rfl).trans ((v_skip rfl).trans (v_take rfl ((v_andVT rfl).trans (ch_lt i 8 _ _ _ _ _ rfl rfl rfl)))))
  | dist => exact v_fn 0 ((v_skip rfl).trans ((v_skip rfl).trans ((v_skip rfl).trans (v_take rfl ((v_andVT rfl).trans (ch_le i 2000 _ _ _ _ _ rfl rfl rfl))))))
  | base => rfl
  | op => rfl
  | test => rfl
theorem part_eq (k : Kd) {d : D} (h : Pl d) (μ : Mu) : f_p_is_part [.str k.w, d] μ = .ok (.bl (pB k d)) μ := by
  cases h with
  | non => cases k <;> rfl
  | bl b => cases b <;> cases k <;> rfl
  | int i => exact part_int k i μ
  | tup => cases k <;> rfl
  | lst => cases k <;> rfl
  | str hx => exact part_str k μ _ hx
/-! ### the law's own look at a part -/
def nB (d : D) (m : Int) : Bool := match d with
  | .int i => decide (0 ≤ i) && decide (i ≤ m)
  | _ => false
def wB (d : D) (L : List (List Nat)) : Bool := match d with
  | .str x => L.contains x
  | _ => false
theorem number_eq {d : D} (h : Pl d) (m : Int) (μ : Mu) : f_number [d, .int m] μ = .ok (.bl (nB d m)) μ := by
  cases h with
  | non => rfl
  | bl b => cases b <;> rfl
  | int i => exact v_fn 0 (v_ret ((v_andVT rfl).trans (ch_le i m _ _ _ _ _ rfl rfl rfl)))
  | tup => rfl
  | lst => rfl
  | str hx => rfl
def atx : List (List Nat) := [w_at, w_x]
def dS (L : List (List Nat)) : D := .lst (L.map .str)
theorem word_str (μ : Mu) : ∀ x ∈ wsL, f_word [.str x, dS atx] μ = .ok (.bl (wB (.str x) atx)) μ ∧ f_word [.str x, dS opL] μ = .ok (.bl (wB (.str x) opL)) μ ∧ f_word [.str x, dS tsL] μ = .ok (.bl (wB (.str x) tsL)) μ :=
  ws_all ⟨⟨rfl, rfl, rfl⟩, ⟨rfl, rfl, rfl⟩, ⟨rfl, rfl, rfl⟩, ⟨rfl, rfl, rfl⟩, ⟨rfl, rfl, rfl⟩, ⟨rfl, rfl, rfl⟩, ⟨rfl, rfl, rfl⟩, ⟨rfl, rfl, rfl⟩, ⟨rfl, rfl, rfl⟩, ⟨rfl, rfl, rfl⟩, ⟨rfl, rfl, rfl⟩, ⟨rfl, rfl, rfl⟩, ⟨rfl, rfl, rfl⟩, ⟨rfl, rfl, rfl⟩, ⟨rfl, rfl, rfl⟩, ⟨rfl, rfl, rfl⟩, ⟨rfl, rfl, rfl⟩, ⟨rfl, rfl, rfl⟩, ⟨rfl, rfl, rfl⟩, ⟨rfl, rfl, rfl⟩, ⟨rfl, rfl, rfl⟩, ⟨rfl, rfl, rfl⟩, ⟨rfl, rfl, rfl⟩, ⟨rfl, rfl, rfl⟩, ⟨rfl, rfl, rfl⟩, ⟨rfl, rfl, rfl⟩, ⟨rfl, rfl, rfl⟩, ⟨rfl, rfl, rfl⟩, ⟨rfl, rfl, rfl⟩, ⟨rfl, rfl, rfl⟩, ⟨rfl, rfl, rfl⟩, ⟨rfl, rfl, rfl⟩, ⟨rfl, rfl, rfl⟩, ⟨rfl, rfl, rfl⟩, ⟨rfl, rfl, rfl⟩⟩
theorem word_eq {d : D} (h : Pl d) (μ : Mu) : f_word [d, dS atx] μ = .ok (.bl (wB d atx)) μ ∧ f_word [d, dS opL] μ = .ok (.bl (wB d opL)) μ ∧ f_word [d, dS tsL] μ = .ok (.bl (wB d tsL)) μ := by
  cases h with
  | non => exact ⟨rfl, rfl, rfl⟩
  | bl b => exact ⟨rfl, rfl, rfl⟩
  | int i => exact ⟨rfl, rfl, rfl⟩
  | tup => exact ⟨rfl, rfl, rfl⟩
  | lst => exact ⟨rfl, rfl, rfl⟩
  | str hx => exact word_str μ _ hx
/-- part in (1, 2, 4) -/
def szB (d : D) : Bool := match d with
  | .int i => 1 == i || (2 == i || (4 == i || false))
  | _ => false
def zB (d : D) : Bool := nB d 4 && szB d
end K02
set_option Elab.async false
set_option linter.all false
set_option maxRecDepth 100000
set_option maxHeartbeats 4000000
namespace K02
open PySem PySem.Spec PyProof.Rows L2 M
def Kd.c : Kd → Nat
  | .num => 107
  | .size => 122
  | .slot => 115
  | .dist => 110
  | .base => 97
  | .op => 111
  | .test => 116
/-- the law's answer about a part of a kind -/
def lB (k : Kd) (d : D) : Bool := match k with
  | .num => nB d 4294967295
  | .size => zB d
  | .slot => nB d 7
  | .dist => nB d 2000
  | .base => wB d atx
  | .op => wB d opL
  | .test => wB d tsL
theorem lB_eq (k : Kd) {d : D} (h : Pl d) : lB k d = pB k d := by
  cases h with
  | non => cases k <;> rfl
  | bl b => cases k <;> rfl
  | int i =>
    cases k with
    | num => show (decide (0 ≤ i) && decide (i ≤ 4294967295)) = (decide (0 ≤ i) && decide (i < 4294967296)); congr 1; exact decide_eq_decide.mpr (by omega)
    | size =>
      show ((decide (0 ≤ i) && decide (i ≤ 4)) && (1 == i || (2 == i || (4 == i || false)))) = (1 == i || (2 == i || (4 == i || false)))
      by_cases h1 : 0 ≤ i ∧ i ≤ 4
      · simp [h1.1, h1.2]
      · have a1 : ((1 : Int) == i) = false := by simp; omega
        have a2 : ((2 : Int) == i) = false := by simp; omega
        have a4 : ((4 : Int) == i) = false := by simp; omega
        simp [a1, a2, a4]
    | slot => show (decide (0 ≤ i) && decide (i ≤ 7)) = (decide (0 ≤ i) && decide (i < 8)); congr 1; exact decide_eq_decide.mpr (by omega)
    | dist => rfl
    | base => rfl
    | op => rfl
    | test => rfl
  | tup => cases k <;> rfl
  | lst => cases k <;> rfl
  | str hx => 
    cases k with
    | base => show (List.contains [w_at, w_x] _) = _; simp only [List.contains_cons, List.contains_nil, Bool.or_false]; rfl
    | _ => rfl
theorem z_eq {d : D} (h : Pl d) (ρ : En) (μ : Mu) (hd : ρ[6]? = some (some d)) : mAndV (mCall f_number (mCons (mVar 6) (mCons (mC (.int 4)) mNil))) (mBin gIn (mVar 6) (mTup (mCons (mC (.int 1)) (mCons (mC (.int 2)) (mCons (mC (.int 4)) mNil))))) ρ μ = .ok (.bl (zB d)) μ := by
  have hn : mCall f_number (mCons (mVar 6) (mCons (mC (.int 4)) mNil)) ρ μ = .ok (.bl (nB d 4)) μ := v_call (v_cons (v_var 6 hd) (v_cons rfl v_nil)) (number_eq h 4 μ)
  cases h with
  | int i => exact v_andVB hn (v_bin (v_var 6 hd) rfl rfl)
  | _ => exact v_andVF hn
theorem body_eq (kd : Kd) {xs : List D} {shape : List Nat} {k : Int} {d : D} {sh x6 x7 : Option D} {μ : Mu} (hd : atI xs (k + 1) = some d) (hs : atI shape k = some kd.c) (hl : shape.length ≤ 16777216) (hp : Pl d) :
    l_is_step_1 [some (.tup xs), some (dS opL), some (dS tsL), sh, some (.str shape), some (.int k), x6, x7] μ
      = if pB kd d = true then .ok (.nx [some (.tup xs), some (dS opL), some (dS tsL), sh, some (.str shape), some (.int k), some d, some (.bl true)]) μ else .ok (.rt (.bl false)) μ := by
  obtain ⟨w1, w2, w3⟩ := word_eq hp μ
  rw [← lB_eq kd hp]
  refine (v_set 6 (v_bin rfl (v_bin rfl rfl rfl) hd)).trans ((v_set 7 (d := .bl (lB kd d)) (μ1 := μ) (v_bin (v_dic (v_cons (z_eq hp _ _ rfl) (v_cons (v_call (v_cons rfl (v_cons (v_lst rfl) v_nil)) w1) (v_cons (v_call rfl (number_eq hp _ μ)) (v_cons (v_call rfl (number_eq hp _ μ)) (v_cons (v_call rfl (number_eq hp _ μ)) (v_cons (v_call rfl w2) (v_cons (v_call rfl w3) v_nil)))))))) (v_bin (y := .int k) (z := .str [kd.c]) rfl rfl ?_) ?_)).trans ?_)
  · show gIdx (.str shape) (.int k) = _
    unfold gIdx
    simp only [if_pos hl, hs]
    rfl
  · cases kd <;> rfl
  · cases lB kd d <;> rfl
end K02
set_option Elab.async false
set_option linter.all false
set_option maxRecDepth 100000
set_option maxHeartbeats 4000000
namespace K02
open PySem PySem.Spec PyProof.Rows L2 M
def allP (ps : List (Kd × D)) : Bool := ps.all fun p => pB p.1 p.2
abbrev cTg : MG := gTupT (gsCons (gN 0) (gsCons (gN 1) gsNil))
abbrev cEl : MX := mCall f_p_is_part (mCons (mVar 0) (mCons (mVar 1) mNil))
theorem comp_eq (μ : Mu) : ∀ (ps : List (Kd × D)), (∀ p ∈ ps, Pl p.2) → ∀ (a b : Option D) (acc : List D), compGo cTg mTT cEl (ps.map fun p => .tup [.str p.1.w, p.2]) [a, b] μ acc = .ok (acc ++ ps.map fun p => .bl (pB p.1 p.2)) μ
  | [], _, a, b, acc => by simp [compGo]
  | p :: ps, h, a, b, acc => by
    obtain ⟨h1, h2⟩ := List.forall_mem_cons.mp h
    have e : cEl [some (.str p.1.w), some p.2] μ = .ok (.bl (pB p.1 p.2)) μ := v_call rfl (part_eq p.1 h1 μ)
    have ih := comp_eq μ ps h2 (some (.str p.1.w)) (some p.2) (acc ++ [.bl (pB p.1 p.2)])
    rw [List.map_cons, List.map_cons]
    show (noX (cEl [some (.str p.1.w), some p.2] μ)).bind _ = _
    rw [e]
    show compGo cTg mTT cEl _ [some (.str p.1.w), some p.2] μ (acc ++ [.bl (pB p.1 p.2)]) = _
    rw [ih, List.append_assoc, List.singleton_append]
theorem bls_map : ∀ ps : List (Kd × D), blsOf (ps.map fun p => .bl (pB p.1 p.2)) = some (ps.map fun p => pB p.1 p.2)
  | [] => rfl
  | p :: ps => by
    rw [List.map_cons, List.map_cons]
    unfold blsOf
    rw [bls_map ps]
    rfl
theorem tailP (ps : List (Kd × D)) (hp : ∀ p ∈ ps, Pl p.2) {ρ : En} {μ : Mu} {r : MSt} (hl : ps.length ≤ 16777216) (hz : mZip true true (mVar 1) (mSl (mVar 0) (mPart (mC (.int 1))) mNoP) ρ μ = .ok (ps.map fun p => .tup [.str p.1.w, p.2]) μ) {k : Bool} (hr : allP ps = true → r ρ μ = .ok (.rt (.bl k)) μ) :
    mSeq (mIte (mNot (mTru (mCallB gAll (mCons (mComp 2 [] cTg (mZip true true (mVar 1) (mSl (mVar 0) (mPart (mC (.int 1))) mNoP)) mTT cEl) mNil)))) (mRet (mC (.bl false))) mSkip) r ρ μ = .ok (.rt (.bl (allP ps && k))) μ := by
  have e1 : mComp 2 [] cTg (mZip true true (mVar 1) (mSl (mVar 0) (mPart (mC (.int 1))) mNoP)) mTT cEl ρ μ = .ok (.lst (ps.map fun p => .bl (pB p.1 p.2))) μ := by
    unfold mComp
    rw [hz, bind_ok, if_pos (by rw [List.length_map]; exact hl)]
    show (compGo cTg mTT cEl _ [none, none] μ []).bind _ = _
    rw [comp_eq μ ps hp]
    rfl
  have e2 : mNot (mTru (mCallB gAll (mCons (mComp 2 [] cTg (mZip true true (mVar 1) (mSl (mVar 0) (mPart (mC (.int 1))) mNoP)) mTT cEl) mNil))) ρ μ = .ok (!allP ps) μ := by
    refine v_not (v_tru (d := .bl (allP ps)) (v_callB (v_cons e1 v_nil) ?_) rfl)
    show (blsOf (ps.map fun p => .bl (pB p.1 p.2))).map _ = _
    rw [bls_map]
    show some (D.bl ((ps.map fun p => pB p.1 p.2).all id)) = _
    rw [List.all_map]
    rfl
  cases h : allP ps with
  | true => rw [h] at e2; exact (v_skip e2).trans (hr h)
  | false => rw [h] at e2; exact v_take e2 rfl
theorem loop_eq {xs : List D} {shape : List Nat} {sh : Option D} {μ : Mu} (hl : shape.length ≤ 16777216) : ∀ (qs : List (Int × Kd × D)), (∀ q ∈ qs, atI xs (q.1 + 1) = some q.2.2 ∧ atI shape q.1 = some q.2.1.c ∧ Pl q.2.2) → ∀ x5 x6 x7 : Option D, ∃ y5 y6 y7,
    forGo (gN 5) l_is_step_1 (qs.map fun q => .int q.1) [some (.tup xs), some (dS opL), some (dS tsL), sh, some (.str shape), x5, x6, x7] μ
      = if allP (qs.map (·.2)) = true then .ok (.nx [some (.tup xs), some (dS opL), some (dS tsL), sh, some (.str shape), y5, y6, y7]) μ else .ok (.rt (.bl false)) μ
  | [], _, x5, x6, x7 => ⟨x5, x6, x7, rfl⟩
  | q :: qs, h, x5, x6, x7 => by
    obtain ⟨⟨h1, h2, h3⟩, hr⟩ := List.forall_mem_cons.mp h
    have e := body_eq q.2.1 (sh := sh) (x6 := x6) (x7 := x7) (μ := μ) h1 h2 hl h3
    rw [List.map_cons, List.map_cons]
    cases hb : pB q.2.1 q.2.2 with
    | false =>
      rw [hb, if_neg (by decide)] at e
      refine ⟨none, none, none, ?_⟩
      rw [if_neg (by simp [allP, hb])]
      exact v_forR 5 e
    | true =>
      rw [hb, if_pos rfl] at e
      obtain ⟨y5, y6, y7, ih⟩ := loop_eq (sh := sh) (μ := μ) hl qs hr (some (.int q.1)) (some q.2.2) (some (.bl true))
      refine ⟨y5, y6, y7, (v_forN 5 e).trans ?_⟩
      rw [ih]
      have : allP (q.2 :: qs.map (·.2)) = allP (qs.map (·.2)) := by simp [allP, hb]
      rw [this]
theorem tailL (qs : List (Int × Kd × D)) {xs : List D} {shape : List Nat} {sh : Option D} {μ : Mu} {it : MIt} {r : MSt} {x5 x6 x7 : Option D} (hq : ∀ q ∈ qs, atI xs (q.1 + 1) = some q.2.2 ∧ atI shape q.1 = some q.2.1.c ∧ Pl q.2.2) (hi : it [some (.tup xs), some (dS opL), some (dS tsL), sh, some (.str shape), x5, x6, x7] μ = .ok (qs.map fun q => .int q.1) μ) (hl : shape.length ≤ 16777216)
    {k : Bool} (hr : allP (qs.map (·.2)) = true → ∀ y5 y6 y7, r [some (.tup xs), some (dS opL), some (dS tsL), sh, some (.str shape), y5, y6, y7] μ = .ok (.rt (.bl k)) μ) :
    mSeq (mFor (gN 5) it l_is_step_1) r [some (.tup xs), some (dS opL), some (dS tsL), sh, some (.str shape), x5, x6, x7] μ = .ok (.rt (.bl (allP (qs.map (·.2)) && k))) μ := by
  obtain ⟨y5, y6, y7, e⟩ := loop_eq (sh := sh) (μ := μ) hl qs hq x5 x6 x7
  have e2 : mFor (gN 5) it l_is_step_1 [some (.tup xs), some (dS opL), some (dS tsL), sh, some (.str shape), x5, x6, x7] μ = forGo (gN 5) l_is_step_1 (qs.map fun q => .int q.1) [some (.tup xs), some (dS opL), some (dS tsL), sh, some (.str shape), x5, x6, x7] μ := by
    unfold mFor
    rw [hi, bind_ok]
  rw [e] at e2
  cases h : allP (qs.map (·.2)) with
  | true => rw [h, if_pos rfl] at e2; exact (v_seqN e2).trans (hr h y5 y6 y7)
  | false => rw [h, if_neg (by decide)] at e2; exact v_seqR e2
def Agree (d : D) : Prop := ∃ b, f_p_is_step [d] [] = .ok (.bl b) [] ∧ f_is_step [d] [] = .ok (.bl b) []
def doP (a b : D) : Bool := match a, b with
  | .str x, .int i => if [w_over, w_rest].contains x = true then !(i == 0) else if [w_left, w_right].contains x = true then decide (i < 32) else true
  | _, _ => true
def doL (a b : D) : Bool := match a, b with
  | .str x, .int i => if [w_over, w_rest].contains x = true then decide (0 < i) else if [w_left, w_right].contains x = true then decide (i < 32) else true
  | _, _ => true
abbrev rP : MSt := mRet (mOrV (mBin gNe (mBin gIdx (mVar 0) (mC (.int 0))) (mC (.str w_do))) (mCall f_p_can_be_done_by (mCons (mBin gIdx (mVar 0) (mC (.int 1))) (mCons (mBin gIdx (mVar 0) (mC (.int 2))) mNil))))
theorem doP_eq (i : Int) (ks : Option D) : ∀ x ∈ wsL, rP [some (.tup [.str w_do, .str x, .int i]), ks] [] = .ok (.rt (.bl (doP (.str x) (.int i)))) [] := ws_all ⟨rfl, rfl, rfl, rfl, rfl, rfl, rfl, rfl, rfl, rfl, rfl, rfl, rfl, rfl, rfl, rfl, rfl, rfl, rfl, rfl, rfl, rfl, rfl, rfl, rfl, rfl, rfl, rfl, rfl, rfl, rfl, rfl, rfl, rfl, rfl⟩
theorem pB_num {d : D} (h : Pl d) (e : pB .num d = true) : ∃ i, d = .int i ∧ 0 ≤ i := by
  cases h with
  | int i =>
    refine ⟨i, rfl, ?_⟩
    have e : (decide (0 ≤ i) && decide (i < 4294967296)) = true := e
    rw [Bool.and_eq_true] at e
    exact of_decide_eq_true e.1
  | _ => cases e
theorem pB_op {d : D} (h : Pl d) (e : pB .op d = true) : ∃ x ∈ wsL, d = .str x := by
  cases h with
  | str hx => exact ⟨_, hx, rfl⟩
  | _ => cases e
theorem all_do {a b : D} (h : allP [(.op, a), (.num, b)] = true) : pB .op a = true ∧ pB .num b = true := by
  simpa [allP] using h
theorem agree_do {a b : D} (ha : Pl a) (hb : Pl b) : Agree (.tup [.str w_do, a, b]) := by
  have hp : f_p_is_step [.tup [.str w_do, a, b]] [] = .ok (.bl (allP [(.op, a), (.num, b)] && doP a b)) [] :=
    v_fn 1 ((v_skip rfl).trans ((v_skip rfl).trans ((v_set 1 rfl).trans ((v_skip rfl).trans (tailP [(.op, a), (.num, b)] (List.forall_mem_cons.mpr ⟨ha, List.forall_mem_cons.mpr ⟨hb, fun _ z => nomatch z⟩⟩) (show 2 ≤ 16777216 by decide) rfl fun h => by
      obtain ⟨h1, h2⟩ := all_do h
      obtain ⟨i, rfl, _⟩ := pB_num hb h2
      obtain ⟨x, hx, rfl⟩ := pB_op ha h1
      exact doP_eq i _ x hx)))))
  have hq : f_is_step [.tup [.str w_do, a, b]] [] = .ok (.bl (allP [(.op, a), (.num, b)] && doL a b)) [] :=
    v_fn 7 ((v_set 1 rfl).trans ((v_set 2 rfl).trans ((v_skip rfl).trans ((v_set 3 rfl).trans ((v_set 4 rfl).trans ((v_skip rfl).trans (tailL [(0, .op, a), (1, .num, b)] (List.forall_mem_cons.mpr ⟨⟨rfl, rfl, ha⟩, List.forall_mem_cons.mpr ⟨⟨rfl, rfl, hb⟩, fun _ z => nomatch z⟩⟩) rfl (by decide) fun h y5 y6 y7 => by
      obtain ⟨h1, h2⟩ := all_do h
      obtain ⟨i, rfl, _⟩ := pB_num hb h2
      obtain ⟨x, hx, rfl⟩ := pB_op ha h1
      clear hp h h1 ha
      revert x
      exact ws_all ⟨rfl, rfl, rfl, rfl, rfl, rfl, rfl, rfl, rfl, rfl, rfl, rfl, rfl, rfl, rfl, rfl, rfl, rfl, rfl, rfl, rfl, rfl, rfl, rfl, rfl, rfl, rfl, rfl, rfl, rfl, rfl, rfl, rfl, rfl, rfl⟩)))))))
  refine ⟨_, hp, hq.trans ?_⟩
  cases h : allP [(.op, a), (.num, b)] with
  | false => rfl
  | true =>
    obtain ⟨h1, h2⟩ := all_do h
    obtain ⟨i, rfl, h0⟩ := pB_num hb h2
    obtain ⟨x, hx, rfl⟩ := pB_op ha h1
    have e : (!(i == 0)) = decide (0 < i) := by
      by_cases hi : i = 0
      · subst hi; rfl
      · have a1 : (i == 0) = false := by simpa using hi
        have a2 : 0 < i := by omega
        simp [a1, a2]
    simp only [doP, doL, e]
theorem p_load {a b c : D} (ha : Pl a) (hb : Pl b) (hc : Pl c) : f_p_is_step [.tup [.str w_load, a, b, c]] [] = .ok (.bl (allP [(.size, a), (.base, b), (.num, c)] && true)) [] :=
  v_fn 1 ((v_skip rfl).trans ((v_skip rfl).trans ((v_set 1 rfl).trans ((v_skip rfl).trans (tailP [(.size, a), (.base, b), (.num, c)] (List.forall_mem_cons.mpr ⟨ha, List.forall_mem_cons.mpr ⟨hb, List.forall_mem_cons.mpr ⟨hc, fun _ z => nomatch z⟩⟩⟩) (show 3 ≤ 16777216 by decide) rfl fun _ => rfl)))))
theorem q_load {a b c : D} (ha : Pl a) (hb : Pl b) (hc : Pl c) : f_is_step [.tup [.str w_load, a, b, c]] [] = .ok (.bl (allP [(.size, a), (.base, b), (.num, c)] && true)) [] :=
  v_fn 7 ((v_set 1 rfl).trans ((v_set 2 rfl).trans ((v_skip rfl).trans ((v_set 3 rfl).trans ((v_set 4 rfl).trans ((v_skip rfl).trans (tailL [(0, .size, a), (1, .base, b), (2, .num, c)] (List.forall_mem_cons.mpr ⟨⟨rfl, rfl, ha⟩, List.forall_mem_cons.mpr ⟨⟨rfl, rfl, hb⟩, List.forall_mem_cons.mpr ⟨⟨rfl, rfl, hc⟩, fun _ z => nomatch z⟩⟩⟩) rfl (by decide) fun _ _ _ _ => rfl)))))))
theorem p_len : f_p_is_step [.tup [.str w_len]] [] = .ok (.bl (allP [] && true)) [] :=
  v_fn 1 ((v_skip rfl).trans ((v_skip rfl).trans ((v_set 1 rfl).trans ((v_skip rfl).trans (tailP [] (fun _ z => nomatch z) (show 0 ≤ 16777216 by decide) rfl fun _ => rfl)))))
theorem q_len : f_is_step [.tup [.str w_len]] [] = .ok (.bl (allP [] && true)) [] :=
  v_fn 7 ((v_set 1 rfl).trans ((v_set 2 rfl).trans ((v_skip rfl).trans ((v_set 3 rfl).trans ((v_set 4 rfl).trans ((v_skip rfl).trans (tailL [] (fun _ z => nomatch z) rfl (by decide) fun _ _ _ _ => rfl)))))))
theorem p_set {a : D} (ha : Pl a) : f_p_is_step [.tup [.str w_set, a]] [] = .ok (.bl (allP [(.num, a)] && true)) [] :=
  v_fn 1 ((v_skip rfl).trans ((v_skip rfl).trans ((v_set 1 rfl).trans ((v_skip rfl).trans (tailP [(.num, a)] (List.forall_mem_cons.mpr ⟨ha, fun _ z => nomatch z⟩) (show 1 ≤ 16777216 by decide) rfl fun _ => rfl)))))
theorem q_set {a : D} (ha : Pl a) : f_is_step [.tup [.str w_set, a]] [] = .ok (.bl (allP [(.num, a)] && true)) [] :=
  v_fn 7 ((v_set 1 rfl).trans ((v_set 2 rfl).trans ((v_skip rfl).trans ((v_set 3 rfl).trans ((v_set 4 rfl).trans ((v_skip rfl).trans (tailL [(0, .num, a)] (List.forall_mem_cons.mpr ⟨⟨rfl, rfl, ha⟩, fun _ z => nomatch z⟩) rfl (by decide) fun _ _ _ _ => rfl)))))))
theorem p_setx {a : D} (ha : Pl a) : f_p_is_step [.tup [.str w_setx, a]] [] = .ok (.bl (allP [(.num, a)] && true)) [] :=
  v_fn 1 ((v_skip rfl).trans ((v_skip rfl).trans ((v_set 1 rfl).trans ((v_skip rfl).trans (tailP [(.num, a)] (List.forall_mem_cons.mpr ⟨ha, fun _ z => nomatch z⟩) (show 1 ≤ 16777216 by decide) rfl fun _ => rfl)))))
theorem q_setx {a : D} (ha : Pl a) : f_is_step [.tup [.str w_setx, a]] [] = .ok (.bl (allP [(.num, a)] && true)) [] :=
  v_fn 7 ((v_set 1 rfl).trans ((v_set 2 rfl).trans ((v_skip rfl).trans ((v_set 3 rfl).trans ((v_set 4 rfl).trans ((v_skip rfl).trans (tailL [(0, .num, a)] (List.forall_mem_cons.mpr ⟨⟨rfl, rfl, ha⟩, fun _ z => nomatch z⟩) rfl (by decide) fun _ _ _ _ => rfl)))))))
theorem p_tax : f_p_is_step [.tup [.str w_tax]] [] = .ok (.bl (allP [] && true)) [] :=
  v_fn 1 ((v_skip rfl).trans ((v_skip rfl).trans ((v_set 1 rfl).trans ((v_skip rfl).trans (tailP [] (fun _ z => nomatch z) (show 0 ≤ 16777216 by decide) rfl fun _ => rfl)))))
theorem q_tax : f_is_step [.tup [.str w_tax]] [] = .ok (.bl (allP [] && true)) [] :=
  v_fn 7 ((v_set 1 rfl).trans ((v_set 2 rfl).trans ((v_skip rfl).trans ((v_set 3 rfl).trans ((v_set 4 rfl).trans ((v_skip rfl).trans (tailL [] (fun _ z => nomatch z) rfl (by decide) fun _ _ _ _ => rfl)))))))
theorem p_txa : f_p_is_step [.tup [.str w_txa]] [] = .ok (.bl (allP [] && true)) [] :=
  v_fn 1 ((v_skip rfl).trans ((v_skip rfl).trans ((v_set 1 rfl).trans ((v_skip rfl).trans (tailP [] (fun _ z => nomatch z) (show 0 ≤ 16777216 by decide) rfl fun _ => rfl)))))
theorem q_txa : f_is_step [.tup [.str w_txa]] [] = .ok (.bl (allP [] && true)) [] :=
  v_fn 7 ((v_set 1 rfl).trans ((v_set 2 rfl).trans ((v_skip rfl).trans ((v_set 3 rfl).trans ((v_set 4 rfl).trans ((v_skip rfl).trans (tailL [] (fun _ z => nomatch z) rfl (by decide) fun _ _ _ _ => rfl)))))))
theorem p_keep {a : D} (ha : Pl a) : f_p_is_step [.tup [.str w_keep, a]] [] = .ok (.bl (allP [(.slot, a)] && true)) [] :=
  v_fn 1 ((v_skip rfl).trans ((v_skip rfl).trans ((v_set 1 rfl).trans ((v_skip rfl).trans (tailP [(.slot, a)] (List.forall_mem_cons.mpr ⟨ha, fun _ z => nomatch z⟩) (show 1 ≤ 16777216 by decide) rfl fun _ => rfl)))))
theorem q_keep {a : D} (ha : Pl a) : f_is_step [.tup [.str w_keep, a]] [] = .ok (.bl (allP [(.slot, a)] && true)) [] :=
  v_fn 7 ((v_set 1 rfl).trans ((v_set 2 rfl).trans ((v_skip rfl).trans ((v_set 3 rfl).trans ((v_set 4 rfl).trans ((v_skip rfl).trans (tailL [(0, .slot, a)] (List.forall_mem_cons.mpr ⟨⟨rfl, rfl, ha⟩, fun _ z => nomatch z⟩) rfl (by decide) fun _ _ _ _ => rfl)))))))
theorem p_fetch {a : D} (ha : Pl a) : f_p_is_step [.tup [.str w_fetch, a]] [] = .ok (.bl (allP [(.slot, a)] && true)) [] :=
  v_fn 1 ((v_skip rfl).trans ((v_skip rfl).trans ((v_set 1 rfl).trans ((v_skip rfl).trans (tailP [(.slot, a)] (List.forall_mem_cons.mpr ⟨ha, fun _ z => nomatch z⟩) (show 1 ≤ 16777216 by decide) rfl fun _ => rfl)))))
theorem q_fetch {a : D} (ha : Pl a) : f_is_step [.tup [.str w_fetch, a]] [] = .ok (.bl (allP [(.slot, a)] && true)) [] :=
  v_fn 7 ((v_set 1 rfl).trans ((v_set 2 rfl).trans ((v_skip rfl).trans ((v_set 3 rfl).trans ((v_set 4 rfl).trans ((v_skip rfl).trans (tailL [(0, .slot, a)] (List.forall_mem_cons.mpr ⟨⟨rfl, rfl, ha⟩, fun _ z => nomatch z⟩) rfl (by decide) fun _ _ _ _ => rfl)))))))
theorem p_dox {a : D} (ha : Pl a) : f_p_is_step [.tup [.str w_dox, a]] [] = .ok (.bl (allP [(.op, a)] && true)) [] :=
  v_fn 1 ((v_skip rfl).trans ((v_skip rfl).trans ((v_set 1 rfl).trans ((v_skip rfl).trans (tailP [(.op, a)] (List.forall_mem_cons.mpr ⟨ha, fun _ z => nomatch z⟩) (show 1 ≤ 16777216 by decide) rfl fun _ => rfl)))))
theorem q_dox {a : D} (ha : Pl a) : f_is_step [.tup [.str w_dox, a]] [] = .ok (.bl (allP [(.op, a)] && true)) [] :=
  v_fn 7 ((v_set 1 rfl).trans ((v_set 2 rfl).trans ((v_skip rfl).trans ((v_set 3 rfl).trans ((v_set 4 rfl).trans ((v_skip rfl).trans (tailL [(0, .op, a)] (List.forall_mem_cons.mpr ⟨⟨rfl, rfl, ha⟩, fun _ z => nomatch z⟩) rfl (by decide) fun _ _ _ _ => rfl)))))))
theorem p_jump {a : D} (ha : Pl a) : f_p_is_step [.tup [.str w_jump, a]] [] = .ok (.bl (allP [(.dist, a)] && true)) [] :=
  v_fn 1 ((v_skip rfl).trans ((v_skip rfl).trans ((v_set 1 rfl).trans ((v_skip rfl).trans (tailP [(.dist, a)] (List.forall_mem_cons.mpr ⟨ha, fun _ z => nomatch z⟩) (show 1 ≤ 16777216 by decide) rfl fun _ => rfl)))))
theorem q_jump {a : D} (ha : Pl a) : f_is_step [.tup [.str w_jump, a]] [] = .ok (.bl (allP [(.dist, a)] && true)) [] :=
  v_fn 7 ((v_set 1 rfl).trans ((v_set 2 rfl).trans ((v_skip rfl).trans ((v_set 3 rfl).trans ((v_set 4 rfl).trans ((v_skip rfl).trans (tailL [(0, .dist, a)] (List.forall_mem_cons.mpr ⟨⟨rfl, rfl, ha⟩, fun _ z => nomatch z⟩) rfl (by decide) fun _ _ _ _ => rfl)))))))
theorem p_if {a b c d : D} (ha : Pl a) (hb : Pl b) (hc : Pl c) (hd : Pl d) : f_p_is_step [.tup [.str w_if, a, b, c, d]] [] = .ok (.bl (allP [(.test, a), (.num, b), (.dist, c), (.dist, d)] && true)) [] :=
  v_fn 1 ((v_skip rfl).trans ((v_skip rfl).trans ((v_set 1 rfl).trans ((v_skip rfl).trans (tailP [(.test, a), (.num, b), (.dist, c), (.dist, d)] (List.forall_mem_cons.mpr ⟨ha, List.forall_mem_cons.mpr ⟨hb, List.forall_mem_cons.mpr ⟨hc, List.forall_mem_cons.mpr ⟨hd, fun _ z => nomatch z⟩⟩⟩⟩) (show 4 ≤ 16777216 by decide) rfl fun _ => rfl)))))
theorem q_if {a b c d : D} (ha : Pl a) (hb : Pl b) (hc : Pl c) (hd : Pl d) : f_is_step [.tup [.str w_if, a, b, c, d]] [] = .ok (.bl (allP [(.test, a), (.num, b), (.dist, c), (.dist, d)] && true)) [] :=
  v_fn 7 ((v_set 1 rfl).trans ((v_set 2 rfl).trans ((v_skip rfl).trans ((v_set 3 rfl).trans ((v_set 4 rfl).trans ((v_skip rfl).trans (tailL [(0, .test, a), (1, .num, b), (2, .dist, c), (3, .dist, d)] (List.forall_mem_cons.mpr ⟨⟨rfl, rfl, ha⟩, List.forall_mem_cons.mpr ⟨⟨rfl, rfl, hb⟩, List.forall_mem_cons.mpr ⟨⟨rfl, rfl, hc⟩, List.forall_mem_cons.mpr ⟨⟨rfl, rfl, hd⟩, fun _ z => nomatch z⟩⟩⟩⟩) rfl (by decide) fun _ _ _ _ => rfl)))))))
theorem p_ifx {a b c : D} (ha : Pl a) (hb : Pl b) (hc : Pl c) : f_p_is_step [.tup [.str w_ifx, a, b, c]] [] = .ok (.bl (allP [(.test, a), (.dist, b), (.dist, c)] && true)) [] :=
  v_fn 1 ((v_skip rfl).trans ((v_skip rfl).trans ((v_set 1 rfl).trans ((v_skip rfl).trans (tailP [(.test, a), (.dist, b), (.dist, c)] (List.forall_mem_cons.mpr ⟨ha, List.forall_mem_cons.mpr ⟨hb, List.forall_mem_cons.mpr ⟨hc, fun _ z => nomatch z⟩⟩⟩) (show 3 ≤ 16777216 by decide) rfl fun _ => rfl)))))
theorem q_ifx {a b c : D} (ha : Pl a) (hb : Pl b) (hc : Pl c) : f_is_step [.tup [.str w_ifx, a, b, c]] [] = .ok (.bl (allP [(.test, a), (.dist, b), (.dist, c)] && true)) [] :=
  v_fn 7 ((v_set 1 rfl).trans ((v_set 2 rfl).trans ((v_skip rfl).trans ((v_set 3 rfl).trans ((v_set 4 rfl).trans ((v_skip rfl).trans (tailL [(0, .test, a), (1, .dist, b), (2, .dist, c)] (List.forall_mem_cons.mpr ⟨⟨rfl, rfl, ha⟩, List.forall_mem_cons.mpr ⟨⟨rfl, rfl, hb⟩, List.forall_mem_cons.mpr ⟨⟨rfl, rfl, hc⟩, fun _ z => nomatch z⟩⟩⟩) rfl (by decide) fun _ _ _ _ => rfl)))))))
theorem p_tell {a : D} (ha : Pl a) : f_p_is_step [.tup [.str w_tell, a]] [] = .ok (.bl (allP [(.num, a)] && true)) [] :=
  v_fn 1 ((v_skip rfl).trans ((v_skip rfl).trans ((v_set 1 rfl).trans ((v_skip rfl).trans (tailP [(.num, a)] (List.forall_mem_cons.mpr ⟨ha, fun _ z => nomatch z⟩) (show 1 ≤ 16777216 by decide) rfl fun _ => rfl)))))
theorem q_tell {a : D} (ha : Pl a) : f_is_step [.tup [.str w_tell, a]] [] = .ok (.bl (allP [(.num, a)] && true)) [] :=
  v_fn 7 ((v_set 1 rfl).trans ((v_set 2 rfl).trans ((v_skip rfl).trans ((v_set 3 rfl).trans ((v_set 4 rfl).trans ((v_skip rfl).trans (tailL [(0, .num, a)] (List.forall_mem_cons.mpr ⟨⟨rfl, rfl, ha⟩, fun _ z => nomatch z⟩) rfl (by decide) fun _ _ _ _ => rfl)))))))
theorem p_tella : f_p_is_step [.tup [.str w_tella]] [] = .ok (.bl (allP [] && true)) [] :=
  v_fn 1 ((v_skip rfl).trans ((v_skip rfl).trans ((v_set 1 rfl).trans ((v_skip rfl).trans (tailP [] (fun _ z => nomatch z) (show 0 ≤ 16777216 by decide) rfl fun _ => rfl)))))
theorem q_tella : f_is_step [.tup [.str w_tella]] [] = .ok (.bl (allP [] && true)) [] :=
  v_fn 7 ((v_set 1 rfl).trans ((v_set 2 rfl).trans ((v_skip rfl).trans ((v_set 3 rfl).trans ((v_set 4 rfl).trans ((v_skip rfl).trans (tailL [] (fun _ z => nomatch z) rfl (by decide) fun _ _ _ _ => rfl)))))))
theorem agree0  : ∀ x ∈ wsL, Agree (.tup [.str x]) :=
  ws_all ⟨⟨false, rfl, rfl⟩, ⟨_, p_len, q_len⟩, ⟨false, rfl, rfl⟩, ⟨false, rfl, rfl⟩, ⟨_, p_tax, q_tax⟩, ⟨_, p_txa, q_txa⟩, ⟨false, rfl, rfl⟩, ⟨false, rfl, rfl⟩, ⟨false, rfl, rfl⟩, ⟨false, rfl, rfl⟩, ⟨false, rfl, rfl⟩, ⟨false, rfl, rfl⟩, ⟨false, rfl, rfl⟩, ⟨false, rfl, rfl⟩, ⟨_, p_tella, q_tella⟩, ⟨false, rfl, rfl⟩, ⟨false, rfl, rfl⟩, ⟨false, rfl, rfl⟩, ⟨false, rfl, rfl⟩, ⟨false, rfl, rfl⟩, ⟨false, rfl, rfl⟩, ⟨false, rfl, rfl⟩, ⟨false, rfl, rfl⟩, ⟨false, rfl, rfl⟩, ⟨false, rfl, rfl⟩, ⟨false, rfl, rfl⟩, ⟨false, rfl, rfl⟩, ⟨false, rfl, rfl⟩, ⟨false, rfl, rfl⟩, ⟨false, rfl, rfl⟩, ⟨false, rfl, rfl⟩, ⟨false, rfl, rfl⟩, ⟨false, rfl, rfl⟩, ⟨false, rfl, rfl⟩, ⟨false, rfl, rfl⟩⟩
theorem agree1 {a : D} (ha : Pl a) : ∀ x ∈ wsL, Agree (.tup [.str x, a]) :=
  ws_all ⟨⟨false, rfl, rfl⟩, ⟨false, rfl, rfl⟩, ⟨_, p_set ha, q_set ha⟩, ⟨_, p_setx ha, q_setx ha⟩, ⟨false, rfl, rfl⟩, ⟨false, rfl, rfl⟩, ⟨_, p_keep ha, q_keep ha⟩, ⟨_, p_fetch ha, q_fetch ha⟩, ⟨false, rfl, rfl⟩, ⟨_, p_dox ha, q_dox ha⟩, ⟨_, p_jump ha, q_jump ha⟩, ⟨false, rfl, rfl⟩, ⟨false, rfl, rfl⟩, ⟨_, p_tell ha, q_tell ha⟩, ⟨false, rfl, rfl⟩, ⟨false, rfl, rfl⟩, ⟨false, rfl, rfl⟩, ⟨false, rfl, rfl⟩, ⟨false, rfl, rfl⟩, ⟨false, rfl, rfl⟩, ⟨false, rfl, rfl⟩, ⟨false, rfl, rfl⟩, ⟨false, rfl, rfl⟩, ⟨false, rfl, rfl⟩, ⟨false, rfl, rfl⟩, ⟨false, rfl, rfl⟩, ⟨false, rfl, rfl⟩, ⟨false, rfl, rfl⟩, ⟨false, rfl, rfl⟩, ⟨false, rfl, rfl⟩, ⟨false, rfl, rfl⟩, ⟨false, rfl, rfl⟩, ⟨false, rfl, rfl⟩, ⟨false, rfl, rfl⟩, ⟨false, rfl, rfl⟩⟩
theorem agree2 {a b : D} (ha : Pl a) (hb : Pl b) : ∀ x ∈ wsL, Agree (.tup [.str x, a, b]) :=
  ws_all ⟨⟨false, rfl, rfl⟩, ⟨false, rfl, rfl⟩, ⟨false, rfl, rfl⟩, ⟨false, rfl, rfl⟩, ⟨false, rfl, rfl⟩, ⟨false, rfl, rfl⟩, ⟨false, rfl, rfl⟩, ⟨false, rfl, rfl⟩, agree_do ha hb, ⟨false, rfl, rfl⟩, ⟨false, rfl, rfl⟩, ⟨false, rfl, rfl⟩, ⟨false, rfl, rfl⟩, ⟨false, rfl, rfl⟩, ⟨false, rfl, rfl⟩, ⟨false, rfl, rfl⟩, ⟨false, rfl, rfl⟩, ⟨false, rfl, rfl⟩, ⟨false, rfl, rfl⟩, ⟨false, rfl, rfl⟩, ⟨false, rfl, rfl⟩, ⟨false, rfl, rfl⟩, ⟨false, rfl, rfl⟩, ⟨false, rfl, rfl⟩, ⟨false, rfl, rfl⟩, ⟨false, rfl, rfl⟩, ⟨false, rfl, rfl⟩, ⟨false, rfl, rfl⟩, ⟨false, rfl, rfl⟩, ⟨false, rfl, rfl⟩, ⟨false, rfl, rfl⟩, ⟨false, rfl, rfl⟩, ⟨false, rfl, rfl⟩, ⟨false, rfl, rfl⟩, ⟨false, rfl, rfl⟩⟩
theorem agree3 {a b c : D} (ha : Pl a) (hb : Pl b) (hc : Pl c) : ∀ x ∈ wsL, Agree (.tup [.str x, a, b, c]) :=
  ws_all ⟨⟨_, p_load ha hb hc, q_load ha hb hc⟩, ⟨false, rfl, rfl⟩, ⟨false, rfl, rfl⟩, ⟨false, rfl, rfl⟩, ⟨false, rfl, rfl⟩, ⟨false, rfl, rfl⟩, ⟨false, rfl, rfl⟩, ⟨false, rfl, rfl⟩, ⟨false, rfl, rfl⟩, ⟨false, rfl, rfl⟩, ⟨false, rfl, rfl⟩, ⟨false, rfl, rfl⟩, ⟨_, p_ifx ha hb hc, q_ifx ha hb hc⟩, ⟨false, rfl, rfl⟩, ⟨false, rfl, rfl⟩, ⟨false, rfl, rfl⟩, ⟨false, rfl, rfl⟩, ⟨false, rfl, rfl⟩, ⟨false, rfl, rfl⟩, ⟨false, rfl, rfl⟩, ⟨false, rfl, rfl⟩, ⟨false, rfl, rfl⟩, ⟨false, rfl, rfl⟩, ⟨false, rfl, rfl⟩, ⟨false, rfl, rfl⟩, ⟨false, rfl, rfl⟩, ⟨false, rfl, rfl⟩, ⟨false, rfl, rfl⟩, ⟨false, rfl, rfl⟩, ⟨false, rfl, rfl⟩, ⟨false, rfl, rfl⟩, ⟨false, rfl, rfl⟩, ⟨false, rfl, rfl⟩, ⟨false, rfl, rfl⟩, ⟨false, rfl, rfl⟩⟩
theorem agree4 {a b c d : D} (ha : Pl a) (hb : Pl b) (hc : Pl c) (hd : Pl d) : ∀ x ∈ wsL, Agree (.tup [.str x, a, b, c, d]) :=
  ws_all ⟨⟨false, rfl, rfl⟩, ⟨false, rfl, rfl⟩, ⟨false, rfl, rfl⟩, ⟨false, rfl, rfl⟩, ⟨false, rfl, rfl⟩, ⟨false, rfl, rfl⟩, ⟨false, rfl, rfl⟩, ⟨false, rfl, rfl⟩, ⟨false, rfl, rfl⟩, ⟨false, rfl, rfl⟩, ⟨false, rfl, rfl⟩, ⟨_, p_if ha hb hc hd, q_if ha hb hc hd⟩, ⟨false, rfl, rfl⟩, ⟨false, rfl, rfl⟩, ⟨false, rfl, rfl⟩, ⟨false, rfl, rfl⟩, ⟨false, rfl, rfl⟩, ⟨false, rfl, rfl⟩, ⟨false, rfl, rfl⟩, ⟨false, rfl, rfl⟩, ⟨false, rfl, rfl⟩, ⟨false, rfl, rfl⟩, ⟨false, rfl, rfl⟩, ⟨false, rfl, rfl⟩, ⟨false, rfl, rfl⟩, ⟨false, rfl, rfl⟩, ⟨false, rfl, rfl⟩, ⟨false, rfl, rfl⟩, ⟨false, rfl, rfl⟩, ⟨false, rfl, rfl⟩, ⟨false, rfl, rfl⟩, ⟨false, rfl, rfl⟩, ⟨false, rfl, rfl⟩, ⟨false, rfl, rfl⟩, ⟨false, rfl, rfl⟩⟩
theorem agree5 {a b c d e : D} (ha : Pl a) (hb : Pl b) (hc : Pl c) (hd : Pl d) (he : Pl e) : ∀ x ∈ wsL, Agree (.tup [.str x, a, b, c, d, e]) :=
  ws_all ⟨⟨false, rfl, rfl⟩, ⟨false, rfl, rfl⟩, ⟨false, rfl, rfl⟩, ⟨false, rfl, rfl⟩, ⟨false, rfl, rfl⟩, ⟨false, rfl, rfl⟩, ⟨false, rfl, rfl⟩, ⟨false, rfl, rfl⟩, ⟨false, rfl, rfl⟩, ⟨false, rfl, rfl⟩, ⟨false, rfl, rfl⟩, ⟨false, rfl, rfl⟩, ⟨false, rfl, rfl⟩, ⟨false, rfl, rfl⟩, ⟨false, rfl, rfl⟩, ⟨false, rfl, rfl⟩, ⟨false, rfl, rfl⟩, ⟨false, rfl, rfl⟩, ⟨false, rfl, rfl⟩, ⟨false, rfl, rfl⟩, ⟨false, rfl, rfl⟩, ⟨false, rfl, rfl⟩, ⟨false, rfl, rfl⟩, ⟨false, rfl, rfl⟩, ⟨false, rfl, rfl⟩, ⟨false, rfl, rfl⟩, ⟨false, rfl, rfl⟩, ⟨false, rfl, rfl⟩, ⟨false, rfl, rfl⟩, ⟨false, rfl, rfl⟩, ⟨false, rfl, rfl⟩, ⟨false, rfl, rfl⟩, ⟨false, rfl, rfl⟩, ⟨false, rfl, rfl⟩, ⟨false, rfl, rfl⟩⟩
end K02
set_option Elab.async false
set_option linter.all false
set_option maxRecDepth 100000
set_option maxHeartbeats 4000000
namespace K02
open PySem PySem.Spec PyProof.Rows L2 M
local macro_rules | `(tactic| walk_at "ev") => `(tactic| simp only [e_bin, e_bin1, e_bin2, e_var0, e_varS, e_c, e_test, e_kTest, e_ch, e_ch1, e_ch2, e_ch3, e_isN, e_notN, e_kIsN, e_kNotN, e_tru, e_kTru, e_and, e_or, e_not, e_kAnd, e_kOr, e_kNot, e_andV, e_orV, e_notV, e_kAndV, e_kOrV, e_kNotV, e_if, e_kIf, e_nil, e_cons, e_cons1, e_cons2, e_tup, e_lst, e_dic, e_kTup, e_kLst, e_kDic, e_callB, e_kCallB, e_isI, e_kIsI, e_call, e_kCall, e_neg, e_kNeg, e_skip, e_seq, e_kSeqN, e_kSeqR, e_kSeqB, e_kSeqC, e_ret, e_kRet, e_retN, e_drop, e_kDrop, e_set, e_kSet, e_ite, e_kIte, e_for, e_kFor, e_range1, e_kRange1, e_overL, e_overT, e_kOverL, e_kOverT, e_kFinR, e_kFinN, e_fnOf, bind_ok, bind_exc, bind_bad, ofO_some, ofO_none, noX_ok, deref_non, deref_bl, deref_int, deref_str, deref_tup, deref_lst, deref_dic, List.map_cons, List.map_nil, List.cons_append, List.nil_append, List.replicate_succ, List.replicate_zero, List.append_nil, List.set_cons_zero, List.set_cons_succ, g_add, g_sub, g_mulL, g_mulR, g_div, g_mod, g_and, g_or, g_xor, g_lt, g_le, g_gt, g_ge, g_eqI, g_neI, g_eqB, g_idxL, g_idxT, g_lenL, g_lenT, g_max, g_min, g_intB, g_intI, if_true, if_false, Int.reduceLT, Int.reduceNeg, truD, isN, Bool.not_true, Bool.not_false, decide_true, decide_false, Bool.false_eq_true, reduceIte, Option.map_some, Option.bind_some, List.isEmpty_nil, List.isEmpty_cons])
local macro_rules | `(tactic| walk_at "evh") => `(tactic| simp only [*, e_bin, e_bin1, e_bin2, e_var0, e_varS, e_c, e_test, e_kTest, e_ch, e_ch1, e_ch2, e_ch3, e_isN, e_notN, e_kIsN, e_kNotN, e_tru, e_kTru, e_and, e_or, e_not, e_kAnd, e_kOr, e_kNot, e_andV, e_orV, e_notV, e_kAndV, e_kOrV, e_kNotV, e_if, e_kIf, e_nil, e_cons, e_cons1, e_cons2, e_tup, e_lst, e_dic, e_kTup, e_kLst, e_kDic, e_callB, e_kCallB, e_isI, e_kIsI, e_call, e_kCall, e_neg, e_kNeg, e_skip, e_seq, e_kSeqN, e_kSeqR, e_kSeqB, e_kSeqC, e_ret, e_kRet, e_retN, e_drop, e_kDrop, e_set, e_kSet, e_ite, e_kIte, e_for, e_kFor, e_range1, e_kRange1, e_overL, e_overT, e_kOverL, e_kOverT, e_kFinR, e_kFinN, e_fnOf, bind_ok, bind_exc, bind_bad, ofO_some, ofO_none, noX_ok, deref_non, deref_bl, deref_int, deref_str, deref_tup, deref_lst, deref_dic, List.map_cons, List.map_nil, List.cons_append, List.nil_append, List.replicate_succ, List.replicate_zero, List.append_nil, List.set_cons_zero, List.set_cons_succ, g_add, g_sub, g_mulL, g_mulR, g_div, g_mod, g_and, g_or, g_xor, g_lt, g_le, g_gt, g_ge, g_eqI, g_neI, g_eqB, g_idxL, g_idxT, g_lenL, g_lenT, g_max, g_min, g_intB, g_intI, if_true, if_false, Int.reduceLT, Int.reduceNeg, truD, isN, Bool.not_true, Bool.not_false, decide_true, decide_false, Bool.false_eq_true, reduceIte, Option.map_some, Option.bind_some, List.isEmpty_nil, List.isEmpty_cons])
local macro_rules | `(tactic| walk_at "evd") => `(tactic| simp (config := {decide := true}) only [g_eqS, g_neS, beq_self_eq_true, e_bin, e_bin1, e_bin2, e_var0, e_varS, e_c, e_test, e_kTest, e_ch, e_ch1, e_ch2, e_ch3, e_isN, e_notN, e_kIsN, e_kNotN, e_tru, e_kTru, e_and, e_or, e_not, e_kAnd, e_kOr, e_kNot, e_andV, e_orV, e_notV, e_kAndV, e_kOrV, e_kNotV, e_if, e_kIf, e_nil, e_cons, e_cons1, e_cons2, e_tup, e_lst, e_dic, e_kTup, e_kLst, e_kDic, e_callB, e_kCallB, e_isI, e_kIsI, e_call, e_kCall, e_neg, e_kNeg, e_skip, e_seq, e_kSeqN, e_kSeqR, e_kSeqB, e_kSeqC, e_ret, e_kRet, e_retN, e_drop, e_kDrop, e_set, e_kSet, e_ite, e_kIte, e_for, e_kFor, e_range1, e_kRange1, e_overL, e_overT, e_kOverL, e_kOverT, e_kFinR, e_kFinN, e_fnOf, bind_ok, bind_exc, bind_bad, ofO_some, ofO_none, noX_ok, deref_non, deref_bl, deref_int, deref_str, deref_tup, deref_lst, deref_dic, List.map_cons, List.map_nil, List.cons_append, List.nil_append, List.replicate_succ, List.replicate_zero, List.append_nil, List.set_cons_zero, List.set_cons_succ, g_add, g_sub, g_mulL, g_mulR, g_div, g_mod, g_and, g_or, g_xor, g_lt, g_le, g_gt, g_ge, g_eqI, g_neI, g_eqB, g_idxL, g_idxT, g_lenL, g_lenT, g_max, g_min, g_intB, g_intI, if_true, if_false, Int.reduceLT, Int.reduceNeg, truD, isN, Bool.not_true, Bool.not_false, decide_true, decide_false, Bool.false_eq_true, reduceIte, Option.map_some, Option.bind_some, List.isEmpty_nil, List.isEmpty_cons])
local macro_rules | `(tactic| walk_at "evhd") => `(tactic| simp (config := {decide := true}) only [*, g_eqS, g_neS, beq_self_eq_true, e_bin, e_bin1, e_bin2, e_var0, e_varS, e_c, e_test, e_kTest, e_ch, e_ch1, e_ch2, e_ch3, e_isN, e_notN, e_kIsN, e_kNotN, e_tru, e_kTru, e_and, e_or, e_not, e_kAnd, e_kOr, e_kNot, e_andV, e_orV, e_notV, e_kAndV, e_kOrV, e_kNotV, e_if, e_kIf, e_nil, e_cons, e_cons1, e_cons2, e_tup, e_lst, e_dic, e_kTup, e_kLst, e_kDic, e_callB, e_kCallB, e_isI, e_kIsI, e_call, e_kCall, e_neg, e_kNeg, e_skip, e_seq, e_kSeqN, e_kSeqR, e_kSeqB, e_kSeqC, e_ret, e_kRet, e_retN, e_drop, e_kDrop, e_set, e_kSet, e_ite, e_kIte, e_for, e_kFor, e_range1, e_kRange1, e_overL, e_overT, e_kOverL, e_kOverT, e_kFinR, e_kFinN, e_fnOf, bind_ok, bind_exc, bind_bad, ofO_some, ofO_none, noX_ok, deref_non, deref_bl, deref_int, deref_str, deref_tup, deref_lst, deref_dic, List.map_cons, List.map_nil, List.cons_append, List.nil_append, List.replicate_succ, List.replicate_zero, List.append_nil, List.set_cons_zero, List.set_cons_succ, g_add, g_sub, g_mulL, g_mulR, g_div, g_mod, g_and, g_or, g_xor, g_lt, g_le, g_gt, g_ge, g_eqI, g_neI, g_eqB, g_idxL, g_idxT, g_lenL, g_lenT, g_max, g_min, g_intB, g_intI, if_true, if_false, Int.reduceLT, Int.reduceNeg, truD, isN, Bool.not_true, Bool.not_false, decide_true, decide_false, Bool.false_eq_true, reduceIte, Option.map_some, Option.bind_some, List.isEmpty_nil, List.isEmpty_cons])

def cell (ns : List Int) (k : Nat) : Int := if ns = [] then 0 else ns.getD (k % ns.length) 0
def sc (ns : List Int) : D := .lst (ns.map .int)
theorem cell_eq (ns : List Int) (k : Nat) (μ : Mu) : f_cell [sc ns, .int k] μ = .ok (.int (cell ns k)) μ := by
  unfold f_cell b_cell sc
  cases ns with
  | nil => rfl
  | cons n r =>
    have hl : (0 : Int) < ((D.int n :: List.map D.int r).length : Nat) := by simp only [List.length_cons]; omega
    walk_at "ev"
    rw [g_mod _ _ hl]
    walk_at "ev"
    have e1 : atI (D.int n :: List.map D.int r) ((k : Int) % ((D.int n :: List.map D.int r).length : Nat)) = some (.int (cell (n :: r) k)) := by
      rw [atI_pos (Int.emod_nonneg _ (by omega))]
      have e2 : ((k : Int) % ((D.int n :: List.map D.int r).length : Nat)).toNat = k % (n :: r).length := by
        simp only [List.length_cons, List.length_map]
        omega
      rw [e2]
      have hk : k % (n :: r).length < (n :: r).length := Nat.mod_lt _ (by simp)
      have : (D.int n :: List.map D.int r) = (n :: r).map D.int := rfl
      rw [this, List.getElem?_map, List.getElem?_eq_getElem hk]
      simp only [cell, reduceCtorEq, if_false, Option.map_some]
      rw [List.getD_eq_getElem?_getD, List.getElem?_eq_getElem hk]
      rfl
    rw [e1]
    walk_at "ev"
def mixv (c : Int) (k : Nat) : Int := (c + 104729 * ((k : Int) + 1)) % 4294967291 * 48271 % 4294967279
def mix (ns : List Int) (k : Nat) : Int := (mixv (cell ns k) k / 64 * 69621 + mixv (cell ns k) k) % 4294967231
theorem mix_eq (ns : List Int) (k : Nat) (μ : Mu) : f_mix [sc ns, .int k] μ = .ok (.int (mix ns k)) μ := by
  unfold f_mix b_mix
  walk_at "ev"
  rw [cell_eq]
  walk_at "ev"
  rfl
theorem mix_lo (ns : List Int) (k : Nat) : 0 ≤ mix ns k := Int.emod_nonneg _ (by decide)
theorem mix_hi (ns : List Int) (k : Nat) : mix ns k < 4294967231 := Int.emod_lt_of_pos _ (by decide)
def kL : List Int := [0, 1, 2, 7, 31, 32, 255, 256, 65535, 2147483648, 4294967295, 12]
def kv (n : Int) : Int := if n % 4 > 0 then kL.getD (n / 4 % 12).toNat 0 else n / 4 % 4294967296
theorem kL_all : ∀ i < 12, 0 ≤ kL.getD i 0 ∧ kL.getD i 0 < 4294967296 := by decide
theorem kv_lo (n : Int) : 0 ≤ kv n := by
  unfold kv
  split
  · exact (kL_all _ (by omega)).1
  · omega
theorem kv_hi (n : Int) : kv n < 4294967296 := by
  unfold kv
  split
  · exact (kL_all _ (by omega)).2
  · omega
theorem k_eq (n : Int) (μ : Mu) : f_k [.int n] μ = .ok (.int (kv n)) μ := by
  unfold f_k b_k
  walk_at "ev"
  rw [atI_pos (by omega)]
  have e : [D.int 0, D.int 1, D.int 2, D.int 7, D.int 31, D.int 32, D.int 255, D.int 256, D.int 65535, D.int 2147483648, D.int 4294967295, D.int 12] = kL.map D.int := rfl
  have hk : (n / 4 % 12).toNat < kL.length := by show _ < 12; omega
  rw [e, List.getElem?_map, List.getElem?_eq_getElem hk]
  unfold kv
  by_cases h : n % 4 > 0
  · have h' : 0 < n % 4 := h
    simp only [h', decide_true, if_true, gt_iff_lt, Option.map_some, List.getD_eq_getElem?_getD, List.getElem?_eq_getElem hk, Option.getD_some]
    rfl
  · have h' : ¬ 0 < n % 4 := h
    simp only [h', decide_false, gt_iff_lt, if_false]
    rfl
def opw (n : Int) : List Nat := opL.getD (n % 10).toNat []
theorem opw_mem (n : Int) : opw n ∈ opL := by
  unfold opw
  have hk : (n % 10).toNat < opL.length := by show _ < 10; omega
  rw [List.getD_eq_getElem?_getD, List.getElem?_eq_getElem hk]
  exact List.getElem_mem hk
theorem op_eq (n : Int) (μ : Mu) : f_op [.int n] μ = .ok (.str (opw n)) μ := by
  unfold f_op b_op
  walk_at "ev"
  rw [atI_pos (by omega)]
  have e : [D.str w_plus, D.str w_minus, D.str w_times, D.str w_over, D.str w_rest, D.str w_and, D.str w_or, D.str w_xor, D.str w_left, D.str w_right] = opL.map D.str := rfl
  have hk : (n % 10).toNat < opL.length := by show _ < 10; omega
  rw [e, List.getElem?_map, List.getElem?_eq_getElem hk]
  unfold opw
  simp only [Option.map_some, List.getD_eq_getElem?_getD, List.getElem?_eq_getElem hk, Option.getD_some]
  rfl


theorem agree_tup : ∀ (xs : List D), xs.length ≤ 6 → (∀ d ∈ xs, Pl d) → Agree (.tup xs)
  | [], _, _ => ⟨false, rfl, rfl⟩
  | x :: r, hl, h => by
    obtain ⟨hx, hr⟩ := List.forall_mem_cons.mp h
    match r, hl, hr with
    | [], _, _ => cases hx with
      | str hx => exact agree0 _ hx
      | _ => exact ⟨false, rfl, rfl⟩
    | [a], _, hr =>
      have ha := hr a (by simp)
      cases hx with
      | str hx => exact agree1 ha _ hx
      | _ => exact ⟨false, rfl, rfl⟩
    | [a, b], _, hr =>
      have ha := hr a (by simp)
      have hb := hr b (by simp)
      cases hx with
      | str hx => exact agree2 ha hb _ hx
      | _ => exact ⟨false, rfl, rfl⟩
    | [a, b, c], _, hr =>
      have ha := hr a (by simp)
      have hb := hr b (by simp)
      have hc := hr c (by simp)
      cases hx with
      | str hx => exact agree3 ha hb hc _ hx
      | _ => exact ⟨false, rfl, rfl⟩
    | [a, b, c, d], _, hr =>
      have ha := hr a (by simp)
      have hb := hr b (by simp)
      have hc := hr c (by simp)
      have hd := hr d (by simp)
      cases hx with
      | str hx => exact agree4 ha hb hc hd _ hx
      | _ => exact ⟨false, rfl, rfl⟩
    | [a, b, c, d, e], _, hr =>
      have ha := hr a (by simp)
      have hb := hr b (by simp)
      have hc := hr c (by simp)
      have hd := hr d (by simp)
      have he := hr e (by simp)
      cases hx with
      | str hx => exact agree5 ha hb hc hd he _ hx
      | _ => exact ⟨false, rfl, rfl⟩
    | _ :: _ :: _ :: _ :: _ :: _ :: _, hl, _ => simp at hl
theorem agree_one : Agree (.tup [.int 1]) := ⟨false, rfl, rfl⟩
theorem agree_pl {d : D} (h : Pl d) : Agree d := by
  cases h with
  | tup => exact agree_one
  | _ => exact ⟨false, rfl, rfl⟩
theorem agree_lst (xs : List D) : Agree (.lst xs) := ⟨false, rfl, rfl⟩
/-! ### a step is drawn -/
def StL (s : List D) : Prop := s ≠ [] ∧ s.length ≤ 5 ∧ ∀ d ∈ s, Pl d
def St (r : Res Out) : Prop := ∃ s, r = .ok (.rt (.tup s)) [] ∧ StL s
theorem St.of {r r' : Res Out} (e : r = r') (h : St r') : St r := by rw [e]; exact h
theorem St.ite {ρ : En} {t : MB} {a r : MSt} {k : Bool} (ht : t ρ [] = .ok k []) (h1 : k = true → St (a ρ [])) (h2 : k = false → St (r ρ [])) : St (mSeq (mIte t a mSkip) r ρ []) := by
  cases k with
  | true =>
    obtain ⟨s, e, hs⟩ := h1 rfl
    exact ⟨s, v_seqR ((v_iteT ht).trans e), hs⟩
  | false => exact St.of (v_skip ht) (h2 rfl)
theorem St.ret {ρ : En} {m : MX} {s : List D} (h : m ρ [] = .ok (.tup s) []) (hs : StL s) : St (mRet m ρ []) := ⟨s, v_ret h, hs⟩
theorem mix_at (ns : List Int) (k : Nat) {i : Int} (h : i = k) (μ : Mu) : f_mix [sc ns, .int i] μ = .ok (.int (mix ns k)) μ := by rw [h]; exact mix_eq ns k μ
theorem op_ws (n : Int) : opw n ∈ wsL := by
  have := opw_mem n
  simp only [opL, List.mem_cons, List.not_mem_nil, or_false] at this
  simp only [wsL, List.mem_cons, List.not_mem_nil, or_false]
  rcases this with h | h | h | h | h | h | h | h | h | h <;> simp [h]
theorem in4 : ∀ x ∈ wsL, gIn (.str x) (.tup [.str w_over, .str w_rest, .str w_left, .str w_right]) = some (.bl ([w_over, w_rest, w_left, w_right].contains x)) := ws_all ⟨rfl, rfl, rfl, rfl, rfl, rfl, rfl, rfl, rfl, rfl, rfl, rfl, rfl, rfl, rfl, rfl, rfl, rfl, rfl, rfl, rfl, rfl, rfl, rfl, rfl, rfl, rfl, rfl, rfl, rfl, rfl, rfl, rfl, rfl, rfl⟩
theorem v_iteSet {ρ : En} {μ : Mu} {t : MB} {m : MX} {r : MSt} {d : D} (i : Nat) (ht : t ρ μ = .ok true μ) (hm : m ρ μ = .ok d μ) : mSeq (mIte t (mSet i m) mSkip) r ρ μ = r (ρ.set i (some d)) μ := v_seqN ((v_iteT ht).trans (by unfold mSet; rw [hm]; rfl))
def EvP (m : MX) (ρ : En) (P : D → Prop) : Prop := ∃ d, m ρ [] = .ok d [] ∧ P d
def EvL (ms : MAs) (ρ : En) (n : Nat) : Prop := ∃ ds, ms ρ [] = .ok ds [] ∧ ds.length = n ∧ ∀ d ∈ ds, Pl d
section
variable {ρ : En} {m ma mb : MX} {ms : MAs} {t : MB}
theorem ev_nil : EvL mNil ρ 0 := ⟨[], rfl, rfl, fun _ z => nomatch z⟩
theorem ev_cons {n : Nat} (h1 : EvP m ρ Pl) (h2 : EvL ms ρ n) : EvL (mCons m ms) ρ (n + 1) := by
  obtain ⟨d, e1, p1⟩ := h1
  obtain ⟨ds, e2, l2, p2⟩ := h2
  exact ⟨d :: ds, v_cons e1 e2, by simp [l2], List.forall_mem_cons.mpr ⟨p1, p2⟩⟩
theorem ev_c {d : D} (h : Pl d) : EvP (mC d) ρ Pl := ⟨d, rfl, h⟩
theorem ev_w {x : List Nat} (h : x ∈ wsL := by decide) : EvP (mC (.str x)) ρ Pl := ⟨_, rfl, .str h⟩
theorem ev_i {i : Int} : EvP (mC (.int i)) ρ Pl := ⟨_, rfl, .int i⟩
theorem ev_var (i : Nat) {d : D} (h : ρ[i]? = some (some d)) (hp : Pl d) : EvP (mVar i) ρ Pl := ⟨d, v_var i h, hp⟩
theorem ev_int {i : Int} (h : m ρ [] = .ok (.int i) []) : EvP m ρ Pl := ⟨_, h, .int i⟩
theorem ev_str {x : List Nat} (h : m ρ [] = .ok (.str x) []) (hx : x ∈ wsL) : EvP m ρ Pl := ⟨_, h, .str hx⟩
theorem ev_if {k : Bool} {P : D → Prop} (ht : t ρ [] = .ok k []) (h1 : EvP ma ρ P) (h2 : EvP mb ρ P) : EvP (mIf t ma mb) ρ P := by
  cases k with
  | true => obtain ⟨d, e, p⟩ := h1; exact ⟨d, (v_ifT ht).trans e, p⟩
  | false => obtain ⟨d, e, p⟩ := h2; exact ⟨d, (v_ifF ht).trans e, p⟩
theorem ev_pick (n : Nat) {i : Int} (h : EvL ms ρ n) (h0 : 0 < n) (hi : m ρ [] = .ok (.int i) []) : EvP (mBin gIdx (mLst ms) (mBin gMod m (mC (.int n)))) ρ Pl := by
  obtain ⟨L, e, l, p⟩ := h
  obtain ⟨d, hd, e2⟩ := v_pick e hi l h0
  exact ⟨d, e2, p d hd⟩
theorem St.tup {n : Nat} (h : EvL ms ρ n) (h0 : 0 < n) (h5 : n ≤ 5) : St (mRet (mTup ms) ρ []) := by
  obtain ⟨ds, e, l, p⟩ := h
  exact St.ret (v_tup e) ⟨fun z => by rw [z] at l; simp at l; omega, by omega, p⟩
theorem EvP.tup {n : Nat} (h : EvL ms ρ n) (h0 : 0 < n) (h5 : n ≤ 5) : EvP (mTup ms) ρ (fun d => ∃ s, d = .tup s ∧ StL s) := by
  obtain ⟨ds, e, l, p⟩ := h
  exact ⟨_, v_tup e, ds, rfl, fun z => by rw [z] at l; simp at l; omega, by omega, p⟩
theorem St.evp (h : EvP m ρ (fun d => ∃ s, d = .tup s ∧ StL s)) : St (mRet m ρ []) := by
  obtain ⟨d, e, s, rfl, hs⟩ := h
  exact St.ret e hs
theorem v_div {x : Nat} {n j : Int} (h : ρ[x]? = some (some (.int n))) (h1 : 0 < j) (h2 : j < 18446744073709551616) : mBin gDiv (mVar x) (mC (.int j)) ρ [] = .ok (.int (n / j)) [] := v_bin (v_var x h) rfl (g_div _ _ h1 h2)
theorem v_mod {i j : Int} (h : m ρ [] = .ok (.int i) []) (h1 : 0 < j) : mBin gMod m (mC (.int j)) ρ [] = .ok (.int (i % j)) [] := v_bin h rfl (g_mod _ _ h1)
theorem v_truI {i : Int} (h : m ρ [] = .ok (.int i) []) : mTru m ρ [] = .ok (!(i == 0)) [] := v_tru h (by show truD (.int i) = _; simp [truD]; try rfl)
end
theorem one_w (x : List Nat) (h : x ∈ wsL) : ∃ s, D.tup [.str x] = .tup s ∧ StL s := ⟨_, rfl, by simp, by simp, fun d hd => by rw [List.mem_singleton] at hd; rw [hd]; exact .str h⟩
theorem step_ok (ns : List Int) : ∃ s, f_step [sc ns, .int 0, .int 2000] [] = .ok (.tup s) [] ∧ StL s := by
  suffices h : St (b_step [some (sc ns), some (.int 0), some (.int 2000), none, none, none, none, none, none, none, none] []) by
    obtain ⟨s, e, hs⟩ := h
    exact ⟨s, v_fn 8 e, hs⟩
  refine St.of (v_set 3 (v_call rfl (mix_at ns 0 rfl []))) (St.of (v_set 4 (v_call (v_cons (v_call rfl (mix_at ns 1 rfl [])) v_nil) (k_eq _ []))) ?_)
  generalize hn : mix ns 0 = n
  generalize kv (mix ns 1) = k
  refine St.of (v_set 5 (v_bin rfl rfl (g_mod n 18 (by decide)))) ?_
  have hw0 : 0 ≤ n % 18 := Int.emod_nonneg _ (by decide)
  have hw1 : n % 18 < 18 := Int.emod_lt_of_pos _ (by decide)
  generalize n % 18 = y at hw0 hw1
  obtain ⟨small, es, ps⟩ := ev_pick (ρ := [some (sc ns), some (.int 0), some (.int 2000), some (.int n), some (.int k), some (.int y), none, none, none, none, none]) (m := mBin gDiv (mVar 3) (mC (.int 18))) 6 (ev_cons (ev_i (i := 0)) (ev_cons (ev_i (i := 1)) (ev_cons (ev_i (i := 2)) (ev_cons (ev_i (i := 5)) (ev_cons (ev_i (i := 13)) (ev_cons (ev_i (i := 19)) ev_nil)))))) (by decide) (v_div rfl (by decide) (by decide))
  refine St.of (v_set 6 es) ?_
  refine St.of (v_set 7 (v_bin (v_call rfl (mix_at ns 2 rfl [])) (y := .int 2000) rfl (g_mod _ 2000 (by decide)))) ?_
  refine St.of (v_set 8 (v_bin (v_call rfl (mix_at ns 3 rfl [])) (y := .int 2000) rfl (g_mod _ 2000 (by decide)))) ?_
  generalize mix ns 2 % 2000 = one
  generalize mix ns 3 % 2000 = other
  refine St.ite (k := decide (y < 3)) rfl (fun _ => ?_) fun _ => ?_
  · exact St.tup (ev_cons ev_w (ev_cons (ev_pick 3 (ev_cons ev_i (ev_cons ev_i (ev_cons ev_i ev_nil))) (by decide) (v_div rfl (by decide) (by decide))) (ev_cons (ev_pick 2 (ev_cons ev_w (ev_cons ev_w ev_nil)) (by decide) (v_div rfl (by decide) (by decide))) (ev_cons (ev_if (v_truI (v_mod (v_div rfl (by decide) (by decide)) (by decide))) (ev_var 6 rfl ps) (ev_var 4 rfl (.int k))) ev_nil)))) (by decide) (by decide)
  refine St.ite (k := decide (y < 5)) rfl (fun _ => ?_) fun h5 => ?_
  · obtain ⟨d, hd, e⟩ := v_pick (n := 4) (μ := []) (ρ := [some (sc ns), some (.int 0), some (.int 2000), some (.int n), some (.int k), some (.int y), some small, some (.int one), some (.int other), none, none]) (m := mBin gDiv (mVar 3) (mC (.int 18))) (ms := mCons (mTup (mCons (mC (.str w_len)) mNil)) (mCons (mTup (mCons (mC (.str w_tax)) mNil)) (mCons (mTup (mCons (mC (.str w_txa)) mNil)) (mCons (mTup (mCons (mC (.str w_tella)) mNil)) mNil)))) (L := [.tup [.str w_len], .tup [.str w_tax], .tup [.str w_txa], .tup [.str w_tella]]) rfl (v_div rfl (by decide) (by decide)) rfl (by decide)
    refine St.evp ⟨d, e, ?_⟩
    simp only [List.mem_cons, List.not_mem_nil, or_false] at hd
    rcases hd with rfl | rfl | rfl | rfl
    · exact one_w _ (by decide)
    · exact one_w _ (by decide)
    · exact one_w _ (by decide)
    · exact one_w _ (by decide)
  have h5 := of_decide_eq_false h5
  refine St.ite (k := decide (y < 7)) rfl (fun h7 => ?_) fun h7 => ?_
  · have h7 := of_decide_eq_true h7
    obtain rfl | rfl : y = 5 ∨ y = 6 := by omega
    · exact St.tup (ev_cons (ev_str (x := w_set) rfl (by decide)) (ev_cons (ev_var 4 rfl (.int k)) ev_nil)) (by decide) (by decide)
    · exact St.tup (ev_cons (ev_str (x := w_setx) rfl (by decide)) (ev_cons (ev_var 4 rfl (.int k)) ev_nil)) (by decide) (by decide)
  have h7 := of_decide_eq_false h7
  refine St.ite (k := decide (y < 9)) rfl (fun h9 => ?_) fun h9 => ?_
  · have h9 := of_decide_eq_true h9
    obtain rfl | rfl : y = 7 ∨ y = 8 := by omega
    · exact St.tup (ev_cons (ev_str (x := w_keep) rfl (by decide)) (ev_cons (ev_int (v_mod (v_div rfl (by decide) (by decide)) (by decide))) ev_nil)) (by decide) (by decide)
    · exact St.tup (ev_cons (ev_str (x := w_fetch) rfl (by decide)) (ev_cons (ev_int (v_mod (v_div rfl (by decide) (by decide)) (by decide))) ev_nil)) (by decide) (by decide)
  refine St.ite (k := decide (y < 11)) rfl (fun _ => ?_) fun _ => ?_
  · refine St.of (v_set 9 (v_call (v_cons (v_div rfl (by decide) (by decide)) v_nil) (op_eq _ []))) ?_
    have ht := in4 _ (op_ws (n / 18))
    cases hb : [w_over, w_rest, w_left, w_right].contains (opw (n / 18)) with
    | true =>
      rw [hb] at ht
      exact St.of (v_iteSet 4 (v_test (v_bin rfl rfl ht)) (v_bin (x := .int 1) (y := .int (k % 31)) (z := .int (1 + k % 31)) rfl (v_mod rfl (by decide)) rfl)) (St.tup (ev_cons ev_w (ev_cons (ev_var 9 rfl (.str (op_ws _))) (ev_cons (ev_var 4 rfl (.int (1 + k % 31))) ev_nil))) (by decide) (by decide))
    | false =>
      rw [hb] at ht
      exact St.of (v_skip (v_test (v_bin rfl rfl ht))) (St.tup (ev_cons ev_w (ev_cons (ev_var 9 rfl (.str (op_ws _))) (ev_cons (ev_var 4 rfl (.int k)) ev_nil))) (by decide) (by decide))
  refine St.ite (k := y == 11) rfl (fun _ => ?_) fun _ => ?_
  · exact St.tup (ev_cons ev_w (ev_cons (ev_str (v_call (v_cons (v_div rfl (by decide) (by decide)) v_nil) (op_eq _ [])) (op_ws _)) ev_nil)) (by decide) (by decide)
  refine St.ite (k := y == 12) rfl (fun _ => ?_) fun _ => ?_
  · exact St.tup (ev_cons ev_w (ev_cons (ev_var 7 rfl (.int one)) ev_nil)) (by decide) (by decide)
  obtain ⟨ts, et, pt⟩ := ev_pick (ρ := [some (sc ns), some (.int 0), some (.int 2000), some (.int n), some (.int k), some (.int y), some small, some (.int one), some (.int other), none, none]) (m := mBin gDiv (mVar 3) (mC (.int 18))) 4 (ev_cons (ev_w (x := w_equal)) (ev_cons (ev_w (x := w_above)) (ev_cons (ev_w (x := w_least)) (ev_cons (ev_w (x := w_any)) ev_nil)))) (by decide) (v_div rfl (by decide) (by decide))
  refine St.of (v_set 10 et) ?_
  refine St.ite (k := decide (y < 15)) rfl (fun _ => ?_) fun _ => ?_
  · exact St.tup (ev_cons ev_w (ev_cons (ev_var 10 rfl pt) (ev_cons (ev_if (v_truI (v_mod (v_div rfl (by decide) (by decide)) (by decide))) (ev_var 4 rfl (.int k)) (ev_var 6 rfl ps)) (ev_cons (ev_var 7 rfl (.int one)) (ev_cons (ev_var 8 rfl (.int other)) ev_nil))))) (by decide) (by decide)
  refine St.ite (k := y == 15) rfl (fun _ => ?_) fun _ => ?_
  · exact St.tup (ev_cons ev_w (ev_cons (ev_var 10 rfl pt) (ev_cons (ev_var 7 rfl (.int one)) (ev_cons (ev_var 8 rfl (.int other)) ev_nil)))) (by decide) (by decide)
  exact St.evp (ev_if (k := y == 16) rfl (EvP.tup (ev_cons ev_w (ev_cons (ev_var 4 rfl (.int k)) ev_nil)) (by decide) (by decide)) (EvP.tup (ev_cons ev_w (ev_cons (ev_int (v_mod (v_div rfl (by decide) (by decide)) (by decide))) ev_nil)) (by decide) (by decide)))
end K02
set_option Elab.async false
set_option linter.all false
set_option maxRecDepth 100000
set_option maxHeartbeats 4000000
namespace K02
open PySem PySem.Spec PyProof.Rows L2 M
theorem v_sl {ρ : En} {μ : Mu} {m : MX} {lo hi : MOp} {d z : D} {l h : Option Int} (hm : m ρ μ = .ok d μ) (hl : lo ρ μ = .ok l μ) (hh : hi ρ μ = .ok h μ) (hg : gSl d l h = some z) : mSl m lo hi ρ μ = .ok z μ := by
  unfold mSl; rw [hm, bind_ok, hl, bind_ok, hh, bind_ok, hg]; rfl
theorem v_part {ρ : En} {μ : Mu} {m : MX} {i : Int} (h : m ρ μ = .ok (.int i) μ) : mPart m ρ μ = .ok (some i) μ := by unfold mPart; rw [h]; rfl
theorem sl_to {s : List D} {a : Nat} (h : a < s.length) : gSl (.tup s) none (some (a : Int)) = some (.tup (s.take a)) := by
  have e1 : HT.sIx s.length s.length (some (a : Int)) = a := by rw [HT.sIx_nat]; omega
  unfold gSl
  simp only [e1, HT.sIx_none]
  rw [if_neg (by omega)]
  unfold M.cutD
  rw [e1, HT.sIx_none]
  rfl
theorem sl_from {s : List D} {a : Nat} (h : a < s.length) : gSl (.tup s) (some ((a : Int) + 1)) none = some (.tup (s.drop (a + 1))) := by
  have e1 : HT.sIx s.length 0 (some ((a : Int) + 1)) = a + 1 := by
    rw [show (a : Int) + 1 = ((a + 1 : Nat) : Int) by omega, HT.sIx_nat]; omega
  unfold gSl
  simp only [e1, HT.sIx_none]
  rw [if_neg (by omega)]
  unfold M.cutD
  rw [e1, HT.sIx_none, List.take_of_length_le (by rw [List.length_drop]; omega)]
theorem sl_last {s : List D} (h : s ≠ []) : gSl (.tup s) none (some (-1)) = some (.tup (s.take (s.length - 1))) := by
  have h0 : 0 < s.length := List.length_pos_iff.mpr h
  have e1 : HT.sIx s.length s.length (some (-1)) = s.length - 1 := by
    show (if (-1 : Int) < 0 then (-1 + (s.length : Int)).toNat else min (-1 : Int).toNat s.length) = _
    rw [if_pos (by decide)]; omega
  unfold gSl
  simp only [e1, HT.sIx_none]
  rw [if_neg (by omega)]
  unfold M.cutD
  rw [e1, HT.sIx_none]
  rfl
theorem add_tup (xs ys : List D) (h : xs.length + ys.length ≤ 16777216) : gAdd (.tup xs) (.tup ys) = some (.tup (xs ++ ys)) := by
  unfold gAdd
  simp only
  rw [if_pos h]
abbrev rEnd : MSt := mSeq (mSet 7 (mCall f_p_is_step (mCons (mVar 6) mNil))) (mRet (mAndV (mIsI .bool (mVar 7)) (mBin gEq (mVar 7) (mCall f_is_step (mCons (mVar 6) mNil)))))
theorem end_ok {x0 x1 x2 x3 x4 x5 x7 : Option D} {d : D} (h : Agree d) : rEnd [x0, x1, x2, x3, x4, x5, some d, x7] [] = .ok (.rt (.bl true)) [] := by
  obtain ⟨b, h1, h2⟩ := h
  refine (v_set 7 (v_call rfl h1)).trans (v_ret ((v_andVT rfl).trans (v_bin rfl (v_call rfl h2) ?_)))
  cases b <;> rfl
def menuL : List D := [.int 0, .int (-1), .bl true, .bl false, .non, .str w_at, .str w_x, .str w_y, .int 8, .int 7, .int 2000, .int 2001, .int 4294967295, .int 4294967296, .int 3, .int 4, .int 32, .int 31, .str w_plus, .str w_mod, .tup [.int 1], .lst [], .str w_equal, .str w_like, .str w34, .int (10 ^ 30), .str w_tell, .str w_len, .int 1, .int 2]
theorem menu_pl : ∀ d ∈ menuL, Pl d := by
  intro d hd
  simp only [menuL, List.mem_cons, List.not_mem_nil, or_false] at hd
  rcases hd with rfl | rfl | rfl | rfl | rfl | rfl | rfl | rfl | rfl | rfl | rfl | rfl | rfl | rfl | rfl | rfl | rfl | rfl | rfl | rfl | rfl | rfl | rfl | rfl | rfl | rfl | rfl | rfl | rfl | rfl <;>
    first | exact .int _ | exact .bl _ | exact .non | exact .tup | exact .lst | exact .str (by decide)
theorem mem_take {s : List D} {a : Nat} (h : ∀ d ∈ s, Pl d) : ∀ d ∈ s.take a, Pl d := fun d hd => h d (List.mem_of_mem_take hd)
theorem mem_drop {s : List D} {a : Nat} (h : ∀ d ∈ s, Pl d) : ∀ d ∈ s.drop a, Pl d := fun d hd => h d (List.mem_of_mem_drop hd)
theorem pls_app {s r : List D} (h : ∀ d ∈ s, Pl d) (h' : ∀ d ∈ r, Pl d) : ∀ d ∈ s ++ r, Pl d := fun d hd => (List.mem_append.mp hd).elim (h d) (h' d)
theorem pls_one {d : D} (h : Pl d) : ∀ x ∈ [d], Pl x := fun x hx => by rw [List.mem_singleton] at hx; rw [hx]; exact h
theorem law_true (ns : List Int) (hl : ns.length ≤ 63) : f_law [.lst (ns.map .int)] [] = .ok (.bl true) [] := by
  obtain ⟨s, es, hs0, hs5, hsp⟩ := step_ok ns
  have hsl : 0 < s.length := List.length_pos_iff.mpr hs0
  refine v_fn 7 ?_
  refine (v_set 1 (v_call rfl es)).trans ((v_set 2 (d := .lst menuL) (μ1 := []) rfl).trans ?_)
  obtain ⟨som, hsom, e3⟩ : ∃ d ∈ menuL, mBin gIdx (mVar 2) (mBin gMod (mCall f_mix (mCons (mVar 0) (mCons (mC (.int 10)) mNil))) (mC (.int 30))) [some (sc ns), some (.tup s), some (.lst menuL), none, none, none, none, none] [] = .ok d [] := by
    have hk : (mix ns 10 % 30).toNat < menuL.length := by show _ < 30; omega
    refine ⟨menuL[(mix ns 10 % 30).toNat], List.getElem_mem hk, v_bin rfl (v_mod (v_call rfl (mix_at ns 10 rfl [])) (by decide)) ?_⟩
    show atI menuL (mix ns 10 % 30) = _
    rw [atI_pos (by omega), List.getElem?_eq_getElem hk]
  have hp := menu_pl som hsom
  refine (v_set 3 e3).trans ?_
  refine (v_set 4 (v_bin (v_call rfl (mix_at ns 11 rfl [])) (y := .int (s.length : Int)) rfl (g_mod _ _ (by omega)))).trans ?_
  have ha0 : 0 ≤ mix ns 11 % (s.length : Int) := Int.emod_nonneg _ (by omega)
  have ha1 : mix ns 11 % (s.length : Int) < s.length := Int.emod_lt_of_pos _ (by omega)
  obtain ⟨a, ha⟩ : ∃ a : Nat, mix ns 11 % (s.length : Int) = a := ⟨(mix ns 11 % (s.length : Int)).toNat, by omega⟩
  rw [ha] at ha0 ha1 ⊢
  have ha2 : a < s.length := by omega
  refine (v_set 5 (v_mod (v_call rfl (mix_at ns 12 rfl [])) (by decide))).trans ((v_set 6 rfl).trans ?_)
  have hy0 : 0 ≤ mix ns 12 % 6 := Int.emod_nonneg _ (by decide)
  have hy1 : mix ns 12 % 6 < 6 := Int.emod_lt_of_pos _ (by decide)
  generalize mix ns 12 % 6 = y at hy0 hy1
  have cut : ∀ yy : Int, mBin gAdd (mBin gAdd (mSl (mVar 1) mNoP (mPart (mVar 4))) (mTup (mCons (mVar 3) mNil))) (mSl (mVar 1) (mPart (mBin gAdd (mVar 4) (mC (.int 1)))) mNoP) [some (sc ns), some (.tup s), some (.lst menuL), some som, some (.int a), some (.int yy), some (.tup s), none] [] = .ok (.tup ((s.take a ++ [som]) ++ s.drop (a + 1))) [] := fun yy =>
    v_bin (v_bin (v_sl rfl rfl (v_part rfl) (sl_to ha2)) rfl (add_tup _ _ (by rw [List.length_take, List.length_singleton]; omega))) (v_sl rfl (v_part rfl) rfl (sl_from ha2)) (add_tup _ _ (by rw [List.length_append, List.length_take, List.length_drop, List.length_singleton]; omega))
  have hcut : Agree (.tup ((s.take a ++ [som]) ++ s.drop (a + 1))) := agree_tup _ (by rw [List.length_append, List.length_append, List.length_take, List.length_drop, List.length_singleton]; omega) (pls_app (pls_app (mem_take hsp) (pls_one hp)) (mem_drop hsp))
  obtain rfl | rfl | rfl | rfl | rfl | rfl : y = 0 ∨ y = 1 ∨ y = 2 ∨ y = 3 ∨ y = 4 ∨ y = 5 := by omega
  · exact (v_skip rfl).trans ((v_skip rfl).trans ((v_skip rfl).trans ((v_skip rfl).trans (end_ok (agree_tup s (by omega) hsp)))))
  · exact (v_iteSet 6 rfl (cut 1)).trans ((v_skip rfl).trans ((v_skip rfl).trans ((v_skip rfl).trans (end_ok hcut))))
  · exact (v_iteSet 6 rfl (cut 2)).trans ((v_skip rfl).trans ((v_skip rfl).trans ((v_skip rfl).trans (end_ok hcut))))
  · refine (v_skip rfl).trans ?_
    obtain ⟨d, hd, e⟩ := v_pick (n := 4) (μ := []) (ρ := [some (sc ns), some (.tup s), some (.lst menuL), some som, some (.int a), some (.int 3), some (.tup s), none]) (ms := mCons (mBin gAdd (mVar 1) (mTup (mCons (mVar 3) mNil))) (mCons (mSl (mVar 1) mNoP (mPart (mNeg (mC (.int 1))))) (mCons (mCallB gListC (mCons (mVar 1) mNil)) (mCons (mTup (mCons (mVar 3) mNil)) mNil)))) (m := mCall f_mix (mCons (mVar 0) (mCons (mC (.int 13)) mNil)))
      (L := [.tup (s ++ [som]), .tup (s.take (s.length - 1)), .lst s, .tup [som]]) (v_cons (v_bin rfl rfl (add_tup _ _ (by rw [List.length_singleton]; omega))) (v_cons (v_sl rfl rfl (v_part rfl) (sl_last hs0)) rfl)) (v_call rfl (mix_at ns 13 rfl [])) rfl (by decide)
    have hA : Agree d := by
      simp only [List.mem_cons, List.not_mem_nil, or_false] at hd
      rcases hd with rfl | rfl | rfl | rfl
      · exact agree_tup _ (by rw [List.length_append, List.length_singleton]; omega) (pls_app hsp (pls_one hp))
      · exact agree_tup _ (by rw [List.length_take]; omega) (mem_take hsp)
      · exact agree_lst _
      · exact agree_tup _ (show 1 ≤ 6 by decide) (pls_one hp)
    exact (v_iteSet 6 rfl e).trans ((v_skip rfl).trans ((v_skip rfl).trans (end_ok hA)))
  · exact (v_skip rfl).trans ((v_skip rfl).trans ((v_iteSet 6 rfl rfl).trans ((v_skip rfl).trans (end_ok (agree_pl hp)))))
  · refine (v_skip rfl).trans ((v_skip rfl).trans ((v_skip rfl).trans ?_))
    obtain ⟨o, eo, po⟩ := ev_pick (ρ := [some (sc ns), some (.tup s), some (.lst menuL), some som, some (.int a), some (.int 5), some (.tup s), none]) (m := mVar 4) 4 (ev_cons (ev_w (x := w_over)) (ev_cons (ev_w (x := w_left)) (ev_cons (ev_w (x := w_rest)) (ev_cons (ev_w (x := w_right)) ev_nil)))) (by decide) rfl
    obtain ⟨n, en, pn⟩ := ev_pick (ρ := [some (sc ns), some (.tup s), some (.lst menuL), some som, some (.int a), some (.int 5), some (.tup s), none]) (m := mCall f_mix (mCons (mVar 0) (mCons (mC (.int 13)) mNil))) 4 (ev_cons (ev_i (i := 0)) (ev_cons (ev_i (i := 31)) (ev_cons (ev_i (i := 32)) (ev_cons (ev_i (i := 1)) ev_nil)))) (by decide) (v_call rfl (mix_at ns 13 rfl []))
    exact (v_iteSet 6 rfl (v_tup (v_cons rfl (v_cons eo (v_cons en v_nil))))).trans (end_ok (agree_tup _ (show 3 ≤ 6 by decide) (List.forall_mem_cons.mpr ⟨.str (by decide), List.forall_mem_cons.mpr ⟨po, pls_one pn⟩⟩)))
end K02
open PySem PySem.W PyProof.Rows
set_option maxRecDepth 100000 in
set_option maxHeartbeats 0 in
theorem PySem.Challenge.cw_netsieve_k02_steps_holds : PySem.Challenge.rw_netsieve_k02_steps.Holds := by
  w_on; o_law; k_head; (case hw => w_witness2)
  k_fill
  refine M.walk_law (l := PySem.Challenge.rw_netsieve_k02_steps) (k := 5) (x := "_law_script") (φ := K02.f_law) rfl rfl ⟨rfl, by decide, by decide⟩ (fun w h Y => PySem.W.kIn_of Y) ?F (fun ns hl => K02.law_true ns hl)
  case F =>
    intro w mg fa h KX G hmg
    refine K02.finish hmg ?T
    refine' K02.mkT KX G ?n_len ?n_max ?n_list ?n_isinstance ?n_tuple ?n_str ?n_zip ?n_int ?n_bool ?n_all ?n_range ?a_PARTS ?l_PARTS ?h_PARTS ?l0_PARTS ?l1_PARTS ?l2_PARTS ?l3_PARTS ?l4_PARTS ?l5_PARTS ?l6_PARTS ?l7_PARTS ?l8_PARTS ?l9_PARTS ?l10_PARTS ?l11_PARTS ?l12_PARTS ?l13_PARTS ?l14_PARTS ?a_ROUND ?a_SIZES ?l_SIZES ?a_SLOTS ?a_FARTHEST ?a_BASES ?l_BASES ?a_OPS ?l_OPS ?a_TESTS ?l_TESTS ?a_DIVIDING ?l_DIVIDING ?a_SHIFTING ?l_SHIFTING ?a_WIDTH ?a_cell ?l_cell ?c_cell ?k_cell ?a_mix ?l_mix ?c_mix ?k_mix ?a_k ?l_k ?c_k ?k_k ?a_op ?l_op ?c_op ?k_op ?a_step ?l_step ?c_step ?k_step ?a_p_is_whole ?l_p_is_whole ?c_p_is_whole ?k_p_is_whole ?a_p_is_number ?l_p_is_number ?c_p_is_number ?k_p_is_number ?a_p_is_part ?l_p_is_part ?c_p_is_part ?k_p_is_part ?a_p_can_be_done_by ?l_p_can_be_done_by ?c_p_can_be_done_by ?k_p_can_be_done_by ?a_p_is_step ?l_p_is_step ?c_p_is_step ?k_p_is_step ?a_whole ?l_whole ?c_whole ?k_whole ?a_number ?l_number ?c_number ?k_number ?a_word ?l_word ?c_word ?k_word ?a_is_step ?l_is_step ?c_is_step ?k_is_step ?a_law ?l_law ?c_law ?k_law
    (case n_len => k_is); (case n_max => k_is); (case n_list => k_is); (case n_isinstance => k_is)
    (case n_tuple => k_is); (case n_str => k_is); (case n_zip => k_is); (case n_int => k_is)
    (case n_bool => k_is); (case n_all => k_is); (case n_range => k_is); (case a_PARTS => k_is)
    (case l_PARTS => k_is); (case h_PARTS => rfl); (case l0_PARTS => k_is); (case l1_PARTS => k_is)
    (case l2_PARTS => k_is); (case l3_PARTS => k_is); (case l4_PARTS => k_is); (case l5_PARTS => k_is)
    (case l6_PARTS => k_is); (case l7_PARTS => k_is); (case l8_PARTS => k_is); (case l9_PARTS => k_is)
    (case l10_PARTS => k_is); (case l11_PARTS => k_is); (case l12_PARTS => k_is); (case l13_PARTS => k_is)
    (case l14_PARTS => k_is); (case a_ROUND => k_is); (case a_SIZES => k_is); (case l_SIZES => k_is)
    (case a_SLOTS => k_is); (case a_FARTHEST => k_is); (case a_BASES => k_is); (case l_BASES => k_is)
    (case a_OPS => k_is); (case l_OPS => k_is); (case a_TESTS => k_is); (case l_TESTS => k_is)
    (case a_DIVIDING => k_is); (case l_DIVIDING => k_is); (case a_SHIFTING => k_is); (case l_SHIFTING => k_is)
    (case a_WIDTH => k_is); (case a_cell => k_is); (case l_cell => k_is); (case c_cell => k_is)
    (case k_cell => k_is); (case a_mix => k_is); (case l_mix => k_is); (case c_mix => k_is)
    (case k_mix => k_is); (case a_k => k_is); (case l_k => k_is); (case c_k => k_is)
    (case k_k => k_is); (case a_op => k_is); (case l_op => k_is); (case c_op => k_is)
    (case k_op => k_is); (case a_step => k_is); (case l_step => k_is); (case c_step => k_is)
    (case k_step => k_is); (case a_p_is_whole => k_is); (case l_p_is_whole => k_is); (case c_p_is_whole => k_is)
    (case k_p_is_whole => k_is); (case a_p_is_number => k_is); (case l_p_is_number => k_is); (case c_p_is_number => k_is)
    (case k_p_is_number => k_is); (case a_p_is_part => k_is); (case l_p_is_part => k_is); (case c_p_is_part => k_is)
    (case k_p_is_part => k_is); (case a_p_can_be_done_by => k_is); (case l_p_can_be_done_by => k_is); (case c_p_can_be_done_by => k_is)
    (case k_p_can_be_done_by => k_is); (case a_p_is_step => k_is); (case l_p_is_step => k_is); (case c_p_is_step => k_is)
    (case k_p_is_step => k_is); (case a_whole => k_is); (case l_whole => k_is); (case c_whole => k_is)
    (case k_whole => k_is); (case a_number => k_is); (case l_number => k_is); (case c_number => k_is)
    (case k_number => k_is); (case a_word => k_is); (case l_word => k_is); (case c_word => k_is)
    (case k_word => k_is); (case a_is_step => k_is); (case l_is_step => k_is); (case c_is_step => k_is)
    (case k_is_step => k_is); (case a_law => k_is); (case l_law => k_is); (case c_law => k_is)
    (case k_law => k_is)
