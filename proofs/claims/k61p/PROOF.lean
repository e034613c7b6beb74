import PyProof.Rows.All
import Wide.All
import OpenK.AllK
import Wide.FinOn
import Lean
import PyProof.EqAt
import PyProof.EqKinds
import PyProof.TupleCall
import PySem.Challenge.RW_neverwait_k61_chains_judged
set_option Elab.async false
set_option linter.all false
set_option maxRecDepth 100000
/-! THE HAND LAYER, for ints, bools, texts, own classes, LISTS and tuples (index, slices, in, append, pop ..), calls, loops. Paste it whole ahead of your own text; what your proof does not reach may be deleted. -/
namespace L2
open PySem PySem.Spec PyProof.Rows

/-- a key: an int or a str -/
abbrev Key := Sum Int Str
def keyIs : Key → Value → Bool
  | .inl k, v => Value.isInt k v
  | .inr x, v => Value.isStrOf x v
def keyH (w : World) : Key → Int
  | .inl k => hashInt k
  | .inr x => hashStr w x
theorem keyIs_shape : ∀ {k : Key} {v : Value}, keyIs k v = true → (∃ i t, k = Sum.inl i ∧ v = Value.int i t) ∨ (∃ x t, k = Sum.inr x ∧ v = Value.str x t)
  | .inl i, v, h => by
    obtain ⟨t, e⟩ := Value.isInt_shape (k := i) (v := v) h
    exact .inl ⟨i, t, rfl, e⟩
  | .inr x, v, h => by
    obtain ⟨t, e⟩ := Value.isStrOf_shape (x := x) (v := v) h
    exact .inr ⟨x, t, rfl, e⟩
theorem keyIs_int (i : Int) (t : Tok) : keyIs (.inl i) (.int i t) = true := by simp [keyIs, Value.isInt]
theorem keyIs_str (x : Str) (t : Tok) : keyIs (.inr x) (.str x t) = true := by simp [keyIs, Value.isStrOf]
theorem key_ll (a b : Int) : decide ((Sum.inl a : Key) = Sum.inl b) = (a == b) := by
  by_cases e : a = b
  · subst e; simp
  · have h : ¬ (Sum.inl a : Key) = Sum.inl b := fun q => e (Sum.inl.inj q)
    rw [decide_eq_false h]
    exact (beq_eq_false_iff_ne.mpr e).symm
theorem key_rr (a b : Str) : decide ((Sum.inr a : Key) = Sum.inr b) = decide (a = b) := by
  by_cases e : a = b
  · subst e; simp
  · have h : ¬ (Sum.inr a : Key) = Sum.inr b := fun q => e (Sum.inr.inj q)
    rw [decide_eq_false h, decide_eq_false e]
theorem key_lr (a : Int) (b : Str) : decide ((Sum.inl a : Key) = Sum.inr b) = false := decide_eq_false (fun q => nomatch q)
theorem key_rl (a : Str) (b : Int) : decide ((Sum.inr a : Key) = Sum.inl b) = false := decide_eq_false (fun q => nomatch q)

def mixKind (prog : Program) (w : World) : PySem.KeyKind prog w Key where
  is := keyIs
  hash := keyH w
  inj := fun v a b ha hb => by
    rcases keyIs_shape ha with ⟨i, t, rfl, rfl⟩ | ⟨x, t, rfl, rfl⟩
    · rcases keyIs_shape hb with ⟨j, u, rfl, e⟩ | ⟨y, u, rfl, e⟩
      · injection e with e1 _; rw [e1]
      · exact nomatch e
    · rcases keyIs_shape hb with ⟨j, u, rfl, e⟩ | ⟨y, u, rfl, e⟩
      · exact nomatch e
      · injection e with e1 _; rw [e1]
  byValue := fun k v h => by
    rcases keyIs_shape h with ⟨i, t, rfl, rfl⟩ | ⟨x, t, rfl, rfl⟩ <;> rfl
  pyHash := fun hv h => by
    rcases keyIs_shape hv with ⟨i, t, rfl, rfl⟩ | ⟨x, t, rfl, rfl⟩
    · exact wpAny_pyHash_int h
    · exact wpAny_pyHash_str h
  eqBool := fun hu hv h => by
    rcases keyIs_shape hu with ⟨i, t, rfl, rfl⟩ | ⟨x, t, rfl, rfl⟩
    · rcases keyIs_shape hv with ⟨j, u, rfl, rfl⟩ | ⟨y, u, rfl, rfl⟩
      · rw [key_ll] at h; exact wpAny_eqBool_int h
      · rw [key_lr] at h; exact SeqAt.EqAt.int_str i t y u _ _ _ _ h
    · rcases keyIs_shape hv with ⟨j, u, rfl, rfl⟩ | ⟨y, u, rfl, rfl⟩
      · rw [key_rl] at h; exact SeqAt.EqAt.str_int x t j u _ _ _ _ h
      · rw [key_rr] at h; exact wpAny_eqBool_str h
  «strs» := fun k x t v h => by
    rcases keyIs_shape h with ⟨i, u, rfl, e⟩ | ⟨y, u, rfl, e⟩
    · exact nomatch e
    · injection e with e1 _
      subst e1
      cases v <;> rfl

theorem mixKind_is (prog : Program) (w : World) (k : Key) (v : Value) : (mixKind prog w).is k v = keyIs k v := rfl
theorem mixKind_int (prog : Program) (w : World) (i : Int) (t : Tok) : (mixKind prog w).is (.inl i) (.int i t) = true := keyIs_int i t
theorem mixKind_str (prog : Program) (w : World) (x : Str) (t : Tok) : (mixKind prog w).is (.inr x) (.str x t) = true := keyIs_str x t
end L2

namespace L2
open PySem PySem.Spec PyProof.Rows

/-- a value, without the heap -/
inductive V where
  | non | bl (b : Bool) | int (i : Int) | str (x : Str) | byt (b : Array UInt8) | flt (b : UInt64) | ref (a : Addr) | ty (n : String)
  deriving DecidableEq

def RelV : V → Value → Prop
  | .non, u => u = Value.none
  | .bl b, u => u = Value.bool b
  | .int i, u => ∃ t, u = Value.int i t
  | .str x, u => ∃ t, u = Value.str x t
  | .byt b, u => ∃ t, u = Value.bytes b t
  | .flt b, u => ∃ t, u = Value.float b t
  | .ref a, u => u = Value.ref a
  | .ty n, u => u = Value.type n

abbrev Vals : List V → List Value → Prop := Paired RelV
theorem Vals.length {xs : List V} {us : List Value} (r : Vals xs us) : xs.length = us.length := Paired.length r
theorem Vals.get : ∀ {xs : List V} {us : List Value} {i : Nat} {x : V}, Vals xs us → xs[i]? = some x → ∃ u, us[i]? = some u ∧ RelV x u
  | _, _, _, _, .nil, e => by simp at e
  | _, _, 0, _, .cons r _, e => by simp at e; subst e; exact ⟨_, rfl, r⟩
  | _, _, i + 1, x, .cons _ t, e => by
    obtain ⟨u, h1, h2⟩ := Vals.get (i := i) (x := x) t (by simpa using e)
    exact ⟨u, by simpa using h1, h2⟩
theorem Vals.set {x : V} {u : Value} (r : RelV x u) : ∀ {xs : List V} {us : List Value} (i : Nat), Vals xs us → Vals (xs.set i x) (us.set i u)
  | _, _, _, .nil => .nil
  | _, _, 0, .cons _ t => .cons r t
  | _, _, i + 1, .cons q t => .cons q (Vals.set r i t)
theorem Vals.append : ∀ {xs ys : List V} {us ws : List Value}, Vals xs us → Vals ys ws → Vals (xs ++ ys) (us ++ ws)
  | _, _, _, _, .nil, s => s
  | _, _, _, _, .cons r t, s => .cons r (Vals.append t s)
theorem Vals.take : ∀ {xs : List V} {us : List Value} (n : Nat), Vals xs us → Vals (xs.take n) (us.take n)
  | _, _, 0, _ => .nil
  | _, _, _ + 1, .nil => .nil
  | _, _, n + 1, .cons r t => .cons r (Vals.take n t)
theorem Vals.drop : ∀ {xs : List V} {us : List Value} (n : Nat), Vals xs us → Vals (xs.drop n) (us.drop n)
  | _, _, 0, r => r
  | _, _, _ + 1, .nil => .nil
  | _, _, n + 1, .cons _ t => Vals.drop n t
theorem Vals.none_of : ∀ {xs : List V} {us : List Value} {i : Nat}, Vals xs us → xs[i]? = none → us[i]? = none := fun {xs us i} r e => by
  have h1 := r.length
  have h2 : xs.length ≤ i := List.getElem?_eq_none_iff.mp e
  exact List.getElem?_eq_none_iff.mpr (by omega)

def RelO : Option V → Option Value → Prop
  | some v, some u => RelV v u
  | none, none => True
  | _, _ => False
def KV {κ : Type} : List (κ × V) → List (κ × Value) → Prop := Paired fun (p : κ × V) (q : κ × Value) => p.1 = q.1 ∧ RelV p.2 q.2

/-- a key of a dict (00_mix): an int or a text -/
def kV : Key → V
  | .inl i => .int i
  | .inr x => .str x

/-- what stands at a tracked address -/
inductive HO where
  /-- a list -/
  | lst (xs : List V)
  /-- a tuple (never changes) -/
  | tup (xs : List V)
  /-- a dict whose keys are ints and texts; one whose keys are tuples of ints and texts (the empty one is both) -/
  | dK (kvs : List (Key × V)) | dT (kvs : List (List Key × V))
  /-- a set of ints: its members, its size -/
  | set (S : Int → Bool) (n : Nat)
  /-- an instance of the class at C, its dict at dx, its attributes -/
  | ins (C dx : Addr) (fs : List (Str × V))
  /-- the dict of the instance at x -/
  | own (x : Addr)
  /-- the dict of an exception -/
  | xd (fs : List (Str × V))
  /-- a bound method, f of x -/
  | met (f x : Addr)
  /-- a range object lo, lo + 1, .. below hi -/
  | rng (lo hi : Int)
  /-- a thing that is known to the object (the script; a dict while a loop walks it): read, never written while it is so -/
  | frz (o : Obj) (u : HO)
  /-- a code object's table -/
  | tbl (ps : Array Value)
  /-- any other thing, by what is true of its one object (a def of one's own: SetO a S n := HO.ext fun h => ..) -/
  | ext (φ : Heap → Prop)

abbrev Hp := Addr → Option HO
def upd (H : Hp) (a : Addr) (o : HO) : Hp := fun b => if b = a then some o else H b
theorem upd_same {H : Hp} {a : Addr} {o : HO} : upd H a o a = some o := by unfold upd; rw [if_pos rfl]
theorem upd_ne {H : Hp} {a b : Addr} {o : HO} (h : b ≠ a) : upd H a o b = H b := by unfold upd; rw [if_neg h]
theorem upd_upd {H : Hp} {a : Addr} {o u : HO} : upd (upd H a o) a u = upd H a u := by
  funext b; unfold upd; split <;> rfl
/-- two objects of different content stand apart -/
theorem ne_of {H : Hp} {a b : Addr} {o u : HO} (h : H a = some o) (h' : H b = some u) (d : o ≠ u) : a ≠ b := by
  intro e; subst e; rw [h] at h'; exact d (Option.some.inj h')
theorem ne_of_none {H : Hp} {a b : Addr} {o : HO} (h : H a = some o) (h' : H b = none) : a ≠ b := by
  intro e; subst e; rw [h] at h'; cases h'

section
variable (P : Program) (w : World)
def ObjOk (H : Hp) (h : Heap) (a : Addr) : HO → Prop
  | .lst xs => xs.length ≤ sizeLine ∧ ∃ (its : List Value) (n : Nat), Vals xs its ∧ h.get? a = some { cls := .type "list", data := .seq its.toArray n }
  | .tup xs => xs.length ≤ sizeLine ∧ ∃ its : List Value, Vals xs its ∧ IsTup h a its.toArray
  | .dK kvs => kvs.length ≤ sizeLine ∧ (a == sysModules) = false ∧ ∃ vs, KV kvs vs ∧ h.DictOf (mixKind P w) a vs
  | .dT kvs => kvs.length ≤ sizeLine ∧ (a == sysModules) = false ∧ ∃ xs : List (List Key × Addr × Value),
      Paired (fun (p : List Key × V) (q : List Key × Addr × Value) => p.1 = q.1 ∧ H q.2.1 = some (.tup (p.1.map kV)) ∧ RelV p.2 q.2.2) kvs xs ∧
      ∃ o es ep, h.get? a = some o ∧ o.ExactDict ∧ o.data = .dict es ep ∧ es.toList = xs.map (entryOfKey (tupleKind (mixKind P w))) ∧ (xs.map (·.1)).Nodup
  | .set S n => h.SetOf (intKind P w) a S n
  | .ins C dx fs => H dx = some (.own a) ∧ fs.length ≤ 1000 ∧ dx ≠ a ∧ h.get? a = some (PySem.W.instObj C dx) ∧
      ∃ mA, h.Ns1 dx mA ∧ (∀ f, RelO (fs.lookup f) (mA f)) ∧ PySem.Within mA (fs.map (·.1))
  | .own _ => ∃ o, h.get? a = some o
  | .xd fs => ∃ mA, h.Ns1 a mA ∧ ∀ f, RelO (fs.lookup f) (mA f)
  | .rng lo hi => ∃ t u v, h.get? a = some { cls := .type "range", data := .fields #[.int lo t, .int hi u, .int 1 v] }
  | .frz o u => h.get? a = some o ∧ ObjOk H h a u
  | .tbl ps => h.get? a = some { cls := .none, data := .fields ps }
  | .met f x => h.get? a = some (PySem.W.methodObj (.ref f) (.ref x))
  | .ext φ => φ h ∧ (∃ o, h.get? a = some o) ∧ ∀ h1 h2 : Heap, φ h1 → (∀ o, h1.get? a = some o → h2.get? a = some o) → φ h2
/-- the abstract heap is held -/
def HOk (H : Hp) (h : Heap) : Prop := ∀ a o, H a = some o → ObjOk P w H h a o
end

section
variable {P : Program} {w : World} {H H' : Hp} {h h' : Heap} {a : Addr} {o : HO}
theorem ObjOk.lt (x : ObjOk P w H h a o) : a < h.objs.size := by
  cases o with
  | lst xs => obtain ⟨_, _, _, _, e⟩ := x; exact Heap.lt_size e
  | tup xs => obtain ⟨_, _, _, p⟩ := x; exact p.lt
  | dK kvs => obtain ⟨_, _, _, _, o, _, _, e, _⟩ := x; exact Heap.lt_size e
  | dT kvs => obtain ⟨_, _, _, _, o, _, _, e, _⟩ := x; exact Heap.lt_size e
  | set S n => obtain ⟨o, _, _, _, e, _⟩ := x; exact Heap.lt_size e
  | ins C dx fs => obtain ⟨_, _, _, e, _⟩ := x; exact Heap.lt_size e
  | own y => obtain ⟨_, e⟩ := x; exact Heap.lt_size e
  | xd fs => obtain ⟨_, ⟨_, _, _, e, _⟩, _⟩ := x; exact Heap.lt_size e
  | rng lo hi => obtain ⟨_, _, _, e⟩ := x; exact Heap.lt_size e
  | frz ob u => obtain ⟨e, _⟩ := x; exact Heap.lt_size e
  | tbl ps => exact Heap.lt_size (show h.get? a = some _ from x)
  | met f y => exact Heap.lt_size (show h.get? a = some _ from x)
  | ext φ => obtain ⟨_, ⟨_, e⟩, _⟩ := x; exact Heap.lt_size e
theorem Paired.mapP {α β : Type} {F G : α → β → Prop} : ∀ {l₁ : List α} {l₂ : List β}, Paired F l₁ l₂ → (∀ a b, F a b → G a b) → Paired G l₁ l₂
  | _, _, .nil, _ => .nil
  | _, _, .cons r t, f => .cons (f _ _ r) (Paired.mapP t f)
theorem Paired.imp' {α β : Type} {F G : α → β → Prop} (f : ∀ a b, F a b → G a b) {l₁ : List α} {l₂ : List β} (r : Paired F l₁ l₂) : Paired G l₁ l₂ := Paired.mapP r f
/-- what an object's description leans on: its own object, its own dict, the tuples -/
theorem ObjOk.stay (x : ObjOk P w H h a o) (k : ∀ b u, (b = a ∨ H b = some (.own a)) → h.get? b = some u → h'.get? b = some u)
    (ho : ∀ b, H b = some (.own a) → H' b = some (.own a)) (ht : ∀ b xs, H b = some (.tup xs) → H' b = some (.tup xs)) : ObjOk P w H' h' a o := by
  induction o with
  | lst xs => obtain ⟨z, its, n, r, e⟩ := x; exact ⟨z, its, n, r, k _ _ (.inl rfl) e⟩
  | tup xs => obtain ⟨z, its, r, ob, e, c⟩ := x; exact ⟨z, its, r, ob, k _ _ (.inl rfl) e, c⟩
  | dK kvs => obtain ⟨z, y, vs, r, ob, es, ep, e, c⟩ := x; exact ⟨z, y, vs, r, ob, es, ep, k _ _ (.inl rfl) e, c⟩
  | dT kvs =>
    obtain ⟨z, y, xs, r, ob, es, ep, e, c⟩ := x
    exact ⟨z, y, xs, Paired.mapP r fun p q z => ⟨z.1, ht _ _ z.2.1, z.2.2⟩, ob, es, ep, k _ _ (.inl rfl) e, c⟩
  | set S n => obtain ⟨ob, es, ep, t, e, c⟩ := x; exact ⟨ob, es, ep, t, k _ _ (.inl rfl) e, c⟩
  | ins C dx fs =>
    obtain ⟨d, z, ne, e, mA, ⟨od, es, ep, e2, c⟩, r⟩ := x
    exact ⟨ho _ d, z, ne, k _ _ (.inl rfl) e, mA, ⟨od, es, ep, k _ _ (.inr d) e2, c⟩, r⟩
  | own y => obtain ⟨ob, e⟩ := x; exact ⟨ob, k _ _ (.inl rfl) e⟩
  | xd fs => obtain ⟨mA, ⟨od, es, ep, e, c⟩, r⟩ := x; exact ⟨mA, ⟨od, es, ep, k _ _ (.inl rfl) e, c⟩, r⟩
  | rng lo hi => obtain ⟨t, u, v, e⟩ := x; exact ⟨t, u, v, k _ _ (.inl rfl) e⟩
  | frz ob u ih => obtain ⟨e, q⟩ := x; exact ⟨k _ _ (.inl rfl) e, ih q⟩
  | tbl ps =>
    have e : h.get? a = some { cls := .none, data := .fields ps } := x
    show h'.get? a = some { cls := .none, data := .fields ps }
    exact k a _ (.inl rfl) e
  | met f y =>
    have e : h.get? a = some (PySem.W.methodObj (.ref f) (.ref y)) := x
    show h'.get? a = some (PySem.W.methodObj (.ref f) (.ref y))
    exact k a _ (.inl rfl) e
  | ext φ => obtain ⟨p, ⟨o, e⟩, st⟩ := x; exact ⟨st _ _ p fun o q => k _ _ (.inl rfl) q, ⟨o, k _ _ (.inl rfl) e⟩, st⟩
theorem HOk.lt (x : HOk P w H h) (e : H a = some o) : a < h.objs.size := (x a o e).lt
theorem HOk.fresh (x : HOk P w H h) (e : h.objs.size ≤ a) : H a = none := by
  cases q : H a with
  | none => rfl
  | some u => exact absurd (Nat.lt_of_lt_of_le (x.lt q) e) (Nat.lt_irrefl _)
/-- every object of the heap is kept -/
theorem HOk.kept (x : HOk P w H h) (k : ∀ b u, h.get? b = some u → h'.get? b = some u) : HOk P w H h' := fun a o e =>
  (x a o e).stay (fun b u _ q => k b u q) (fun _ q => q) fun _ _ q => q
/-- a new object is laid and tracked -/
theorem HOk.laid (x : HOk P w H h) (k : ∀ b u, h.get? b = some u → h'.get? b = some u) (hp : h.objs.size ≤ a) (new : ObjOk P w (upd H a o) h' a o) : HOk P w (upd H a o) h' := fun b u e => by
  have hn := x.fresh hp
  by_cases hb : b = a
  · subst hb; rw [upd_same] at e; cases e; exact new
  · rw [upd_ne hb] at e
    exact (x b u e).stay (fun c v _ q => k c v q) (fun c q => by rw [upd_ne (ne_of_none q hn)]; exact q) fun c xs q => by rw [upd_ne (ne_of_none q hn)]; exact q
end

/-- what may be read as u: it is u, or a known u -/
def Rd (H : Hp) (a : Addr) (u : HO) : Prop := H a = some u ∨ ∃ o, H a = some (.frz o u)
theorem Rd.of {H : Hp} {a : Addr} {u : HO} (h : H a = some u) : Rd H a u := .inl h
theorem Rd.ok {P : Program} {w : World} {H : Hp} {h : Heap} {a : Addr} {u : HO} (r : Rd H a u) (x : HOk P w H h) : ObjOk P w H h a u := by
  rcases r with r | ⟨o, r⟩
  · exact x a u r
  · obtain ⟨_, q⟩ := x a _ r
    exact q
/-- what may be written -/
def Mut : Option HO → Prop
  | some (.lst _) => True
  | some (.dK _) => True
  | some (.dT _) => True
  | some (.set _ _) => True
  | some (.ins _ _ _) => True
  | some (.ext _) => True
  | _ => False
section
variable {P : Program} {w : World} {H : Hp} {h h' : Heap} {x e : Addr} {o' : HO}
/-- the object at e is changed: x itself, or the dict of the instance x -/
theorem HOk.write (ok : HOk P w H h) (mu : Mut (H x)) (he : e = x ∨ H e = some (.own x)) (k : ∀ b u, b ≠ e → h.get? b = some u → h'.get? b = some u) (heo : ∃ u, h'.get? e = some u)
    (new : ObjOk P w (upd H x o') h' x o') : HOk P w (upd H x o') h' := fun b u q => by
  have nown : ∀ c y, H c = some (.own y) → c ≠ x := fun c y r z => by subst z; rw [r] at mu; exact mu
  have ntup : ∀ c xs, H c = some (.tup xs) → c ≠ x := fun c xs r z => by subst z; rw [r] at mu; exact mu
  by_cases hb : b = x
  · subst hb; rw [upd_same] at q; cases q; exact new
  · rw [upd_ne hb] at q
    by_cases hbe : b = e
    · have q' : H b = some (.own x) := by
        rcases he with z | z
        · exact absurd (hbe.trans z) hb
        · rw [hbe]; exact z
      rw [q] at q'; cases q'
      obtain ⟨v, hv⟩ := heo
      exact ⟨v, by rw [hbe]; exact hv⟩
    · refine (ok b u q).stay (fun c v hc r => k c v ?_ r) (fun c r => by rw [upd_ne (nown c b r)]; exact r) fun c xs r => by rw [upd_ne (ntup c xs r)]; exact r
      rcases hc with rfl | hc
      · exact hbe
      · rintro rfl
        rcases he with z | z
        · exact nown c b hc z
        · rw [hc] at z; cases z; exact hb rfl
end

/-! ### kept unless tracked; of the frames at fs (the callers') the slots may change (an exception that passes writes there); of the records at ex (iterators) nothing is said -/
structure Un (fs ex : List Addr) (H H' : Hp) (h h' : Heap) : Prop where
  keep : ∀ b o, h.get? b = some o → H b = none → b ∉ fs → b ∉ ex → h'.get? b = some o
  slot : ∀ b o, h.get? b = some o → H b = none → b ∈ fs → b ∉ ex → ∃ sl, h'.get? b = some { o with slots := sl }
  free : ∀ b o, h.get? b = some o → H b = none → b ∉ ex → H' b = none
  there : ∀ b o, h.get? b = some o → b ∉ ex → ∃ o', h'.get? b = some o'
  tups : ∀ b xs, H b = some (.tup xs) → H' b = some (.tup xs)
  frzs : ∀ b o u, H b = some (.frz o u) → H' b = some (.frz o u)
  tbls : ∀ b ps, H b = some (.tbl ps) → ∃ more, H' b = some (.tbl (ps ++ more))
section
variable {fs fs' ex ex' : List Addr} {H H1 H2 : Hp} {h h1 h2 h' : Heap} {a x e : Addr} {o : HO}
theorem Un.any (u : Un fs ex H H1 h h1) {b : Addr} {ob : Obj} (q : h.get? b = some ob) (n : H b = none) (hx : b ∉ ex) : ∃ sl, h1.get? b = some { ob with slots := sl } := by
  by_cases hb : b ∈ fs
  · exact u.slot b ob q n hb hx
  · exact ⟨ob.slots, u.keep b ob q n hb hx⟩
theorem Un.trans (a : Un fs ex H H1 h h1) (b : Un fs ex H1 H2 h1 h2) : Un fs ex H H2 h h2 where
  keep := fun c ob q n hc hx => b.keep c ob (a.keep c ob q n hc hx) (a.free c ob q n hx) hc hx
  slot := fun c ob q n hc hx => by
    obtain ⟨sl, e1⟩ := a.slot c ob q n hc hx
    obtain ⟨sl', e2⟩ := b.slot c _ e1 (a.free c ob q n hx) hc hx
    exact ⟨sl', e2⟩
  free := fun c ob q n hx => by
    obtain ⟨o', e1⟩ := a.there c ob q hx
    exact b.free c o' e1 (a.free c ob q n hx) hx
  there := fun c ob q hx => by
    obtain ⟨o', e1⟩ := a.there c ob q hx
    exact b.there c o' e1 hx
  tups := fun c xs q => b.tups c xs (a.tups c xs q)
  frzs := fun c ob xs q => b.frzs c ob xs (a.frzs c ob xs q)
  tbls := fun c ps q => by
    obtain ⟨m1, e1⟩ := a.tbls c ps q
    obtain ⟨m2, e2⟩ := b.tbls c _ e1
    exact ⟨m1 ++ m2, by rw [e2, Array.append_assoc]⟩
theorem Un.kept (k : ∀ b u, h.get? b = some u → h'.get? b = some u) : Un fs ex H H h h' :=
  ⟨fun b ob q _ _ _ => k b ob q, fun b ob q _ _ _ => ⟨ob.slots, k b ob q⟩, fun _ _ _ n _ => n, fun b ob q _ => ⟨ob, k b ob q⟩, fun _ _ q => q, fun _ _ _ q => q, fun _ ps q => ⟨#[], by rw [q]; simp⟩⟩
theorem Un.refl : Un fs ex H H h h := Un.kept fun _ _ q => q
theorem Un.laid (k : ∀ b u, h.get? b = some u → h'.get? b = some u) (hp : h.objs.size ≤ a) (hn : H a = none) : Un fs ex H (upd H a o) h h' where
  keep := fun b u q _ _ _ => k b u q
  slot := fun b u q _ _ _ => ⟨u.slots, k b u q⟩
  free := fun b u q n _ => by rw [upd_ne (Nat.ne_of_lt (Nat.lt_of_lt_of_le (Heap.lt_size q) hp))]; exact n
  there := fun b u q _ => ⟨u, k b u q⟩
  tups := fun b xs q => by rw [upd_ne (ne_of_none q hn)]; exact q
  frzs := fun b u xs q => by rw [upd_ne (ne_of_none q hn)]; exact q
  tbls := fun b ps q => ⟨#[], by rw [upd_ne (ne_of_none q hn), q]; simp⟩
theorem Un.write (mu : Mut (H x)) (he : e = x ∨ H e = some (.own x)) (k : ∀ b u, b ≠ e → h.get? b = some u → h'.get? b = some u) (heo : ∃ u, h'.get? e = some u) : Un fs ex H (upd H x o) h h' := by
  have hx : ∀ b, H b = none → b ≠ x := fun b n z => by subst z; rw [n] at mu; exact mu
  have hb : ∀ b, H b = none → b ≠ e := fun b n z => by
    subst z
    rcases he with r | r
    · exact hx b n r
    · rw [n] at r; cases r
  have hm : ∀ b u, H b = some u → ¬ Mut (some u) → b ≠ x := fun b u q nm z => by subst z; rw [q] at mu; exact nm mu
  refine ⟨fun b u q n _ _ => k b u (hb b n) q, fun b u q n _ _ => ⟨u.slots, k b u (hb b n) q⟩, fun b u q n _ => by rw [upd_ne (hx b n)]; exact n, fun b u q _ => ?_,
    fun b xs q => by rw [upd_ne (hm b _ q fun z => z)]; exact q, fun b u xs q => by rw [upd_ne (hm b _ q fun z => z)]; exact q, fun b ps q => ⟨#[], by rw [upd_ne (hm b _ q fun z => z), q]; simp⟩⟩
  by_cases hbe : b = e
  · subst hbe; exact heo
  · exact ⟨u, k b u hbe q⟩
theorem Un.mono (u : Un fs ex H H1 h h1) (hs : ∀ b ∈ fs, b ∈ fs') (hx : ∀ b ∈ ex, b ∈ ex') : Un fs' ex' H H1 h h1 :=
  ⟨fun b ob q n hb he => u.keep b ob q n (fun z => hb (hs b z)) fun z => he (hx b z), fun _ _ q n _ he => u.any q n fun z => he (hx _ z), fun b ob q n he => u.free b ob q n fun z => he (hx b z), fun b ob q he => u.there b ob q fun z => he (hx b z), u.tups, u.frzs, u.tbls⟩
end

/-! ### the heap without what is tracked -/
def trk (h : Heap) (H : Hp) : List Addr := (List.range h.objs.size).filter fun a => (H a).isSome
def hidT (h : Heap) (H : Hp) : Heap := PySem.W.hideAll h (trk h H)
theorem hidT_size (h : Heap) (H : Hp) : (hidT h H).objs.size = h.objs.size := PySem.W.hideAll_size _ _
theorem hidT_get {h : Heap} {H : Hp} {b : Addr} {o : Obj} (e : h.get? b = some o) (n : H b = none) : (hidT h H).get? b = some o :=
  PySem.W.hideAll_get _ e fun hm => by
    have q : (H b).isSome = true := (List.mem_filter.mp hm).2
    rw [n] at q; simp at q
theorem of_hidT {h : Heap} {H : Hp} {b : Addr} {o : Obj} (e : (hidT h H).get? b = some o) : h.get? b = some o ∧ H b = none := by
  have e' : h.get? b = some o := PySem.W.of_hideAll (trk h H) e
  refine ⟨e', ?_⟩
  cases q : H b with
  | none => rfl
  | some x =>
    have hm : b ∈ trk h H := List.mem_filter.mpr ⟨List.mem_range.mpr (Heap.lt_size e'), by simp [q]⟩
    have z : (hidT h H).get? b = none := PySem.W.hideAll_none (trk h H) hm
    rw [z] at e; cases e

/-! ### OpenK's ledger, filled with every new object but one -/
def allNews (g h : Heap) (L : Addr) : List (Addr × Obj) := (List.range h.objs.size).filterMap fun a => if a = L ∨ (g.get? a).isSome = true then none else (h.get? a).map fun o => (a, o)
theorem mem_allNews {g h : Heap} {L a : Addr} {o : Obj} (h1 : a ≠ L) (h2 : g.get? a = none) (h3 : h.get? a = some o) : (a, o) ∈ allNews g h L :=
  List.mem_filterMap.mpr ⟨a, List.mem_range.mpr (Heap.lt_size h3), by simp [h1, h2, h3]⟩
theorem of_mem_allNews {g h : Heap} {L : Addr} {p : Addr × Obj} (hp : p ∈ allNews g h L) : p.1 ≠ L ∧ g.get? p.1 = none ∧ h.get? p.1 = some p.2 := by
  obtain ⟨b, _, e⟩ := List.mem_filterMap.mp hp
  split at e
  · cases e
  · rename_i hn
    cases q : h.get? b with
    | none => rw [q] at e; simp at e
    | some u =>
      rw [q] at e
      simp only [Option.map_some, Option.some.injEq] at e
      subst e
      refine ⟨fun z => hn (.inl z), ?_, q⟩
      show g.get? b = none
      cases r : g.get? b with
      | none => rfl
      | some v => exact (hn (.inr (by simp [r]))).elim
def rest (g h : Heap) (L d : Addr) : List (Addr × Obj) := (allNews g h L).filter fun p => decide (p.1 ≠ d)
theorem rest_ne {g h : Heap} {L d : Addr} : ∀ p ∈ rest g h L d, p.1 ≠ d := fun p hp => of_decide_eq_true (List.mem_filter.mp hp).2
theorem mem_rest {g h : Heap} {L d a : Addr} {o : Obj} (h1 : a ≠ L) (h2 : g.get? a = none) (h3 : h.get? a = some o) (h4 : a ≠ d) : (a, o) ∈ rest g h L d :=
  List.mem_filter.mpr ⟨mem_allNews h1 h2 h3, decide_eq_true h4⟩
theorem news_all {g h : Heap} {L : Addr} : News g L h (allNews g h L) := fun p hp => let ⟨a, b, c⟩ := of_mem_allNews hp; ⟨c, a, b⟩
theorem news_at {g h : Heap} {L d : Addr} {o : Obj} (h1 : d ≠ L) (h2 : g.get? d = none) (h3 : h.get? d = some o) : News g L h ((d, o) :: rest g h L d) := fun p hp => by
  rcases List.mem_cons.mp hp with rfl | hp
  · exact ⟨h3, h1, h2⟩
  · exact news_all p (List.mem_filter.mp hp).1
/-- behind a rule that changed d alone: all else but the frame is kept -/
theorem kept_of_news {g h h' : Heap} {L d : Addr} {m : Str → Option Value} (k : ∀ b o, g.get? b = some o → h.get? b = some o) (F : Fr g L h' m) (N : News g L h' (rest g h L d)) :
    ∀ b o, b ≠ L → b ≠ d → h.get? b = some o → h'.get? b = some o := fun b o h1 h2 e => by
  cases q : g.get? b with
  | some u =>
    have := k b u q
    rw [e] at this; cases this
    exact F.keep b _ q
  | none => exact (N (b, o) (mem_rest h1 q e h2)).1
end L2

namespace L2
open PySem PySem.Spec PyProof.Rows

/-- the module's facts, over the base: the heap at the law's entry without what is tracked there -/
structure Mod (K : PySem.W.Frag) (mg : Str → Option Value) (base : Heap) : Prop where
  kin : K.In base
  glob : base.Ns mainGlobals mg
  blt : ∃ mb, base.Ns builtinsNs mb ∧ ∀ x : Str, x ≠ "__name__" → mb x = bootBuiltins x
  nolimit : base.NoLimit

/-- the context: a def's body (or a comprehension's block) running. base: fixed through the whole law; s₀, H₀: the entry; outer: the frames whose slots others may change (a def's callers); stack: all frames that run;
   ex: iterators that were made ahead of the entry and are walked here (a comprehension's); fn: the names whose cells were made at the entry (a def: all; a comprehension's block: its own); calm: not within an except suite; pn: pins that every state bears; xe: what is wanted of an exception that leaves the code -/
structure Cx where
  prog : Program
  w : World
  K : PySem.W.Frag
  mg : Str → Option Value
  base : Heap
  A : Around
  N : List Str
  s₀ : Shared
  H₀ : Hp
  env : Env
  outer : List Env
  stack : List Env
  ex : List Addr
  fn : Str → Bool
  calm : Bool
  pn : List (Addr × Obj)
  xe : Value → Shared → Prop
/-- the callers' frames -/
def frs (l : List Env) : List Addr := l.filterMap (·.frame)
abbrev Cx.fs (X : Cx) : List Addr := frs X.outer

def Vis (sc : Scope) (x : Str) : Prop := sc.names.lookup x = some .local ∨ sc.names.lookup x = some .cell ∨ sc.names.lookup x = some .free
def Loc (sc : Scope) (x : Str) : Prop := sc.names.lookup x = some .local ∨ sc.names.lookup x = some .cell
def Look (env : Env) (h : Heap) (m : Str → Option Value) (x : Str) (u : Value) : Prop :=
  (env.kindOf x = some .local ∧ m x = some u) ∨ ((env.kindOf x = some .cell ∨ env.kindOf x = some .free) ∧ ∃ c, env.cells.lookup x = some c ∧ h.IsCell c (some u))

structure Cx.Ok (X : Cx) : Prop where
  mod : Mod X.K X.mg X.base
  kind : X.env.scope.kind = .function
  glob : X.env.globals = mainGlobals
  blt : X.env.builtins = builtinsNs
  above : X.s₀.heap.objs.size ≤ X.env.locals
  inj : ∀ x y c, X.env.cells.lookup x = some c → X.env.cells.lookup y = some c → x = y
  has : ∀ x, (X.env.kindOf x = some .cell ∨ X.env.kindOf x = some .free) → ∃ c, X.env.cells.lookup x = some c
  cab : ∀ x c, X.fn x = true → X.env.cells.lookup x = some c → X.s₀.heap.objs.size ≤ c
  hd : X.calm = true → X.A.handled = none
  frames : X.A.frames = some X.stack
  stk : X.stack = X.outer ∨ (X.stack = X.env :: X.outer ∧ X.env.frame = some X.env.locals)
  exf : ∀ b ∈ X.ex, b ≠ X.env.locals ∧ ∀ x c, X.env.cells.lookup x = some c → c ≠ b
  bs : ∀ b o, X.base.get? b = some o → X.s₀.heap.get? b = some o ∧ X.H₀ b = none
  bsz : X.base.objs.size ≤ X.s₀.heap.objs.size
  noex : ∀ b o, X.base.get? b = some o → b ∉ X.ex
  exfs : ∀ b ∈ X.ex, b ∉ X.fs
  funs : X.s₀.heap.FunFrames X.base X.outer
  frf : ∀ b ∈ X.fs, X.H₀ b = none

structure Inv (X : Cx) (pins : List (Addr × Obj)) (σ : List (Option V)) (H : Hp) (s : Shared) : Prop where
  ok : X.Ok
  os : s.os = X.s₀.os
  bare : AllBare s.gens
  base : Un X.fs X.ex X.H₀ H X.s₀.heap s.heap
  loc : ∃ m, s.heap.Ns X.env.locals m ∧ ∀ (i : Nat) (x : Str) (v : V), X.N[i]? = some x → σ[i]? = some (some v) → Vis X.env.scope x → ∃ u, RelV v u ∧ Look X.env s.heap m x u
  cell : ∀ x c, X.env.cells.lookup x = some c → ∃ v, s.heap.IsCell c v
  free : H X.env.locals = none
  freeC : ∀ x c, X.env.cells.lookup x = some c → H c = none
  pin : ∀ p ∈ X.pn ++ pins, s.heap.get? p.1 = some p.2 ∧ H p.1 = none ∧ p.1 ≠ X.env.locals ∧ p.1 ∉ X.fs ∧ ∀ v, p.2.data ≠ .cell v
  hok : HOk X.prog X.w H s.heap
  len : σ.length = X.N.length

section
variable {X : Cx} {pins : List (Addr × Obj)} {σ : List (Option V)} {H H' : Hp} {s : Shared} {h' : Heap}

theorem Cx.Ok.nofr (ok : X.Ok) {b : Addr} {o : Obj} (e : X.base.get? b = some o) : b ∉ X.fs := fun hb => by
  have := (ok.funs.mem hb).1
  rw [e] at this; cases this
theorem Inv.bs (I : Inv X pins σ H s) : ∀ b o, X.base.get? b = some o → s.heap.get? b = some o ∧ H b = none := fun b o e =>
  ⟨I.base.keep b o (I.ok.bs b o e).1 (I.ok.bs b o e).2 (I.ok.nofr e) (I.ok.noex b o e), I.base.free b o (I.ok.bs b o e).1 (I.ok.bs b o e).2 (I.ok.noex b o e)⟩
theorem Inv.bk (I : Inv X pins σ H s) : ∀ b o, X.base.get? b = some o → s.heap.get? b = some o := fun b o e => (I.bs b o e).1
theorem Inv.mod (I : Inv X pins σ H s) : Mod X.K X.mg X.base := I.ok.mod
theorem Inv.kIn (I : Inv X pins σ H s) : X.K.In s.heap := I.ok.mod.kin.keeps I.bk
theorem Inv.nolimit (I : Inv X pins σ H s) : s.heap.NoLimit := I.ok.mod.nolimit.keeps I.bk
/-- the frame over the base: for OpenK's rules (K.In X.base is I.mod.kin) -/
theorem Inv.fr (I : Inv X pins σ H s) : ∃ m, Fr X.base X.env.locals s.heap m :=
  let ⟨m, hn, _⟩ := I.loc
  ⟨m, hn, I.bk, Nat.le_trans I.ok.bsz I.ok.above⟩
theorem Inv.lt (I : Inv X pins σ H s) : X.env.locals < s.heap.objs.size := let ⟨_, hn, _⟩ := I.loc; hn.lt
theorem Inv.sz (I : Inv X pins σ H s) : X.s₀.heap.objs.size ≤ s.heap.objs.size := Nat.le_trans I.ok.above (Nat.le_of_lt I.lt)
theorem Inv.nofs (I : Inv X pins σ H s) {a : Addr} (h : s.heap.objs.size ≤ a) : a ∉ X.fs := fun hb => by
  obtain ⟨_, o, ho, _⟩ := I.ok.funs.mem hb
  exact absurd (Nat.lt_of_lt_of_le (Heap.lt_size ho) (Nat.le_trans I.sz h)) (Nat.lt_irrefl _)
theorem Inv.cne (I : Inv X pins σ H s) : ∀ x c, X.env.cells.lookup x = some c → c ≠ X.env.locals := fun x c e z => by
  obtain ⟨v, o, ho, hd⟩ := I.cell x c e
  obtain ⟨m, ⟨o', es, ep, ho', hd', _⟩, _⟩ := I.loc
  rw [z, ho'] at ho; cases ho; rw [hd'] at hd; cases hd
theorem Inv.funs (I : Inv X pins σ H s) : s.heap.FunFrames X.base X.outer := by
  have all : ∀ (l : List Env), (∀ b ∈ frs l, b ∈ X.fs) → X.s₀.heap.FunFrames X.base l → s.heap.FunFrames X.base l := by
    intro l
    induction l with
    | nil => intro _ _; trivial
    | cons env r ih =>
      intro hs hl
      obtain ⟨hk, ⟨L, o, hf, hn, ho, hd⟩, hr⟩ := hl
      have hL : L ∈ X.fs := hs L (by unfold frs; rw [List.filterMap_cons, hf]; exact List.mem_cons_self)
      obtain ⟨sl, e⟩ := I.base.slot L o ho (I.ok.frf L hL) hL fun z => I.ok.exfs L z hL
      exact ⟨hk, ⟨L, _, hf, hn, e, hd⟩, ih (fun b hb => hs b (by unfold frs; rw [List.filterMap_cons, hf]; exact List.mem_cons_of_mem _ hb)) hr⟩
  exact all X.outer (fun _ hb => hb) I.ok.funs

/-- the frames that run, for a call -/
theorem Inv.stack (I : Inv X pins σ H s) : s.heap.FunFrames X.base X.stack := by
  rcases I.ok.stk with e | ⟨e, hf⟩
  · rw [e]; exact I.funs
  · rw [e]
    obtain ⟨m, hn, _⟩ := I.loc
    refine .cons (by rw [I.ok.kind]; decide) hf hn ?_ I.funs
    exact Heap.get?_none_of_le (Nat.le_trans I.ok.bsz I.ok.above)
theorem Inv.stkSub (I : Inv X pins σ H s) : ∀ b ∈ frs X.stack, b ∈ X.env.locals :: X.fs := fun b hb => by
  rcases I.ok.stk with e | ⟨e, hf⟩
  · rw [e] at hb; exact List.mem_cons_of_mem _ hb
  · rw [e] at hb
    unfold frs at hb
    rw [List.filterMap_cons, hf] at hb
    exact hb
theorem Inv.stkFree (I : Inv X pins σ H s) : ∀ b ∈ frs X.stack, H b = none := fun b hb => by
  rcases List.mem_cons.mp (I.stkSub b hb) with e | hb
  · rw [e]; exact I.free
  · obtain ⟨_, o, ho, _⟩ := I.ok.funs.mem hb
    exact I.base.free b o ho (I.ok.frf b hb) fun z => I.ok.exfs b z hb

/-- THE STEP: the untracked objects but the frame and the records at ch are kept (the callers' frames up to slots), the frame's map is kept, the new abstract heap is held -/
theorem Inv.step {g' : Array GenState} {t' : Nat} {d' : Drawn} {ch : List Addr} (I : Inv X pins σ H s)
    (hch : ∀ b ∈ ch, (b ∈ X.ex ∨ X.s₀.heap.objs.size ≤ b) ∧ b ≠ X.env.locals ∧ (∀ x c, X.env.cells.lookup x = some c → c ≠ b) ∧ ∀ p ∈ X.pn ++ pins, p.1 ≠ b)
    (keep : ∀ b o, b ≠ X.env.locals → b ∉ X.fs → b ∉ ch → s.heap.get? b = some o → H b = none → h'.get? b = some o)
    (slot : ∀ b o, b ≠ X.env.locals → b ∈ X.fs → b ∉ ch → s.heap.get? b = some o → H b = none → ∃ sl, h'.get? b = some { o with slots := sl }) (free : ∀ b o, b ∉ ch → s.heap.get? b = some o → H b = none → H' b = none)
    (there : ∀ b o, b ∉ ch → s.heap.get? b = some o → ∃ o', h'.get? b = some o')
    (tups : ∀ b xs, H b = some (.tup xs) → H' b = some (.tup xs)) (frzs : ∀ b o u, H b = some (.frz o u) → H' b = some (.frz o u)) (tbls : ∀ b ps, H b = some (.tbl ps) → ∃ more, H' b = some (.tbl (ps ++ more)))
    (ns : ∀ m, s.heap.Ns X.env.locals m → h'.Ns X.env.locals m) (hok : HOk X.prog X.w H' h') (hg : AllBare g') :
    Inv X pins σ H' { s with heap := h', gens := g', drawn := d', toks := t' } := by
  have neL : ∀ b o, X.s₀.heap.get? b = some o → b ≠ X.env.locals := fun b o e => Nat.ne_of_lt (Nat.lt_of_lt_of_le (Heap.lt_size e) I.ok.above)
  have neC : ∀ b o, X.s₀.heap.get? b = some o → b ∉ X.ex → b ∉ ch := fun b o e hx hb => by
    rcases (hch b hb).1 with z | z
    · exact hx z
    · exact absurd (Nat.lt_of_lt_of_le (Heap.lt_size e) z) (Nat.lt_irrefl _)
  have cellK : ∀ x c, X.env.cells.lookup x = some c → ∀ v, s.heap.IsCell c v → h'.IsCell c v := fun x c e v ⟨o, ho, hd⟩ => by
    have nch : c ∉ ch := fun z => (hch c z).2.2.1 x c e rfl
    by_cases hc : c ∈ X.fs
    · obtain ⟨sl, q⟩ := slot c o (I.cne x c e) hc nch ho (I.freeC x c e)
      exact ⟨_, q, hd⟩
    · exact ⟨o, keep c o (I.cne x c e) hc nch ho (I.freeC x c e), hd⟩
  refine ⟨I.ok, I.os, hg, ⟨fun b o e n hb hx => ?_, fun b o e n hb hx => ?_, fun b o e n hx => ?_, fun b o e hx => ?_, fun b xs e => tups b xs (I.base.tups b xs e), fun b o xs e => frzs b o xs (I.base.frzs b o xs e), fun b ps e => ?_⟩, ?_, fun x c e => ?_, ?_, fun x c e => ?_, fun p hp => ?_, hok, I.len⟩
  · exact keep b o (neL b o e) hb (neC b o e hx) (I.base.keep b o e n hb hx) (I.base.free b o e n hx)
  · obtain ⟨sl, e1⟩ := I.base.slot b o e n hb hx
    obtain ⟨sl', e2⟩ := slot b _ (neL b o e) hb (neC b o e hx) e1 (I.base.free b o e n hx)
    exact ⟨sl', e2⟩
  · obtain ⟨o', e1⟩ := I.base.there b o e hx
    exact free b o' (neC b o e hx) e1 (I.base.free b o e n hx)
  · obtain ⟨o', e1⟩ := I.base.there b o e hx
    exact there b o' (neC b o e hx) e1
  · obtain ⟨m1, e1⟩ := I.base.tbls b ps e
    obtain ⟨m2, e2⟩ := tbls b _ e1
    exact ⟨m1 ++ m2, by rw [e2, Array.append_assoc]⟩
  · obtain ⟨m, hn, hl⟩ := I.loc
    refine ⟨m, ns m hn, fun i x v e1 e2 e3 => ?_⟩
    obtain ⟨u, r, l⟩ := hl i x v e1 e2 e3
    refine ⟨u, r, ?_⟩
    rcases l with l | ⟨k, c, e, z⟩
    · exact .inl l
    · exact .inr ⟨k, c, e, cellK x c e _ z⟩
  · obtain ⟨v, z⟩ := I.cell x c e
    exact ⟨v, cellK x c e v z⟩
  · obtain ⟨m, ⟨o, _, _, ho, _⟩, _⟩ := I.loc
    exact free _ o (fun z => (hch _ z).2.1 rfl) ho I.free
  · obtain ⟨v, o, ho, hd⟩ := I.cell x c e
    exact free c o (fun z => (hch c z).2.2.1 x c e rfl) ho (I.freeC x c e)
  · obtain ⟨e, n, ne, nf, d⟩ := I.pin p hp
    have nch : p.1 ∉ ch := fun z => (hch p.1 z).2.2.2 p hp rfl
    exact ⟨keep p.1 p.2 ne nf nch e n, free p.1 p.2 nch e n, ne, nf, d⟩
/-- .. where the frame's own object is kept too -/
theorem Inv.un {t' : Nat} (I : Inv X pins σ H s) (u : Un X.fs [] H H' s.heap h') (hok : HOk X.prog X.w H' h') : Inv X pins σ H' { s with heap := h', toks := t' } := by
  obtain ⟨m, ⟨o, es, ep, ho, r⟩, _⟩ := id I.loc
  obtain ⟨sl, hL⟩ := u.any ho I.free (by simp)
  exact I.step (g' := s.gens) (d' := s.drawn) (ch := []) (fun _ z => nomatch z) (fun b o _ hb _ e n => u.keep b o e n hb (by simp)) (fun b o _ hb _ e n => u.slot b o e n hb (by simp)) (fun b o _ e n => u.free b o e n (by simp)) (fun b o _ e => u.there b o e (by simp)) u.tups u.frzs u.tbls (fun m' hm => by
    obtain ⟨o', es', ep', ho', r'⟩ := hm
    rw [ho] at ho'; cases ho'
    exact ⟨_, es', ep', hL, r'⟩) hok I.bare
/-- behind a call (or a comprehension's block): the slots of this frame may have changed too, the records at ch may have turned -/
theorem Inv.call {g' : Array GenState} {t' : Nat} {d' : Drawn} {ch : List Addr} (I : Inv X pins σ H s) (u : Un (frs X.stack) ch H H' s.heap h') (hok : HOk X.prog X.w H' h') (hg : AllBare g')
    (hch : ∀ b ∈ ch, (b ∈ X.ex ∨ X.s₀.heap.objs.size ≤ b) ∧ b ≠ X.env.locals ∧ (∀ x c, X.env.cells.lookup x = some c → c ≠ b) ∧ ∀ p ∈ X.pn ++ pins, p.1 ≠ b) :
    Inv X pins σ H' { s with heap := h', gens := g', drawn := d', toks := t' } := by
  obtain ⟨m, ⟨o, es, ep, ho, r⟩, _⟩ := id I.loc
  obtain ⟨sl, hL⟩ := u.any ho I.free fun z => (hch _ z).2.1 rfl
  exact I.step (ch := ch) hch (fun b o hL hb hc e n => u.keep b o e n (fun z => (List.mem_cons.mp (I.stkSub b z)).elim hL hb) hc) (fun b o _ _ hc e n => u.any e n hc) (fun b o hc e n => u.free b o e n hc) (fun b o hc e => u.there b o e hc) u.tups u.frzs u.tbls (fun m' hm => by
    obtain ⟨o', es', ep', ho', r'⟩ := hm
    rw [ho] at ho'; cases ho'
    exact ⟨_, es', ep', hL, r'⟩) hok hg
/-- an untracked record of ours (an iterator) has turned -/
theorem Inv.turned {t' : Nat} {it : Addr} (I : Inv X pins σ H s) (k : ∀ b o, b ≠ it → s.heap.get? b = some o → h'.get? b = some o) (hn : H it = none) (hL : it ≠ X.env.locals)
    (h1 : it ∈ X.ex ∨ X.s₀.heap.objs.size ≤ it) (h2 : ∀ x c, X.env.cells.lookup x = some c → c ≠ it) (h3 : ∀ p ∈ X.pn ++ pins, p.1 ≠ it) : Inv X pins σ H { s with heap := h', toks := t' } := by
  have nit : ∀ b u, H b = some u → b ≠ it := fun b u e z => by rw [z, hn] at e; cases e
  refine I.step (g' := s.gens) (d' := s.drawn) (ch := [it]) (fun b hb => ?_) (fun b o _ _ hc e _ => k b o (fun z => hc (by simp [z])) e) (fun b o _ _ hc e _ => ⟨o.slots, k b o (fun z => hc (by simp [z])) e⟩) (fun _ _ _ _ n => n)
    (fun b o hc e => ⟨o, k b o (fun z => hc (by simp [z])) e⟩) (fun _ _ e => e) (fun _ _ _ e => e) (fun b ps e => ⟨#[], by rw [e]; simp⟩) (fun m hm => ?_) (fun b u e => ?_) I.bare
  · have e : b = it := by simpa using hb
    subst e
    exact ⟨h1, hL, h2, h3⟩
  · obtain ⟨o, es, ep, ho, r⟩ := hm
    exact ⟨o, es, ep, k _ o (Ne.symm hL) ho, r⟩
  · refine (I.hok b u e).stay (fun c v hc q => k c v ?_ q) (fun _ q => q) fun _ _ q => q
    rcases hc with z | z
    · rw [z]; exact nit b u e
    · exact nit c _ z
theorem Inv.tok (I : Inv X pins σ H s) (t : Nat) : Inv X pins σ H { s with toks := t } := I.un (h' := s.heap) (t' := t) Un.refl I.hok
/-- all objects kept -/
theorem Inv.kept {t' : Nat} (I : Inv X pins σ H s) (k : ∀ b u, s.heap.get? b = some u → h'.get? b = some u) : Inv X pins σ H { s with heap := h', toks := t' } := I.un (Un.kept k) (I.hok.kept k)
/-- a new object laid and tracked -/
theorem Inv.laid {a : Addr} {o : HO} {t' : Nat} (I : Inv X pins σ H s) (k : ∀ b u, s.heap.get? b = some u → h'.get? b = some u) (hp : s.heap.objs.size ≤ a) (new : ObjOk X.prog X.w (upd H a o) h' a o) :
    Inv X pins σ (upd H a o) { s with heap := h', toks := t' } := I.un (Un.laid k hp (I.hok.fresh hp)) (I.hok.laid k hp new)
/-- an object written -/
theorem Inv.write {x e : Addr} {o : HO} {t' : Nat} (I : Inv X pins σ H s) (mu : Mut (H x)) (he : e = x ∨ H e = some (.own x)) (k : ∀ b u, b ≠ e → s.heap.get? b = some u → h'.get? b = some u) (heo : ∃ u, h'.get? e = some u)
    (new : ObjOk X.prog X.w (upd H x o) h' x o) : Inv X pins σ (upd H x o) { s with heap := h', toks := t' } := I.un (Un.write mu he k heo) (I.hok.write mu he k heo new)
/-- forgetting slots, pins -/
theorem Inv.weak {σ' : List (Option V)} (I : Inv X pins σ H s) (hl : σ'.length = σ.length) (w : ∀ (i : Nat) v, σ'[i]? = some (some v) → σ[i]? = some (some v)) : Inv X pins σ' H s :=
  ⟨I.ok, I.os, I.bare, I.base, let ⟨m, hn, hl'⟩ := I.loc; ⟨m, hn, fun i x v e1 e2 e3 => hl' i x v e1 (w i v e2) e3⟩, I.cell, I.free, I.freeC, I.pin, I.hok, hl.trans I.len⟩
theorem Inv.pins_of {pins' : List (Addr × Obj)} (I : Inv X pins σ H s) (h : ∀ p ∈ pins', s.heap.get? p.1 = some p.2 ∧ H p.1 = none ∧ p.1 ≠ X.env.locals ∧ p.1 ∉ X.fs ∧ ∀ v, p.2.data ≠ .cell v) : Inv X pins' σ H s :=
  ⟨I.ok, I.os, I.bare, I.base, I.loc, I.cell, I.free, I.freeC, fun p hp => (List.mem_append.mp hp).elim (fun z => I.pin p (List.mem_append_left _ z)) (h p), I.hok, I.len⟩

theorem nodup_ix {N : List Str} (hN : N.Nodup) {i j : Nat} {x : Str} (a : N[i]? = some x) (b : N[j]? = some x) : i = j := by
  obtain ⟨h1, e1⟩ := List.getElem?_eq_some_iff.mp a
  obtain ⟨h2, e2⟩ := List.getElem?_eq_some_iff.mp b
  exact (List.getElem_inj hN).mp (e1.trans e2.symm)

/-- a name is stored; what changed -/
theorem store_ok2 {M : Model} {A : Around} {E : Value → Shared → Prop} {i : Nat} {x : Str} {v : V} {u : Value} {Q : Unit → Shared → Prop} (I : Inv X pins σ H s) (hN : X.N.Nodup) (hi : X.N[i]? = some x) (hx : Loc X.env.scope x) (r : RelV v u)
    (h : ∀ s', Inv X pins (σ.set i (some v)) H s' → (∃ a, Heap.SameBut a s.heap s'.heap ∧ (a = X.env.locals ∨ X.env.cells.lookup x = some a)) → Q () s') (hf : X.fn x = true ∨ X.env.scope.names.lookup x = some .local := by first | exact .inl rfl | exact .inr rfl | assumption) : wpAny M A (storeName X.env x u) Q E s := by
  obtain ⟨m, hn, hl⟩ := id I.loc
  have hcls : (X.env.scope.kind == .class || (X.env.scope.kind == .module && X.env.locals != X.env.globals)) = false := by rw [I.ok.kind]; rfl
  have hiσ : i < σ.length := by rw [I.len]; exact (List.getElem?_eq_some_iff.mp hi).1
  have cne := I.cne
  have tracked : ∀ {a : Addr} {h' : Heap}, (∃ o, s.heap.get? a = some o ∧ H a = none) → Heap.SameBut a s.heap h' → HOk X.prog X.w H h' := fun {a h'} ha hs b ob e => by
    obtain ⟨_, _, hfree⟩ := ha
    refine (I.hok b ob e).stay (fun c w' hc q => (hs.2 c ?_).trans q) (fun _ q => q) fun _ _ q => q
    rintro rfl
    rcases hc with rfl | hc
    · rw [hfree] at e; cases e
    · rw [hfree] at hc; cases hc
  rcases hx with hk | hk
  · refine wpAny_storeName_local hk hn (fun h' hn' hs => ?_) hcls
    obtain ⟨oL, _, _, hoL, _⟩ := id hn
    refine h _ ⟨I.ok, I.os, I.bare, ⟨fun b o e n hb hx => ?_, fun b o e n hb hx => ?_, I.base.free, fun b o e hx => ?_, I.base.tups, I.base.frzs, I.base.tbls⟩, ⟨_, hn', fun j y v' e1 e2 e3 => ?_⟩, fun y c e => ?_, I.free, I.freeC, fun p hp => ?_, tracked ⟨oL, hoL, I.free⟩ hs, by simpa using I.len⟩ ⟨_, hs, .inl rfl⟩
    · exact (hs.2 b (Nat.ne_of_lt (Nat.lt_of_lt_of_le (Heap.lt_size e) I.ok.above))).trans (I.base.keep b o e n hb hx)
    · obtain ⟨sl, e1⟩ := I.base.slot b o e n hb hx
      exact ⟨sl, (hs.2 b (Nat.ne_of_lt (Nat.lt_of_lt_of_le (Heap.lt_size e) I.ok.above))).trans e1⟩
    · obtain ⟨o', e1⟩ := I.base.there b o e hx
      exact ⟨o', (hs.2 b (Nat.ne_of_lt (Nat.lt_of_lt_of_le (Heap.lt_size e) I.ok.above))).trans e1⟩
    · by_cases hj : j = i
      · subst hj
        rw [hi] at e1; cases e1
        rw [List.getElem?_set_self hiσ] at e2
        cases e2
        exact ⟨u, r, .inl ⟨hk, by simp⟩⟩
      · rw [List.getElem?_set_ne (Ne.symm hj)] at e2
        obtain ⟨u', r', q⟩ := hl j y v' e1 e2 e3
        refine ⟨u', r', ?_⟩
        rcases q with ⟨k, e⟩ | ⟨k, c, e, z⟩
        · refine .inl ⟨k, ?_⟩
          have : y ≠ x := fun e => hj (nodup_ix hN e1 (e ▸ hi))
          simp [this, e]
        · exact .inr ⟨k, c, e, z.sameBut hs (cne y c e)⟩
    · obtain ⟨w', z⟩ := I.cell y c e
      exact ⟨w', z.sameBut hs (cne y c e)⟩
    · obtain ⟨e, n, ne, nf, d⟩ := I.pin p hp
      exact ⟨(hs.2 p.1 ne).trans e, n, ne, nf, d⟩
  · have hfn : X.fn x = true := by
      rcases hf with z | z
      · exact z
      · rw [z] at hk; cases hk
    obtain ⟨c, hc⟩ := I.ok.has x (.inl hk)
    obtain ⟨w', z⟩ := I.cell x c hc
    refine wpAny_storeName_cell I.ok.kind hk hc z (fun h' hc' hs => ?_)
    obtain ⟨oc, hoc, hocd⟩ := id z
    refine h { s with heap := h' } ⟨I.ok, I.os, I.bare, ⟨fun b o e n hb hx => ?_, fun b o e n hb hx => ?_, I.base.free, fun b o e hx => ?_, I.base.tups, I.base.frzs, I.base.tbls⟩, ⟨m, hn.sameBut hs (Ne.symm (cne x c hc)), fun j y v' e1 e2 e3 => ?_⟩, fun y c' e => ?_, I.free, I.freeC, fun p hp => ?_, tracked ⟨oc, hoc, I.freeC x c hc⟩ hs, by simpa using I.len⟩ ⟨c, hs, .inr hc⟩
    · exact (hs.2 b (Nat.ne_of_lt (Nat.lt_of_lt_of_le (Heap.lt_size e) (I.ok.cab x c hfn hc)))).trans (I.base.keep b o e n hb hx)
    · obtain ⟨sl, e1⟩ := I.base.slot b o e n hb hx
      exact ⟨sl, (hs.2 b (Nat.ne_of_lt (Nat.lt_of_lt_of_le (Heap.lt_size e) (I.ok.cab x c hfn hc)))).trans e1⟩
    · obtain ⟨o', e1⟩ := I.base.there b o e hx
      exact ⟨o', (hs.2 b (Nat.ne_of_lt (Nat.lt_of_lt_of_le (Heap.lt_size e) (I.ok.cab x c hfn hc)))).trans e1⟩
    · by_cases hj : j = i
      · subst hj
        rw [hi] at e1; cases e1
        rw [List.getElem?_set_self hiσ] at e2
        cases e2
        exact ⟨u, r, .inr ⟨.inl hk, c, hc, hc'⟩⟩
      · rw [List.getElem?_set_ne (Ne.symm hj)] at e2
        obtain ⟨u', r', q⟩ := hl j y v' e1 e2 e3
        refine ⟨u', r', ?_⟩
        rcases q with q | ⟨k, c', e, z'⟩
        · exact .inl q
        · refine .inr ⟨k, c', e, z'.sameBut hs ?_⟩
          rintro rfl
          exact hj (nodup_ix hN e1 (I.ok.inj _ _ _ e hc ▸ hi))
    · by_cases hcc : c' = c
      · subst hcc; exact ⟨_, hc'⟩
      · obtain ⟨w2, z2⟩ := I.cell y c' e
        exact ⟨w2, z2.sameBut hs hcc⟩
    · obtain ⟨e, n, ne, nf, d⟩ := I.pin p hp
      refine ⟨(hs.2 p.1 ?_).trans e, n, ne, nf, d⟩
      intro q
      rw [q, hoc] at e
      have q' : oc = p.2 := Option.some.inj e
      exact d w' (by rw [← q']; exact hocd)
theorem store_ok {M : Model} {A : Around} {E : Value → Shared → Prop} {i : Nat} {x : Str} {v : V} {u : Value} {Q : Unit → Shared → Prop} (I : Inv X pins σ H s) (hN : X.N.Nodup) (hi : X.N[i]? = some x) (hx : Loc X.env.scope x) (r : RelV v u)
    (h : ∀ s', Inv X pins (σ.set i (some v)) H s' → Q () s') (hf : X.fn x = true ∨ X.env.scope.names.lookup x = some .local := by first | exact .inl rfl | exact .inr rfl | assumption) : wpAny M A (storeName X.env x u) Q E s :=
  store_ok2 I hN hi hx r (fun s' I' _ => h s' I') hf
/-- behind a call or a block, the state as it is -/
theorem Inv.call' {s' : Shared} {ch : List Addr} (I : Inv X pins σ H s) (ho : s'.os = s.os) (u : Un (frs X.stack) ch H H' s.heap s'.heap) (hok : HOk X.prog X.w H' s'.heap) (hg : AllBare s'.gens)
    (hch : ∀ b ∈ ch, (b ∈ X.ex ∨ X.s₀.heap.objs.size ≤ b) ∧ b ≠ X.env.locals ∧ (∀ x c, X.env.cells.lookup x = some c → c ≠ b) ∧ ∀ p ∈ X.pn ++ pins, p.1 ≠ b) : Inv X pins σ H' s' := by
  obtain ⟨h', g', d', t', o'⟩ := s'
  have e : o' = s.os := ho
  subst e
  exact I.call (g' := g') (t' := t') (d' := d') u hok hg hch
end

/-! ### the judgements -/
/-- an exception: its class, its own dict's address (where it has one), the abstract heap behind it -/
abbrev XK := Value → Option Addr → Hp → Prop
abbrev St := List (Option V)
abbrev VK := V → Hp → Prop
/-- an expression's reading; a test's; an argument list's -/
abbrev TE := St → Hp → VK → Prop
abbrev TT := St → Hp → (Bool → Hp → Prop) → Prop
abbrev TA := St → Hp → (List V → Hp → Prop) → Prop
/-- what is wanted behind a statement -/
structure Ends where
  nx : St → Hp → Prop
  rt : VK
  bk : St → Hp → Prop := fun _ _ => False
  ct : St → Hp → Prop := fun _ _ => False
abbrev TS := Ends → St → Hp → Prop

def EP (X : Cx) (pins : List (Addr × Obj)) (σ : St) (Q : VK) (u : Value) (s' : Shared) : Prop := ∃ v H', Inv X pins σ H' s' ∧ RelV v u ∧ Q v H'
def TP (X : Cx) (pins : List (Addr × Obj)) (σ : St) (Q : Bool → Hp → Prop) (b : Bool) (s' : Shared) : Prop := ∃ H', Inv X pins σ H' s' ∧ Q b H'
def AP (X : Cx) (pins : List (Addr × Obj)) (σ : St) (Q : List V → Hp → Prop) (us : List Value) (s' : Shared) : Prop := ∃ vs H', Inv X pins σ H' s' ∧ Vals vs us ∧ Q vs H'
def SP (X : Cx) (pins : List (Addr × Obj)) (D : Ends) (f : Flow) (s' : Shared) : Prop :=
  match f with
  | .next => ∃ σ' H', Inv X pins σ' H' s' ∧ D.nx σ' H'
  | .brk => ∃ σ' H', Inv X pins σ' H' s' ∧ D.bk σ' H'
  | .cont => ∃ σ' H', Inv X pins σ' H' s' ∧ D.ct σ' H'
  | .ret u => ∃ v σ' H', Inv X pins σ' H' s' ∧ RelV v u ∧ D.rt v H'

def PE (X : Cx) (e : Expr) (t : TE) : Prop :=
  ∀ (pins : List (Addr × Obj)) (s : Shared) (σ : St) (H : Hp) (Q : VK), Inv X pins σ H s → t σ H Q → wpAny (model X.prog X.w) X.A (eval e X.env) (EP X pins σ Q) X.xe s
def PT (X : Cx) (e : Expr) (t : TT) : Prop :=
  ∀ (pins : List (Addr × Obj)) (s : Shared) (σ : St) (H : Hp) (Q : Bool → Hp → Prop), Inv X pins σ H s → t σ H Q → wpAny (model X.prog X.w) X.A (isTrue e X.env (eval e X.env)) (TP X pins σ Q) X.xe s
/-- a test whatever its 'whole' is (and, or) -/
def PW (X : Cx) (e : Expr) (t : TT) : Prop :=
  ∀ (whole : Sem Value) (pins : List (Addr × Obj)) (s : Shared) (σ : St) (H : Hp) (Q : Bool → Hp → Prop), Inv X pins σ H s → t σ H Q → wpAny (model X.prog X.w) X.A (isTrue e X.env whole) (TP X pins σ Q) X.xe s
theorem PW.pt {X : Cx} {e : Expr} {t : TT} (h : PW X e t) : PT X e t := h _
/-- an argument list (no star), from the left -/
def PA (X : Cx) (es : List Expr) (t : TA) : Prop :=
  ∀ (pos : Pos) (pins : List (Addr × Obj)) (s : Shared) (σ : St) (H : Hp) (Q : List V → Hp → Prop), Inv X pins σ H s → t σ H Q → wpAny (model X.prog X.w) X.A (spliced (backTo pos (starEach es X.env))) (AP X pins σ Q) X.xe s
def PS (X : Cx) (st : Stmt) (t : TS) : Prop :=
  ∀ (pins : List (Addr × Obj)) (s : Shared) (σ : St) (H : Hp) (D : Ends), Inv X pins σ H s → t D σ H → wpAny (model X.prog X.w) X.A (exec st X.env) (SP X pins D) X.xe s
def PSs (X : Cx) (st : List Stmt) (t : TS) : Prop :=
  ∀ (pins : List (Addr × Obj)) (s : Shared) (σ : St) (H : Hp) (D : Ends), Inv X pins σ H s → t D σ H → wpAny (model X.prog X.w) X.A (execs st X.env) (SP X pins D) X.xe s
/-- weaken the end -/
theorem thn {α : Type} {t : Sem α} {Q Q' : α → Shared → Prop} {M : Model} {A : Around} {E : Value → Shared → Prop} {s : Shared} (h : wpAny M A t Q E s) (hQ : ∀ a s, Q a s → Q' a s) : wpAny M A t Q' E s := wpAny_mono h hQ fun _ _ x => x
end L2

namespace L2
open PySem PySem.Spec PyProof.Rows
section
variable {X : Cx}

/-- two expressions in a row -/
theorem bin {a b : Expr} {ta tb : TE} (ha : PE X a ta) (hb : PE X b tb) {pins : List (Addr × Obj)} {s : Shared} {σ : St} {H : Hp} {R : V → V → Hp → Prop} (I : Inv X pins σ H s) (h : ta σ H fun x H1 => tb σ H1 fun y H2 => R x y H2)
    {α : Type} {Q : α → Shared → Prop} {f : Value → Value → Sem α}
    (hf : ∀ v u s2 x y H2, Inv X pins σ H2 s2 → RelV x v → RelV y u → R x y H2 → wpAny (model X.prog X.w) X.A (f v u) Q X.xe s2) :
    wpAny (model X.prog X.w) X.A (eval a X.env) (fun v s₁ => wpAny (model X.prog X.w) X.A (eval b X.env) (fun u s₂ => wpAny (model X.prog X.w) X.A (f v u) Q X.xe s₂) X.xe s₁) X.xe s := by
  refine thn (ha pins s σ H _ I h) fun v s1 ⟨x, H1, I1, r1, q1⟩ => ?_
  refine thn (hb pins s1 σ H1 _ I1 q1) fun u s2 ⟨y, H2, I2, r2, q2⟩ => ?_
  exact hf v u s2 x y H2 I2 r1 r2 q2

/-! ### names and constants -/
def tVar (i : Nat) : TE := fun σ H Q => ∃ v, σ[i]? = some (some v) ∧ Q v H
def tC (v : V) : TE := fun _ H Q => Q v H
theorem pe_var {i : Nat} {x : Str} {pos : Pos} (hN : X.N[i]? = some x) (hv : Vis X.env.scope x) (hd : (x == ("__debug__" : Str)) = false := by decide) (hcd : (x == ("__classdict__" : Str)) = false := by decide) : PE X (.Name x pos) (tVar i) := by
  intro pins s σ H Q I h
  obtain ⟨v, e, h⟩ := h
  obtain ⟨m, hn, hl⟩ := I.loc
  obtain ⟨u, r, l⟩ := hl i x v hN e hv
  have fin : EP X pins σ Q u s := ⟨v, H, I, r, h⟩
  rcases l with ⟨hk, hm⟩ | ⟨hk, c, hc, hcell⟩
  · exact wpAny_Name (wpAny_loadName_local I.ok.kind hk hn hm fin) hd
  · rcases hk with hk | hk
    · exact wpAny_Name (wpAny_loadName_cell I.ok.kind hk hc hcell fin) hd
    · exact wpAny_Name (wpAny_loadName_free I.ok.kind hk hc hcell fin hcd) hd
theorem pe_int {i j pos} : PE X (.Constant (.int i) j pos) (tC (.int i)) := fun _ _ _ H _ I h => wpAny_Constant_int ⟨.int i, H, I.tok _, ⟨_, rfl⟩, h⟩
theorem pe_bl {b j pos} : PE X (.Constant (.bool b) j pos) (tC (.bl b)) := fun _ _ _ H _ I h => Constant_bool ⟨.bl b, H, I, rfl, h⟩
theorem pe_non {j pos} : PE X (.Constant .none j pos) (tC .non) := fun _ _ _ H _ I h => Constant_none ⟨.non, H, I, rfl, h⟩
theorem pe_str {x j pos} : PE X (.Constant (.str x) j pos) (tC (.str x)) := fun _ _ _ H _ I h => Calls.Constant_str ⟨.str x, H, I.tok _, ⟨_, rfl⟩, h⟩

/-- a global name of the def -/
def Gl (X : Cx) (x : Str) : Prop := X.env.kindOf x = some .globalImplicit
theorem ld_glob {E : Value → Shared → Prop} {pins : List (Addr × Obj)} {s : Shared} {σ : St} {H : Hp} {x : Str} {u : Value} {pos : Pos} {Q : Value → Shared → Prop} (I : Inv X pins σ H s) (hg : Gl X x) (hm : X.mg x = some u) (h : Q u s)
    (hd : (x == ("__debug__" : Str)) = false := by decide) : wpAny (model X.prog X.w) X.A (eval (.Name x pos) X.env) Q E s :=
  Calls.Name_function_global I.ok.kind hg (Calls.loadGlobal_global (by rw [I.ok.glob]; exact I.mod.glob.keeps I.bk) hm h) hd
theorem ld_blt {E : Value → Shared → Prop} {pins : List (Addr × Obj)} {s : Shared} {σ : St} {H : Hp} {x : Str} {u : Value} {pos : Pos} {Q : Value → Shared → Prop} (I : Inv X pins σ H s) (hg : Gl X x) (hm : X.mg x = none) (hv : bootBuiltins x = some u) (h : Q u s)
    (hn : x ≠ "__name__" := by decide) (hd : (x == ("__debug__" : Str)) = false := by decide) : wpAny (model X.prog X.w) X.A (eval (.Name x pos) X.env) Q E s := by
  obtain ⟨mb, h1, h2⟩ := I.mod.blt
  exact Calls.Name_function_global I.ok.kind hg (Calls.loadGlobal_builtin (by rw [I.ok.glob]; exact I.mod.glob.keeps I.bk) hm (by rw [I.ok.blt]; exact h1.keeps I.bk) ((h2 x hn).trans hv) h) hd
/-- a module's constant, a class, a function, as a value -/
theorem pe_glob {x : Str} {v : V} {u : Value} {pos : Pos} (hg : Gl X x) (hm : X.mg x = some u) (r : RelV v u) (hd : (x == ("__debug__" : Str)) = false := by decide) : PE X (.Name x pos) (tC v) :=
  fun _ _ _ H _ I h => ld_glob I hg hm ⟨v, H, I, r, h⟩ hd
theorem pe_bltn {x : Str} {v : V} {u : Value} {pos : Pos} (hg : Gl X x) (hm : X.mg x = none) (hv : bootBuiltins x = some u) (r : RelV v u) (hn : x ≠ "__name__" := by decide) (hd : (x == ("__debug__" : Str)) = false := by decide) : PE X (.Name x pos) (tC v) :=
  fun _ _ _ H _ I h => ld_blt I hg hm hv ⟨v, H, I, r, h⟩ hn hd

/-! ### arithmetic -/
/-- two ints -/
def t2I (ta tb : TE) (k : Int → Int → Hp → Prop) : St → Hp → Prop := fun σ H => ta σ H fun x H1 => tb σ H1 fun y H2 => ∃ i j, x = .int i ∧ y = .int j ∧ k i j H2
def tAdd (ta tb : TE) : TE := fun σ H Q => t2I ta tb (fun i j H2 => Q (.int (i + j)) H2) σ H
def tSub (ta tb : TE) : TE := fun σ H Q => t2I ta tb (fun i j H2 => Q (.int (i - j)) H2) σ H
/-- the left factor below 2^64 -/
def tMul (ta tb : TE) : TE := fun σ H Q => t2I ta tb (fun i j H2 => (-(2 ^ 64) < i ∧ i < 2 ^ 64) ∧ Q (.int (i * j)) H2) σ H
variable {a b : Expr} {ta tb : TE} {pos : Pos}
theorem pe_add (ha : PE X a ta) (hb : PE X b tb) : PE X (.BinOp a .Add b pos) (tAdd ta tb) := by
  intro pins s σ H Q I h
  refine wpAny_BinOp (bin ha hb I h fun v u s2 x y H2 I2 rx ry q => ?_)
  obtain ⟨i, j, rfl, rfl, q⟩ := q
  obtain ⟨t, rfl⟩ := rx
  obtain ⟨t', rfl⟩ := ry
  exact add_int ⟨.int _, H2, I2.tok _, ⟨_, rfl⟩, q⟩
theorem pe_sub (ha : PE X a ta) (hb : PE X b tb) : PE X (.BinOp a .Sub b pos) (tSub ta tb) := by
  intro pins s σ H Q I h
  refine wpAny_BinOp (bin ha hb I h fun v u s2 x y H2 I2 rx ry q => ?_)
  obtain ⟨i, j, rfl, rfl, q⟩ := q
  obtain ⟨t, rfl⟩ := rx
  obtain ⟨t', rfl⟩ := ry
  exact sub_int ⟨.int _, H2, I2.tok _, ⟨_, rfl⟩, q⟩
theorem pe_mul (ha : PE X a ta) (hb : PE X b tb) : PE X (.BinOp a .Mult b pos) (tMul ta tb) := by
  intro pins s σ H Q I h
  refine wpAny_BinOp (bin ha hb I h fun v u s2 x y H2 I2 rx ry q => ?_)
  obtain ⟨i, j, rfl, rfl, ⟨q1, q2⟩, q⟩ := q
  obtain ⟨t, rfl⟩ := rx
  obtain ⟨t', rfl⟩ := ry
  exact mul_int ⟨.int _, H2, I2.tok _, ⟨_, rfl⟩, q⟩ (.of_left (intBits_le_64 q1 q2))

/-! ### comparisons -/
def PC (X : Cx) (op : CmpOp) (a b : Expr) (t : TE) : Prop :=
  ∀ (pins : List (Addr × Obj)) (s : Shared) (σ : St) (H : Hp) (Q : VK), Inv X pins σ H s → t σ H Q →
    wpAny (model X.prog X.w) X.A (eval a X.env) (fun v s₁ => wpAny (model X.prog X.w) X.A (eval b X.env) (fun u s₂ => wpAny (model X.prog X.w) X.A (compareOp op v u) (EP X pins σ Q) X.xe s₂) X.xe s₁) X.xe s
theorem nobehind (b : Expr) {op : CmpOp} (h : op ≠ .In) (h2 : op ≠ .NotIn) : behindInMarks op b = false := by
  have e1 : (op == CmpOp.In) = false := by cases op <;> first | rfl | exact absurd rfl h
  have e2 : (op == CmpOp.NotIn) = false := by cases op <;> first | rfl | exact absurd rfl h2
  cases b <;> simp [behindInMarks, e1, e2]
def tCmp (p : Int → Int → Bool) (ta tb : TE) : TE := fun σ H Q => t2I ta tb (fun i j H2 => Q (.bl (p i j)) H2) σ H
abbrev tLt : TE → TE → TE := tCmp fun i j => decide (i < j)
abbrev tLe : TE → TE → TE := tCmp fun i j => decide (i ≤ j)
abbrev tGt : TE → TE → TE := tCmp fun i j => decide (j < i)
abbrev tGe : TE → TE → TE := tCmp fun i j => decide (j ≤ i)
abbrev tEqI : TE → TE → TE := tCmp fun i j => decide (i = j)
abbrev tNeI : TE → TE → TE := tCmp fun i j => !decide (i = j)
/-- a comparison of two ints, by its rule -/
theorem pc_int {op : CmpOp} {p : Int → Int → Bool} (ha : PE X a ta) (hb : PE X b tb)
    (rule : ∀ (i j : Int) (t u : Tok) (Q : Value → Shared → Prop) (s : Shared), Q (.bool (p i j)) s → wpAny (model X.prog X.w) X.A (compareOp op (.int i t) (.int j u)) Q X.xe s) : PC X op a b (tCmp p ta tb) := by
  intro pins s σ H Q I h
  refine bin ha hb I h fun v u s2 x y H2 I2 rx ry q => ?_
  obtain ⟨i, j, rfl, rfl, q⟩ := q
  obtain ⟨t, rfl⟩ := rx
  obtain ⟨t', rfl⟩ := ry
  exact rule i j t t' _ s2 ⟨.bl _, H2, I2, rfl, q⟩
theorem pc_lt (ha : PE X a ta) (hb : PE X b tb) : PC X .Lt a b (tLt ta tb) := pc_int ha hb fun _ _ _ _ _ _ h => lt_int h
theorem pc_le (ha : PE X a ta) (hb : PE X b tb) : PC X .LtE a b (tLe ta tb) := pc_int ha hb fun _ _ _ _ _ _ h => le_int h
theorem pc_gt (ha : PE X a ta) (hb : PE X b tb) : PC X .Gt a b (tGt ta tb) := pc_int ha hb fun _ _ _ _ _ _ h => gt_int h
theorem pc_ge (ha : PE X a ta) (hb : PE X b tb) : PC X .GtE a b (tGe ta tb) := pc_int ha hb fun _ _ _ _ _ _ h => ge_int h
theorem pc_eqI (ha : PE X a ta) (hb : PE X b tb) : PC X .Eq a b (tEqI ta tb) := pc_int ha hb fun _ _ _ _ _ _ h => eq_int (by rw [Bool.beq_eq_decide_eq]; exact h)
theorem pc_neI (ha : PE X a ta) (hb : PE X b tb) : PC X .NotEq a b (tNeI ta tb) := pc_int ha hb fun _ _ _ _ _ _ h => ne_int (by rw [bne, Bool.beq_eq_decide_eq]; exact h)
/-- is None -/
def tIsN (ta : TE) : TE := fun σ H Q => ta σ H fun x H1 => Q (.bl (decide (x = .non))) H1
def tNotN (ta : TE) : TE := fun σ H Q => ta σ H fun x H1 => Q (.bl (!decide (x = .non))) H1
theorem RelV.none_iff {x : V} {v : Value} (r : RelV x v) : (v == Value.none) = decide (x = .non) := by
  cases x with
  | non => cases r; rfl
  | bl _ => cases r; rfl
  | int _ => obtain ⟨t, rfl⟩ := r; rfl
  | str _ => obtain ⟨t, rfl⟩ := r; rfl
  | byt _ => obtain ⟨t, rfl⟩ := r; rfl
  | flt _ => obtain ⟨t, rfl⟩ := r; rfl
  | ref _ => cases r; rfl
  | ty _ => cases r; rfl
theorem pc_isN {j pos'} (ha : PE X a ta) : PC X .Is a (.Constant .none j pos') (tIsN ta) := by
  intro pins s σ H Q I h
  refine thn (ha pins s σ H _ I h) fun v s1 ⟨x, H1, I1, r1, q1⟩ => ?_
  exact Constant_none (is_none_gen ⟨.bl _, H1, I1, by rw [r1.none_iff]; rfl, q1⟩)
theorem pc_notN {j pos'} (ha : PE X a ta) : PC X .IsNot a (.Constant .none j pos') (tNotN ta) := by
  intro pins s σ H Q I h
  refine thn (ha pins s σ H _ I h) fun v s1 ⟨x, H1, I1, r1, q1⟩ => ?_
  exact Constant_none (isnot_none_gen ⟨.bl _, H1, I1, by rw [r1.none_iff]; rfl, q1⟩)
/-- a comparison as a value, as a test -/
def tB (t : TE) : TT := fun σ H Q => t σ H fun x H1 => ∃ c, x = .bl c ∧ Q c H1
theorem pe_cmp {op : CmpOp} {t : TE} (h : PC X op a b t) (h1 : behindInMarks op b = false := by first | exact nobehind _ (by decide) (by decide) | rfl) : PE X (.Compare a [op] [b] pos) t := fun pins s σ H Q I hw => wpAny_Compare1 (h pins s σ H Q I hw) h1
theorem pt_cmp {op : CmpOp} {t : TE} (h : PC X op a b t) (h1 : behindInMarks op b = false := by first | exact nobehind _ (by decide) (by decide) | rfl) : PT X (.Compare a [op] [b] pos) (tB t) := by
  intro pins s σ H Q I hw
  refine wpAny_isTrue_Compare1 (thn (h pins s σ H _ I hw) fun v s1 h1 => thn h1 fun u s2 h2 => thn h2 fun c s3 ⟨x, H1, I1, r1, q1⟩ => ?_) h1
  obtain ⟨d, rfl, q⟩ := q1
  cases r1
  exact wpAny_truthy_bool ⟨H1, I1, q⟩
/-- an expression whose value is a bool, as a test -/
theorem pt_val {e : Expr} {t : TE} (h : PE X e t) (he : ∀ whole, isTrue e X.env whole = (do let v ← whole; standAt e.pos; holding [v] (truthy v)) := by intro _; rfl) : PT X e (tB t) := by
  intro pins s σ H Q I hw
  refine isTrue_plain (thn (h pins s σ H _ I hw) fun v s1 ⟨x, H1, I1, r1, q1⟩ => ?_) (he _)
  obtain ⟨d, rfl, q⟩ := q1
  cases r1
  exact wpAny_truthy_bool ⟨H1, I1, q⟩

/-! ### and, or, not -/
variable {tA tB' : TT} {rest : List Expr}
def tAnd (t u : TT) : TT := fun σ H Q => t σ H fun c H1 => if c = true then u σ H1 Q else Q false H1
def tOr (t u : TT) : TT := fun σ H Q => t σ H fun c H1 => if c = true then Q true H1 else u σ H1 Q
def tNot (t : TT) : TT := fun σ H Q => t σ H fun c H1 => Q (!c) H1
theorem pw_and1 (ha : PT X a tA) : PW X (.BoolOp .And [a] pos) tA := by
  intro wh pins s σ H Q I h
  refine isTrue_and (thn (ha pins s σ H Q I h) fun c s1 e => ?_)
  cases c with
  | true => exact isTrue_and_nil e
  | false => exact e
theorem pw_or1 (ha : PT X a tA) : PW X (.BoolOp .Or [a] pos) tA := by
  intro wh pins s σ H Q I h
  refine isTrue_or (thn (ha pins s σ H Q I h) fun c s1 e => ?_)
  cases c with
  | false => exact isTrue_or_nil e
  | true => exact e
theorem pw_and (ha : PT X a tA) (hb : PW X (.BoolOp .And (b :: rest) pos) tB') : PW X (.BoolOp .And (a :: b :: rest) pos) (tAnd tA tB') := by
  intro wh pins s σ H Q I h
  refine isTrue_and (thn (ha pins s σ H _ I h) fun c s1 ⟨H1, I1, q1⟩ => ?_)
  cases c with
  | true => exact hb wh pins s1 σ H1 Q I1 q1
  | false => exact ⟨H1, I1, q1⟩
theorem pw_or (ha : PT X a tA) (hb : PW X (.BoolOp .Or (b :: rest) pos) tB') : PW X (.BoolOp .Or (a :: b :: rest) pos) (tOr tA tB') := by
  intro wh pins s σ H Q I h
  refine isTrue_or (thn (ha pins s σ H _ I h) fun c s1 ⟨H1, I1, q1⟩ => ?_)
  cases c with
  | true => exact ⟨H1, I1, q1⟩
  | false => exact hb wh pins s1 σ H1 Q I1 q1
theorem pt_not (ha : PT X a tA) : PT X (.UnaryOp .Not a pos) (tNot tA) := by
  intro pins s σ H Q I h
  exact isTrue_not (ha pins s σ H (fun c H1 => Q (!c) H1) I h)
/-- .. as values (bools) -/
def tAndV (ta tb : TE) : TE := fun σ H Q => ta σ H fun x H1 => ∃ c, x = .bl c ∧ if c = true then tb σ H1 Q else Q (.bl false) H1
def tOrV (ta tb : TE) : TE := fun σ H Q => ta σ H fun x H1 => ∃ c, x = .bl c ∧ if c = true then Q (.bl true) H1 else tb σ H1 Q
def tNotV (ta : TE) : TE := fun σ H Q => ta σ H fun x H1 => ∃ c, x = .bl c ∧ Q (.bl (!c)) H1
theorem pe_one {op} {t : TE} (h : PE X a t) : PE X (.BoolOp op [a] pos) t := fun pins s σ H Q I hw => BoolOp_one (h pins s σ H Q I hw)
theorem pe_and (ha : PE X a ta) (hb : PE X (.BoolOp .And (b :: rest) pos) tb) : PE X (.BoolOp .And (a :: b :: rest) pos) (tAndV ta tb) := by
  intro pins s σ H Q I h
  refine BoolOp_and (thn (ha pins s σ H _ I h) fun v s1 ⟨x, H1, I1, r1, q1⟩ => ?_)
  obtain ⟨c, rfl, q1⟩ := q1
  cases r1
  refine wpAny_truthy_bool ?_
  cases c with
  | true => exact hb pins s1 σ H1 Q I1 q1
  | false => exact ⟨.bl false, H1, I1, rfl, q1⟩
theorem pe_or (ha : PE X a ta) (hb : PE X (.BoolOp .Or (b :: rest) pos) tb) : PE X (.BoolOp .Or (a :: b :: rest) pos) (tOrV ta tb) := by
  intro pins s σ H Q I h
  refine BoolOp_or (thn (ha pins s σ H _ I h) fun v s1 ⟨x, H1, I1, r1, q1⟩ => ?_)
  obtain ⟨c, rfl, q1⟩ := q1
  cases r1
  refine wpAny_truthy_bool ?_
  cases c with
  | false => exact hb pins s1 σ H1 Q I1 q1
  | true => exact ⟨.bl true, H1, I1, rfl, q1⟩
theorem pe_not (ha : PE X a ta) : PE X (.UnaryOp .Not a pos) (tNotV ta) := by
  intro pins s σ H Q I h
  refine UnaryOp_ (thn (ha pins s σ H _ I h) fun v s1 ⟨x, H1, I1, r1, q1⟩ => ?_)
  obtain ⟨c, rfl, q1⟩ := q1
  cases r1
  exact not_of (wpAny_truthy_bool ⟨.bl (!c), H1, I1, rfl, q1⟩)
/-- a if t else b -/
def tIf (t : TT) (ta tb : TE) : TE := fun σ H Q => t σ H fun c H1 => if c = true then ta σ H1 Q else tb σ H1 Q
theorem pe_ifExp {c : Expr} (hc : PT X c tA) (ha : PE X a ta) (hb : PE X b tb) : PE X (.IfExp c a b pos) (tIf tA ta tb) := by
  intro pins s σ H Q I h
  refine wpAny_IfExp (thn (hc pins s σ H _ I h) fun d s1 ⟨H1, I1, q1⟩ => ?_)
  cases d with
  | true => exact ha pins s1 σ H1 Q I1 q1
  | false => exact hb pins s1 σ H1 Q I1 q1
end
end L2

namespace L2
open PySem PySem.Spec PyProof.Rows

/-! ### a list, a tuple that is read: tracked, frozen, or an object of the module -/
def SqL (K : PySem.W.Frag) (H : Hp) (a : Addr) (xs : List V) : Prop :=
  Rd H a (.lst xs) ∨
    ∃ (o : Obj) (its : Array Value) (n : Nat), K.lookup a = some o ∧ o.cls = .type "list" ∧ o.dict = none ∧ o.data = .seq its n ∧ its.size ≤ sizeLine ∧ Vals xs its.toList
def SqT (K : PySem.W.Frag) (H : Hp) (a : Addr) (xs : List V) : Prop :=
  Rd H a (.tup xs) ∨
    ∃ (o : Obj) (its : Array Value) (n : Nat), K.lookup a = some o ∧ o.cls = .type "tuple" ∧ o.data = .seq its n ∧ its.size ≤ sizeLine ∧ Vals xs its.toList
def absV : Value → Option V
  | .none => some .non
  | .bool b => some (.bl b)
  | .int i _ => some (.int i)
  | .str x _ => some (.str x)
  | .bytes b _ => some (.byt b)
  | .float b _ => some (.flt b)
  | .ref a => some (.ref a)
  | .type n => some (.ty n)
  | _ => none
theorem RelV.abs {x : V} {u : Value} (r : RelV x u) : absV u = some x := by
  cases x with
  | non => cases r; rfl
  | bl _ => cases r; rfl
  | int _ => obtain ⟨t, rfl⟩ := r; rfl
  | str _ => obtain ⟨t, rfl⟩ := r; rfl
  | byt _ => obtain ⟨t, rfl⟩ := r; rfl
  | flt _ => obtain ⟨t, rfl⟩ := r; rfl
  | ref _ => cases r; rfl
  | ty _ => cases r; rfl
theorem RelV.inj {x y : V} {u : Value} (r : RelV x u) (q : RelV y u) : x = y := Option.some.inj (r.abs.symm.trans q.abs)
theorem Vals.inj : ∀ {xs ys : List V} {us : List Value}, Vals xs us → Vals ys us → xs = ys
  | _, _, _, .nil, .nil => rfl
  | _, _, _, .cons r t, .cons r' t' => by rw [r.inj r', Vals.inj t t']
section
variable {X : Cx} {pins : List (Addr × Obj)} {σ : St} {H : Hp} {s : Shared} {a : Addr} {xs ys : List V}
theorem SqL.of {K : PySem.W.Frag} (h : H a = some (.lst xs)) : SqL K H a xs := .inl (.inl h)
theorem SqT.of {K : PySem.W.Frag} (h : H a = some (.tup xs)) : SqT K H a xs := .inl (.inl h)
theorem Inv.list (I : Inv X pins σ H s) (h : SqL X.K H a xs) : ∃ its : List Value, Vals xs its ∧ PlainL s.heap a its.toArray ∧ xs.length ≤ sizeLine := by
  rcases h with h | ⟨o, its, n, hk, hc, hd, hs, hz, r⟩
  · obtain ⟨z, its, n, r, e⟩ := h.ok I.hok
    exact ⟨its, r, ⟨_, n, e, rfl, rfl, rfl⟩, z⟩
  · refine ⟨its.toList, r, ⟨o, n, I.kIn a o hk, hc, hd, by simpa using hs⟩, ?_⟩
    have e := r.length
    simp only [Array.length_toList] at e
    omega
theorem Inv.tuple (I : Inv X pins σ H s) (h : SqT X.K H a xs) : ∃ its : List Value, Vals xs its ∧ IsTup s.heap a its.toArray ∧ xs.length ≤ sizeLine := by
  rcases h with h | ⟨o, its, n, hk, hc, hs, hz, r⟩
  · obtain ⟨z, its, r, p⟩ := h.ok I.hok
    exact ⟨its, r, p, z⟩
  · refine ⟨its.toList, r, ⟨o, I.kIn a o hk, hc, n, by simpa using hs⟩, ?_⟩
    have e := r.length
    simp only [Array.length_toList] at e
    omega
theorem Inv.list_inj (I : Inv X pins σ H s) (h : SqL X.K H a xs) (h' : SqL X.K H a ys) : xs = ys := by
  obtain ⟨its, r, ⟨o, n, e, _, _, d⟩, _⟩ := I.list h
  obtain ⟨its', r', ⟨o', n', e', _, _, d'⟩, _⟩ := I.list h'
  rw [e] at e'; cases e'
  rw [d] at d'
  injection d' with d1 _
  have : its = its' := by simpa using congrArg Array.toList d1
  subst this
  exact r.inj r'
theorem Inv.tuple_inj (I : Inv X pins σ H s) (h : SqT X.K H a xs) (h' : SqT X.K H a ys) : xs = ys := by
  obtain ⟨its, r, ⟨o, e, _, n, d⟩, _⟩ := I.tuple h
  obtain ⟨its', r', ⟨o', e', _, n', d'⟩, _⟩ := I.tuple h'
  rw [e] at e'; cases e'
  rw [d] at d'
  injection d' with d1 _
  have : its = its' := by simpa using congrArg Array.toList d1
  subst this
  exact r.inj r'
end

/-! ### another wish about exceptions -/
abbrev Cx.wish (X : Cx) (E : Value → Shared → Prop) : Cx := { X with xe := E }
/-- no exception leaves -/
abbrev Cx.nox (X : Cx) : Cx := X.wish fun _ _ => False
theorem Cx.Ok.wish {X : Cx} (ok : X.Ok) (E : Value → Shared → Prop) : (X.wish E).Ok :=
  ⟨ok.mod, ok.kind, ok.glob, ok.blt, ok.above, ok.inj, ok.has, ok.cab, ok.hd, ok.frames, ok.stk, ok.exf, ok.bs, ok.bsz, ok.noex, ok.exfs, ok.funs, ok.frf⟩
theorem Cx.Ok.unwish {X : Cx} {E : Value → Shared → Prop} (ok : (X.wish E).Ok) : X.Ok :=
  ⟨ok.mod, ok.kind, ok.glob, ok.blt, ok.above, ok.inj, ok.has, ok.cab, ok.hd, ok.frames, ok.stk, ok.exf, ok.bs, ok.bsz, ok.noex, ok.exfs, ok.funs, ok.frf⟩
section
variable {X : Cx} {pins : List (Addr × Obj)} {σ : St} {H : Hp} {s : Shared} {E : Value → Shared → Prop}
theorem Inv.wish (I : Inv X pins σ H s) (E : Value → Shared → Prop) : Inv (X.wish E) pins σ H s := ⟨I.ok.wish E, I.os, I.bare, I.base, I.loc, I.cell, I.free, I.freeC, I.pin, I.hok, I.len⟩
theorem Inv.unwish (I : Inv (X.wish E) pins σ H s) : Inv X pins σ H s := ⟨I.ok.unwish, I.os, I.bare, I.base, I.loc, I.cell, I.free, I.freeC, I.pin, I.hok, I.len⟩
theorem SP.unwish {D : Ends} {f : Flow} {s' : Shared} (h : SP (X.wish E) pins D f s') : SP X pins D f s' := by
  cases f with
  | next => obtain ⟨σ', H', I, q⟩ := h; exact ⟨σ', H', I.unwish, q⟩
  | brk => obtain ⟨σ', H', I, q⟩ := h; exact ⟨σ', H', I.unwish, q⟩
  | cont => obtain ⟨σ', H', I, q⟩ := h; exact ⟨σ', H', I.unwish, q⟩
  | ret u => obtain ⟨v, σ', H', I, r, q⟩ := h; exact ⟨v, σ', H', I.unwish, r, q⟩
theorem PE.nox {e : Expr} {t : TE} (h : PE X.nox e t) : PE X e t := fun pins s σ H Q I hw =>
  wpAny_mono (h pins s σ H Q (I.wish _) hw) (fun _ _ ⟨v, H', I', r, q⟩ => ⟨v, H', I'.unwish, r, q⟩) fun _ _ z => False.elim z
theorem PT.nox {e : Expr} {t : TT} (h : PT X.nox e t) : PT X e t := fun pins s σ H Q I hw =>
  wpAny_mono (h pins s σ H Q (I.wish _) hw) (fun _ _ ⟨H', I', q⟩ => ⟨H', I'.unwish, q⟩) fun _ _ z => False.elim z
theorem PSs.nox {st : List Stmt} {t : TS} (h : PSs X.nox st t) : PSs X st t := fun pins s σ H D I hw =>
  wpAny_mono (h pins s σ H D (I.wish _) hw) (fun _ _ q => q.unwish) fun _ _ z => False.elim z
end

/-! ### blocks and small statements -/
section
variable {X : Cx} {st : Stmt} {rest : List Stmt} {t u : TS} {e : Expr} {te : TE} {pos : Pos}
def tNext : TS := fun D σ H => D.nx σ H
def tSeq (t u : TS) : TS := fun D σ H => t { D with nx := u D } σ H
theorem pss_nil : PSs X [] tNext := fun _ _ σ H _ I h => wpAny_execs_nil ⟨σ, H, I, h⟩
theorem pss_cons (h1 : PS X st t) (h2 : PSs X rest u) : PSs X (st :: rest) (tSeq t u) := by
  intro pins s σ H D I h
  refine wpAny_execs_cons (thn (h1 pins s σ H { D with nx := u D } I h) fun f s1 q => ?_)
  cases f with
  | next =>
    obtain ⟨σ', H', I', q⟩ := q
    exact h2 pins s1 σ' H' D I' q
  | ret v => exact q
  | brk => exact q
  | cont => exact q
theorem pss_one (h1 : PS X st t) : PSs X [st] t := by
  intro pins s σ H D I h
  refine wpAny_execs_cons (thn (h1 pins s σ H D I h) fun f s1 q => ?_)
  cases f with
  | next => exact wpAny_execs_nil q
  | ret v => exact q
  | brk => exact q
  | cont => exact q
def tBreak : TS := fun D σ H => D.bk σ H
def tCont : TS := fun D σ H => D.ct σ H
theorem ps_pass : PS X (.Pass pos) tNext := fun _ _ σ H _ I h => wpAny_Pass ⟨σ, H, I, h⟩
theorem ps_break : PS X (.Break pos) tBreak := fun _ _ σ H _ I h => wpAny_Break ⟨σ, H, I, h⟩
theorem ps_continue : PS X (.Continue pos) tCont := fun _ _ σ H _ I h => wpAny_Continue ⟨σ, H, I, h⟩
/-- in a def's body nothing is shown -/
theorem Inv.quiet {pins : List (Addr × Obj)} {σ : St} {H : Hp} {s : Shared} (I : Inv X pins σ H s) : interactive X.env = false := by simp [interactive, I.ok.kind]
/-- a docstring -/
theorem ps_doc {x j pos pos'} : PS X (.Expr (.Constant (.str x) j pos) pos') tNext := fun _ s σ H _ I h => wpAny_Expr (Calls.Constant_str (show SP X _ _ .next { s with toks := s.toks + 1 } from ⟨σ, H, I.tok _, h⟩)) I.quiet
/-- an expression whose value is dropped -/
def tDrop (te : TE) : TS := fun D σ H => te σ H fun _ H1 => D.nx σ H1
theorem ps_expr (he : PE X e te) (hs : swapsWith e none pos.line X.env = pure false := by rfl) : PS X (.Expr e pos) (tDrop te) := by
  intro pins s σ H D I h
  exact wpAny_Expr_any (thn (he pins s σ H _ I h) fun v s1 ⟨x, H1, I1, r1, q1⟩ => ⟨σ, H1, I1, q1⟩) I.quiet hs
def tRet (te : TE) : TS := fun D σ H => te σ H D.rt
theorem ps_ret (he : PE X e te) : PS X (.Return (some e) pos) (tRet te) := by
  intro pins s σ H D I h
  exact wpAny_Return_some (thn (he pins s σ H _ I h) fun v s1 ⟨x, H1, I1, r1, q1⟩ => ⟨x, σ, H1, I1, r1, q1⟩)
def tRetN : TS := fun D _ H => D.rt .non H
theorem ps_retN : PS X (.Return none pos) tRetN := fun _ _ σ H _ I h => wpAny_Return_none ⟨.non, σ, H, I, rfl, h⟩
def tIfS (c : TT) (t u : TS) : TS := fun D σ H => c σ H fun b H1 => if b = true then t D σ H1 else u D σ H1
theorem ps_if {c : Expr} {a b : List Stmt} {tc : TT} (hc : PT X c tc) (ha : PSs X a t) (hb : PSs X b u) : PS X (.If c a b pos) (tIfS tc t u) := by
  intro pins s σ H D I h
  refine wpAny_If (thn (hc pins s σ H _ I h) fun d s1 ⟨H1, I1, q1⟩ => ?_)
  cases d with
  | true => exact ha pins s1 σ H1 D I1 q1
  | false => exact hb pins s1 σ H1 D I1 q1
/-- code that the proof never comes to -/
def tNever : TS := fun _ _ _ => False
theorem ps_never : PS X st tNever := fun _ _ _ _ _ _ h => h.elim
theorem pss_never {sts : List Stmt} : PSs X sts tNever := fun _ _ _ _ _ _ h => h.elim
end

/-! ### targets -/
abbrev TG := V → St → Hp → (St → Hp → Prop) → Prop
abbrev TGs := List V → St → Hp → (St → Hp → Prop) → Prop
def PG (X : Cx) (target : Expr) (t : TG) : Prop :=
  ∀ (pins : List (Addr × Obj)) (s : Shared) (σ : St) (H : Hp) (v : V) (u : Value) (Q : St → Hp → Prop), Inv X pins σ H s → RelV v u → t v σ H Q →
    wpAny (model X.prog X.w) X.A (assign target X.env u) (fun _ s' => ∃ σ' H', Inv X pins σ' H' s' ∧ Q σ' H') X.xe s
/-- several targets, one after another -/
def PGs (X : Cx) (ts : List Expr) (t : TGs) : Prop :=
  ∀ (pins : List (Addr × Obj)) (s : Shared) (σ : St) (H : Hp) (vs : List V) (us : List Value) (Q : St → Hp → Prop), Inv X pins σ H s → Vals vs us → t vs σ H Q →
    wpAny (model X.prog X.w) X.A (assignInOrder ((assignEach ts X.env).map (·.2)) us) (fun _ s' => ∃ σ' H', Inv X pins σ' H' s' ∧ Q σ' H') X.xe s
/-- o[i] = v, by values -/
abbrev TSet := V → V → V → Hp → (Hp → Prop) → Prop
def PSet (X : Cx) (t : TSet) : Prop :=
  ∀ (pins : List (Addr × Obj)) (s : Shared) (σ : St) (H : Hp) (o i v : V) (ov iv u : Value) (Q : Hp → Prop), Inv X pins σ H s → RelV o ov → RelV i iv → RelV v u → t o i v H Q →
    wpAny (model X.prog X.w) X.A (setItem ov iv u) (fun _ s' => ∃ H', Inv X pins σ H' s' ∧ Q H') X.xe s
/-- a op= b, by values -/
abbrev TIp := V → V → Hp → VK → Prop
def PIp (X : Cx) (op : Operator) (t : TIp) : Prop :=
  ∀ (pins : List (Addr × Obj)) (s : Shared) (σ : St) (H : Hp) (x y : V) (v u : Value) (Q : VK), Inv X pins σ H s → RelV x v → RelV y u → t x y H Q →
    wpAny (model X.prog X.w) X.A (inplaceOp op v u) (EP X pins σ Q) X.xe s
section
variable {X : Cx} {pos : Pos}
def gName (i : Nat) : TG := fun v σ H Q => Q (σ.set i (some v)) H
theorem pg_name {i : Nat} {x : Str} (hN : X.N.Nodup) (hi : X.N[i]? = some x) (hx : Loc X.env.scope x) (hf : X.fn x = true ∨ X.env.scope.names.lookup x = some .local := by first | exact .inl rfl | exact .inr rfl | assumption) : PG X (.Name x pos) (gName i) := by
  intro pins s σ H v u Q I r h
  exact wpAny_assign_Name (store_ok I hN hi hx r (fun s' I' => ⟨_, H, I', h⟩) hf)
def gNil : TGs := fun vs σ H Q => vs = [] ∧ Q σ H
def gCons (t : TG) (u : TGs) : TGs := fun vs σ H Q => ∃ v r, vs = v :: r ∧ t v σ H fun σ' H' => u r σ' H' Q
theorem pgs_nil : PGs X [] gNil := by
  intro pins s σ H vs us Q I r h
  obtain ⟨e, h⟩ := h
  subst e
  cases r
  exact assignInOrder_nil ⟨σ, H, I, h⟩
theorem pgs_cons {e : Expr} {es : List Expr} {t : TG} {u : TGs} (h1 : PG X e t) (h2 : PGs X es u)
    (hs : (assignEach (e :: es) X.env).map (·.2) = assign e X.env :: (assignEach es X.env).map (·.2) := by rfl) : PGs X (e :: es) (gCons t u) := by
  intro pins s σ H vs us Q I r h
  obtain ⟨v, vr, e1, h⟩ := h
  subst e1
  cases r with
  | cons r rr =>
    rw [hs]
    refine assignInOrder_cons (thn (h1 pins s σ H _ _ _ I r h) fun _ s1 ⟨σ1, H1, I1, q1⟩ => ?_)
    exact h2 pins s1 σ1 H1 _ _ Q I1 rr q1
/-- (a, b, ..) = a tuple of that length -/
def gTup (K : PySem.W.Frag) (n : Nat) (t : TGs) : TG := fun v σ H Q => ∃ a xs, v = .ref a ∧ SqT K H a xs ∧ xs.length = n ∧ t xs σ H Q
theorem pg_tup {es : List Expr} {k : Nat} {t : TGs} {n : Nat} (hc : X.calm = true) (h : PGs X es t)
    (hn : (assignEach es X.env).length = n := by rfl) (hst : (assignEach es X.env).findIdx? (·.1) = none := by rfl) : PG X (.Tuple es k pos) (gTup X.K n t) := by
  intro pins s σ H v u Q I r hw
  obtain ⟨a, xs, e1, hq, hl, hw⟩ := hw
  subst e1
  cases r
  obtain ⟨its, rv, ht, hz⟩ := I.tuple hq
  refine assign_Tuple_tuple (I.ok.hd hc) ht (by simp [hn, ← hl, rv.length]) hst fun h' hx => ?_
  have I1 : Inv X pins σ H { s with heap := h' } := I.kept (t' := s.toks) fun b o e => hx b o (Nat.ne_of_lt (Heap.lt_size e)) e
  exact h pins _ σ H xs _ Q I1 (by simpa using rv) hw
/-- o[i] = .. -/
def gSub (to ti : TE) (t : TSet) : TG := fun v σ H Q => to σ H fun o H1 => ti σ H1 fun i H2 => t o i v H2 fun H3 => Q σ H3
theorem pg_sub {o i : Expr} {to ti : TE} {t : TSet} (ho : PE X o to) (hi : PE X i ti) (hs : PSet X t)
    (ha : ∀ v, assign (.Subscript o i pos) X.env v = (do
      let ov ← holding [v] (eval o X.env)
      let iv ← holding [v, ov] (eval i X.env)
      standAt pos
      holding [v, ov, iv] (setItem ov iv v)
      release [v, ov, iv] []) := by intro _; rfl) : PG X (.Subscript o i pos) (gSub to ti t) := by
  intro pins s σ H v u Q I r h
  rw [ha]
  refine wpAny_bind (wpAny_holding (thn (ho pins s σ H _ I h) fun ov s1 ⟨x, H1, I1, r1, q1⟩ => ?_))
  refine wpAny_bind (wpAny_holding (thn (hi pins s1 σ H1 _ I1 q1) fun iv s2 ⟨y, H2, I2, r2, q2⟩ => ?_))
  refine wpAny_bind (wpAny_standAt (wpAny_bind (wpAny_holding (thn (hs pins s2 σ H2 x y v ov iv u _ I2 r1 r2 r q2) fun _ s3 ⟨H3, I3, q3⟩ => ?_))))
  exact wpAny_release ⟨σ, H3, I3, q3⟩
/-- target = value -/
def tAsg (te : TE) (g : TG) : TS := fun D σ H => te σ H fun x H1 => g x σ H1 D.nx
theorem ps_asg {tg e : Expr} {te : TE} {g : TG} (he : PE X e te) (hg : PG X tg g) (hs : swapsWithSole [tg] e pos.line X.env = pure false := by rfl) (hw : swappedStores [tg] e X.env = pure none := by rfl)
    (h1 : (assignEach [tg] X.env).map (·.2) = [assign tg X.env] := by rfl) : PS X (.Assign [tg] e pos) (tAsg te g) := by
  intro pins s σ H D I h
  refine wpAny_Assign_stores (thn (he pins s σ H _ I h) fun v s1 ⟨x, H1, I1, r1, q1⟩ => ?_) hs hw
  rw [h1]
  exact thn (hg pins s1 σ H1 x v _ I1 r1 q1) fun _ s2 q => q
/-- name = value -/
theorem ps_set {i : Nat} {x : Str} {e : Expr} {te : TE} {pos' : Pos} (hN : X.N.Nodup) (hi : X.N[i]? = some x) (hx : Loc X.env.scope x) (he : PE X e te) (hs : swapsWith e (some (.Name x pos')) pos.line X.env = pure false := by rfl) (hf : X.fn x = true ∨ X.env.scope.names.lookup x = some .local := by first | exact .inl rfl | exact .inr rfl | assumption) :
    PS X (.Assign [.Name x pos'] e pos) (tAsg te (gName i)) := by
  intro pins s σ H D I h
  refine wpAny_Assign_Name (thn (he pins s σ H _ I h) fun v s1 ⟨y, H1, I1, r1, q1⟩ => ?_) hs
  exact store_ok I1 hN hi hx r1 (fun s2 I2 => ⟨_, H1, I2, q1⟩) hf
/-- a, b = x, y with plain local names: stored from the right; the pair itself is not tracked (the opening rows as in PyProof/Rows/TupAssign.lean:23) -/
def tPar (i j : Nat) (ta : TA) : TS := fun D σ H => ta σ H fun vs H1 => ∃ v w, vs = [v, w] ∧ D.nx ((σ.set i (some v)).set j (some w)) H1
theorem ps_par {i j : Nat} {x y : Str} {a b : Expr} {ta : TA} {px py pt : Pos} {kt k2 pt2} (hc : X.calm = true) (hN : X.N.Nodup) (hi : X.N[i]? = some x) (hj : X.N[j]? = some y) (hij : i ≠ j)
    (hx : X.env.scope.names.lookup x = some .local) (hy : X.env.scope.names.lookup y = some .local) (ha : PA X [a, b] ta)
    (hw : swappedStores [.Tuple [.Name x px, .Name y py] kt pt] (.Tuple [a, b] k2 pt2) X.env = pure (some [x, y]))
    (hs : swapsWithSole [.Tuple [.Name x px, .Name y py] kt pt] (.Tuple [a, b] k2 pt2) pos.line X.env = pure false := by rfl) :
    PS X (.Assign [.Tuple [.Name x px, .Name y py] kt pt] (.Tuple [a, b] k2 pt2) pos) (tPar i j ta) := by
  intro pins s σ H D I h
  rw [exec_Assign_arm]
  refine wpAny_bind (wpAny_standAt ?_)
  rw [hs]
  refine wpAny_bind (wpAny_pure ?_)
  rw [if_neg (by decide)]
  refine wpAny_bind (Tuple_ (thn (ha _ pins s σ H _ I h) fun us s1 ⟨vs, H1, I1, r1, q1⟩ => ?_))
  obtain ⟨v, w, e1, q1⟩ := q1
  subst e1
  obtain ⟨u1, u2, rfl, rv, rw'⟩ : ∃ u1 u2, us = [u1, u2] ∧ RelV v u1 ∧ RelV w u2 := by
    cases r1 with
    | cons p q =>
      cases q with
      | cons p' q' =>
        cases q'
        exact ⟨_, _, rfl, p, p'⟩
  refine wpAny_newObj_type ?_ (by show 2 ≤ sizeLine; decide)
  have I2 : Inv X pins σ H1 { s1 with heap := s1.heap.push { cls := .type "tuple", data := .seq [u1, u2].toArray } } := I1.kept (t' := s1.toks) fun b o e => Heap.get?_push_of_some _ e
  rw [hw]
  refine wpAny_bind (wpAny_pure ?_)
  show wpAny (model X.prog X.w) X.A (do rule "assign.swapped-stores"; let items ← unpackItems (.ref s1.heap.objs.size) 2 none; assignInOrder [fun v => bindName X.env y v, fun v => bindName X.env x v] items.reverse; pure Flow.next) _ _ _
  refine wpAny_bind (wpAny_rule (wpAny_bind (unpackItems_tuple (items := #[u1, u2]) (I.ok.hd hc) (IsTup.new s1.heap _) fun h' hx' => ?_)))
  have I3 := I2.kept (h' := h') (t' := s1.toks) fun b o e => hx' b o (Nat.ne_of_lt (Heap.lt_size e)) e
  show wpAny _ _ (assignInOrder [fun v => bindName X.env y v, fun v => bindName X.env x v] [u2, u1] >>= fun _ => pure Flow.next) _ _ _
  refine wpAny_bind (assignInOrder_cons (wpAny_bindName (store_ok I3 hN hj (.inl hy) rw' (fun s2 I4 => ?_) (.inr hy))))
  refine assignInOrder_cons (wpAny_bindName (store_ok I4 hN hi (.inl hx) rv (fun s3 I5 => assignInOrder_nil (wpAny_pure ?_)) (.inr hx)))
  rw [List.set_comm _ _ (Ne.symm hij)] at I5
  exact ⟨_, H1, I5, q1⟩
/-- name op= e -/
def tAug (i : Nat) (te : TE) (ti : TIp) : TS := fun D σ H => ∃ x, σ[i]? = some (some x) ∧ te σ H fun y H1 => ti x y H1 fun z H2 => D.nx (σ.set i (some z)) H2
theorem ps_aug {i : Nat} {x : Str} {e : Expr} {te : TE} {op : Operator} {ti : TIp} {pos' : Pos} (hN : X.N.Nodup) (hi : X.N[i]? = some x) (hx : Loc X.env.scope x) (he : PE X e te) (ho : PIp X op ti) (hf : X.fn x = true ∨ X.env.scope.names.lookup x = some .local := by first | exact .inl rfl | exact .inr rfl | assumption) :
    PS X (.AugAssign (.Name x pos') op e pos) (tAug i te ti) := by
  intro pins s σ H D I h
  obtain ⟨v, e1, h⟩ := h
  obtain ⟨m, hn, hl⟩ := I.loc
  have vis : Vis X.env.scope x := by rcases hx with k | k; exact .inl k; exact .inr (.inl k)
  obtain ⟨u, r, l⟩ := hl i x v hi e1 vis
  refine wpAny_AugAssign_Name ?_
  have go : wpAny (model X.prog X.w) X.A (eval e X.env) (fun w s₂ => wpAny (model X.prog X.w) X.A (inplaceOp op u w) (fun r s₃ => wpAny (model X.prog X.w) X.A (storeName X.env x r) (fun _ => SP X pins D .next) X.xe s₃) X.xe s₂) X.xe s := by
    refine thn (he pins s σ H _ I h) fun w s1 ⟨y, H1, I1, r1, q1⟩ => ?_
    refine thn (ho pins s1 σ H1 v y u w _ I1 r r1 q1) fun z s2 ⟨zv, H2, I2, r2, q2⟩ => ?_
    exact store_ok I2 hN hi hx r2 (fun s3 I3 => ⟨_, H2, I3, q2⟩) hf
  rcases l with ⟨hk, hm⟩ | ⟨hk, c, hc, hcell⟩
  · exact wpAny_loadName_local I.ok.kind hk hn hm go
  · rcases hk with hk | hk
    · exact wpAny_loadName_cell I.ok.kind hk hc hcell go
    · rcases hx with k | k
      · have : X.env.scope.names.lookup x = some .free := hk
        rw [k] at this; cases this
      · have : X.env.scope.names.lookup x = some .free := hk
        rw [k] at this; cases this
/-- o[i] op= e -/
def tAugS (to ti te : TE) (tget : V → V → Hp → VK → Prop) (tip : TIp) (tset : TSet) : TS := fun D σ H => to σ H fun o H1 => ti σ H1 fun i H2 => tget o i H2 fun x H3 => te σ H3 fun y H4 => tip x y H4 fun z H5 => tset o i z H5 fun H6 => D.nx σ H6
/-- o[i], by values -/
def PGet (X : Cx) (t : V → V → Hp → VK → Prop) : Prop :=
  ∀ (pins : List (Addr × Obj)) (s : Shared) (σ : St) (H : Hp) (o i : V) (ov iv : Value) (Q : VK), Inv X pins σ H s → RelV o ov → RelV i iv → t o i H Q →
    wpAny (model X.prog X.w) X.A (getItem ov iv) (EP X pins σ Q) X.xe s
theorem ps_augS {o i e : Expr} {to ti te : TE} {tget : V → V → Hp → VK → Prop} {tip : TIp} {tset : TSet} {op : Operator} {tpos : Pos} (ho : PE X o to) (hi : PE X i ti) (hg : PGet X tget) (he : PE X e te) (hp : PIp X op tip) (hs : PSet X tset)
    (ha : ∀ ov iv new, augStore i ov iv new = (do holding [new, ov, iv] (setItem ov iv new); release [new, ov, iv] []; pure .next) := by intros; rfl) : PS X (.AugAssign (.Subscript o i tpos) op e pos) (tAugS to ti te tget tip tset) := by
  intro pins s σ H D I h
  refine wpAny_AugAssign_SubscriptAny (thn (ho pins s σ H _ I h) fun ov s1 ⟨x1, H1, I1, r1, q1⟩ => ?_) ha
  refine thn (hi pins s1 σ H1 _ I1 q1) fun iv s2 ⟨x2, H2, I2, r2, q2⟩ => ?_
  refine thn (hg pins s2 σ H2 x1 x2 ov iv _ I2 r1 r2 q2) fun old s3 ⟨x3, H3, I3, r3, q3⟩ => ?_
  refine thn (he pins s3 σ H3 _ I3 q3) fun v s4 ⟨x4, H4, I4, r4, q4⟩ => ?_
  refine thn (hp pins s4 σ H4 x3 x4 old v _ I4 r3 r4 q4) fun new s5 ⟨x5, H5, I5, r5, q5⟩ => ?_
  exact thn (hs pins s5 σ H5 x1 x2 x5 ov iv new _ I5 r1 r2 r5 q5) fun _ s6 ⟨H6, I6, q6⟩ => ⟨σ, H6, I6, q6⟩
/-- ints -/
def ipI (f : Int → Int → Int) : TIp := fun x y H Q => ∃ i j, x = .int i ∧ y = .int j ∧ Q (.int (f i j)) H
theorem ip_add : PIp X .Add (ipI fun i j => i + j) := by
  intro pins s σ H x y v u Q I r1 r2 h
  obtain ⟨i, j, e1, e2, q⟩ := h
  subst e1; subst e2
  obtain ⟨t, rfl⟩ := r1
  obtain ⟨t', rfl⟩ := r2
  exact iadd_int ⟨.int _, H, I.tok _, ⟨_, rfl⟩, q⟩
theorem ip_sub : PIp X .Sub (ipI fun i j => i - j) := by
  intro pins s σ H x y v u Q I r1 r2 h
  obtain ⟨i, j, e1, e2, q⟩ := h
  subst e1; subst e2
  obtain ⟨t, rfl⟩ := r1
  obtain ⟨t', rfl⟩ := r2
  exact isub_int ⟨.int _, H, I.tok _, ⟨_, rfl⟩, q⟩
end

/-! ### while -/
section
variable {X : Cx} {pos : Pos}
/-- the invariant W with its measure -/
def tWhile (c : TT) (tb : TS) : TS := fun D σ H => ∃ W : Nat → St → Hp → Prop, (∃ m, W m σ H) ∧ ∀ m σ H, W m σ H →
  c σ H fun b H1 => if b = true then ∃ N : St → Hp → Prop, (∀ σ' H', N σ' H' → ∃ m', m' < m ∧ W m' σ' H') ∧ tb { D with nx := N, ct := N, bk := D.nx } σ H1 else D.nx σ H1
theorem ps_while {c : Expr} {body : List Stmt} {tc : TT} {tb : TS} (hp : PassesOwn (model X.prog X.w) X.A X.env X.xe) (hc : PT X c tc) (hb : PSs X body tb) : PS X (.While c body [] pos) (tWhile tc tb) := by
  intro pins s σ H D I h
  obtain ⟨W, ⟨m0, w0⟩, turn⟩ := h
  refine wpAny_While (codeAny_whileLoop (fun n s' => ∃ σ' H', Inv X pins σ' H' s' ∧ W n σ' H') ?_ m0 ⟨σ, H, I, w0⟩)
  rintro n s1 ⟨σ1, H1, I1, w1⟩
  refine wpAny_passesOwn hp (thn (hc pins s1 σ1 H1 _ I1 (turn n σ1 H1 w1)) fun b s2 ⟨H2, I2, q2⟩ => ?_)
  cases b with
  | true =>
    obtain ⟨N, hN, q2⟩ := q2
    rw [if_pos rfl]
    refine wpAny_passesOwn hp (thn (hb pins s2 σ1 H2 _ I2 q2) fun f s3 q3 => ?_)
    cases f with
    | next =>
      obtain ⟨σ3, H3, I3, n3⟩ := q3
      obtain ⟨m', hm, w3⟩ := hN σ3 H3 n3
      exact ⟨m', hm, σ3, H3, I3, w3⟩
    | cont =>
      obtain ⟨σ3, H3, I3, n3⟩ := q3
      obtain ⟨m', hm, w3⟩ := hN σ3 H3 n3
      exact ⟨m', hm, σ3, H3, I3, w3⟩
    | brk => exact q3
    | ret v => exact q3
  | false =>
    rw [if_neg Bool.false_ne_true]
    exact wpAny_execs_nil ⟨σ1, H2, I2, q2⟩
end

/-! ### what a loop or a comprehension walks -/
/-- at turn i: it yields x (the heap may grow), or it stops -/
structure It where
  go : Nat → Hp → Prop
  yld : Nat → Hp → V → Hp → Prop
  stop : Nat → Hp → Prop
/-- the iterator's own objects may turn: they are not the frame's, not pinned, younger than the entry (or a comprehension's own) -/
def FpOk (X : Cx) (pins : List (Addr × Obj)) (H : Hp) (b : Addr) : Prop :=
  H b = none ∧ b ≠ X.env.locals ∧ b ∉ X.fs ∧ (b ∈ X.ex ∨ X.s₀.heap.objs.size ≤ b) ∧ (∀ x c, X.env.cells.lookup x = some c → c ≠ b) ∧ ∀ p ∈ X.pn ++ pins, p.1 ≠ b
theorem Inv.fpOk {X : Cx} {pins : List (Addr × Obj)} {σ : St} {H H' : Hp} {s : Shared} {b : Addr} (I : Inv X pins σ H s) (hb : s.heap.objs.size ≤ b) (hn : H' b = none) : FpOk X pins H' b := by
  refine ⟨hn, Nat.ne_of_gt (Nat.lt_of_lt_of_le I.lt hb), I.nofs hb, .inr (Nat.le_trans I.sz hb), fun x c e z => ?_, fun p hp z => ?_⟩
  · obtain ⟨v, q⟩ := I.cell x c e
    exact absurd (Nat.lt_of_lt_of_le q.lt (by rw [z]; exact hb)) (Nat.lt_irrefl _)
  · exact absurd (Nat.lt_of_lt_of_le (Heap.lt_size (I.pin p hp).1) (by rw [z]; exact hb)) (Nat.lt_irrefl _)
structure Turn (P : Program) (w : World) (K : PySem.W.Frag) (tg : Expr) (J : It) (fp : List Addr) (it : Addr) (tn : Nat → Heap → Prop) : Prop where
  mem : it ∈ fp
  obj : ∀ i h, tn i h → ∀ b ∈ fp, ∃ o, h.get? b = some o ∧ ∀ v, o.data ≠ .cell v
  keep : ∀ i h h', tn i h → (∀ b ∈ fp, ∀ o, h.get? b = some o → h'.get? b = some o) → tn i h'
  item : ∀ (X : Cx), X.prog = P → X.w = w → X.K = K → X.calm = true → ∀ (i : Nat) (pins : List (Addr × Obj)) (s : Shared) (σ : St) (H : Hp) (E : Value → Shared → Prop), Inv X pins σ H s → (∀ b ∈ fp, FpOk X pins H b) → tn i s.heap → J.go i H →
    wpAny (model P w) X.A (pyNext (.ref it)) (fun r s1 => ∃ u, r = some u ∧
      wpAny (model P w) X.A (letOwnedTupleGo tg (.ref it) u) (fun _ s2 => ∃ x H', Inv X pins σ H' s2 ∧ RelV x u ∧ J.yld i H x H' ∧ tn (i + 1) s2.heap ∧ ∀ b ∈ fp, H' b = none) E s1) E s
  done : ∀ (X : Cx), X.prog = P → X.w = w → X.K = K → X.calm = true → ∀ (i : Nat) (pins : List (Addr × Obj)) (s : Shared) (σ : St) (H : Hp) (E : Value → Shared → Prop), Inv X pins σ H s → (∀ b ∈ fp, FpOk X pins H b) → tn i s.heap → J.stop i H →
    wpAny (model P w) X.A (pyNext (.ref it)) (fun r s1 => r = none ∧ Inv X pins σ H s1) E s
  self : ∀ (A : Around) (i : Nat) (s : Shared) (Q : Value → Shared → Prop) (E : Value → Shared → Prop), tn i s.heap → Q (.ref it) s → wpAny (model P w) A (pyIter (.ref it)) Q E s
abbrev TI := St → Hp → (It → Hp → Prop) → Prop
/-- an iterator has come -/
def PIE (X : Cx) (pins : List (Addr × Obj)) (σ : St) (tg : Expr) (R : It → Hp → Prop) (itv : Value) (s2 : Shared) : Prop :=
  ∃ (it : Addr) (fp : List Addr) (tn : Nat → Heap → Prop) (J : It) (H' : Hp), itv = .ref it ∧ Inv X pins σ H' s2 ∧ Turn X.prog X.w X.K tg J fp it tn ∧ tn 0 s2.heap ∧ (∀ b ∈ fp, FpOk X pins H' b) ∧ R J H'
def PI (X : Cx) (tg iter : Expr) (wi : TI) : Prop :=
  ∀ (pins : List (Addr × Obj)) (s : Shared) (σ : St) (H : Hp) (R : It → Hp → Prop), Inv X pins σ H s → wi σ H R →
    wpAny (model X.prog X.w) X.A (eval iter X.env) (fun v s1 => wpAny (model X.prog X.w) X.A (pyIter v) (PIE X pins σ tg R) X.xe s1) X.xe s

/-- the step ahead of the store is nothing for an iterator that keeps no tuple -/
theorem go_of {M : Model} {A : Around} {E : Value → Shared → Prop} {s : Shared} {tg : Expr} {it : Addr} {u : Value} {o : Obj} {n : String} {vs : Array Value} {Q : Unit → Shared → Prop} (ho : s.heap.get? it = some o) (hc : o.cls = .type n) (hd : o.data = .fields vs)
    (hn : ["enumerate", "zip", "dict_itemiterator", "dict_reverseitemiterator", "odict_iterator", "itertools.zip_longest", "itertools.pairwise"].contains n = false) (hQ : Q () s) : wpAny M A (letOwnedTupleGo tg (.ref it) u) Q E s := by
  unfold letOwnedTupleGo
  cases tg <;> first
    | exact wpAny_pure hQ
    | (cases u <;> first
        | exact wpAny_pure hQ
        | (refine wpAny_bind (wpAny_load ho ?_)
           rw [hc, hd]
           show wpAny M A (if (["enumerate", "zip", "dict_itemiterator", "dict_reverseitemiterator", "odict_iterator", "itertools.zip_longest", "itertools.pairwise"].contains n && vs[0]? == some (rawInt _)) = true then _ else _) Q E s
           rw [if_neg (by intro h; rw [hn, Bool.false_and] at h; cases h)]
           exact wpAny_pure hQ))

/-- the list at a, as it stands at each turn (a loop may append to it) -/
def Itl (K : PySem.W.Frag) (a : Addr) : It :=
  ⟨fun i H => ∃ xs x, SqL K H a xs ∧ xs[i]? = some x, fun i H x H' => H' = H ∧ ∀ xs, SqL K H a xs → xs[i]? = some x, fun i H => ∃ xs, SqL K H a xs ∧ xs.length ≤ i⟩
def Itt (K : PySem.W.Frag) (a : Addr) : It :=
  ⟨fun i H => ∃ xs x, SqT K H a xs ∧ xs[i]? = some x, fun i H x H' => H' = H ∧ ∀ xs, SqT K H a xs → xs[i]? = some x, fun i H => ∃ xs, SqT K H a xs ∧ xs.length ≤ i⟩
/-- lo, lo + 1, .. (n of them) -/
def Itr (lo : Int) (n : Nat) : It := ⟨fun i _ => i < n, fun i H x H' => H' = H ∧ x = .int (lo + i), fun i _ => n ≤ i⟩
theorem turn_list {P : Program} {w : World} {K : PySem.W.Frag} {tg : Expr} (a it : Addr) : Turn P w K tg (Itl K a) [it] it (fun i h => h.IsListIter it a i) where
  mem := by simp
  obj := fun i h st b hb => by
    have e : b = it := by simpa using hb
    subst e
    obtain ⟨o, e, c, d⟩ := st
    exact ⟨o, e, fun v z => by rw [d] at z; cases z⟩
  keep := fun i h h' st k => st.at fun o e => k it (by simp) o e
  item := by
    intro X hP hw hK hc i pins s σ H E I hf st hg
    subst hP hw hK
    obtain ⟨xs, x, hq, hx⟩ := hg
    obtain ⟨its, rv, p, hz⟩ := I.list hq
    obtain ⟨u, hu, ru⟩ := rv.get hx
    obtain ⟨f0, f1, f2, f3, f4, f5⟩ := hf it (by simp)
    refine wpAny_pyNext_list_item st p.isList (x := u) (by simpa using hu) fun h' st' sb => ?_
    have I1 : Inv X pins σ H { s with heap := h' } := I.turned (t' := s.toks) (fun b o hb e => (sb.2 b hb).trans e) f0 f1 f3 f4 f5
    obtain ⟨o, e, c, d⟩ := id st'
    exact ⟨u, rfl, go_of (s := { s with heap := h' }) e c d (by decide) ⟨x, H, I1, ru, ⟨rfl, fun ys hy => by rw [I.list_inj hy hq]; exact hx⟩, st', fun b hb => (hf b hb).1⟩⟩
  done := by
    intro X hP hw hK hc i pins s σ H E I hf st hg
    subst hP hw hK
    obtain ⟨xs, hq, hx⟩ := hg
    obtain ⟨its, rv, p, hz⟩ := I.list hq
    obtain ⟨f0, f1, f2, f3, f4, f5⟩ := hf it (by simp)
    have hl := rv.length
    exact wpAny_pyNext_list_end (I.ok.hd hc) st p.isList (by simp; omega) fun h' eb => ⟨rfl, I.turned (t' := s.toks) (fun b o hb e => eb b o hb e) f0 f1 f3 f4 f5⟩
  self := fun _ _ _ _ _ st h => wpAny_pyIter_listiter st h
theorem turn_tuple {P : Program} {w : World} {K : PySem.W.Frag} {tg : Expr} (a it : Addr) : Turn P w K tg (Itt K a) [it] it (fun i h => h.IsTupleIter it a i) where
  mem := by simp
  obj := fun i h st b hb => by
    have e : b = it := by simpa using hb
    subst e
    obtain ⟨o, e, c, d⟩ := st
    exact ⟨o, e, fun v z => by rw [d] at z; cases z⟩
  keep := fun i h h' st k => st.at fun o e => k it (by simp) o e
  item := by
    intro X hP hw hK hc i pins s σ H E I hf st hg
    subst hP hw hK
    obtain ⟨xs, x, hq, hx⟩ := hg
    obtain ⟨its, rv, p, hz⟩ := I.tuple hq
    obtain ⟨u, hu, ru⟩ := rv.get hx
    obtain ⟨f0, f1, f2, f3, f4, f5⟩ := hf it (by simp)
    refine wpAny_pyNext_tuple_item st (show s.heap.IsTuple a its.toArray from p) (x := u) (by simpa using hu) fun h' st' sb => ?_
    have I1 : Inv X pins σ H { s with heap := h' } := I.turned (t' := s.toks) (fun b o hb e => (sb.2 b hb).trans e) f0 f1 f3 f4 f5
    obtain ⟨o, e, c, d⟩ := id st'
    exact ⟨u, rfl, go_of (s := { s with heap := h' }) e c d (by decide) ⟨x, H, I1, ru, ⟨rfl, fun ys hy => by rw [I.tuple_inj hy hq]; exact hx⟩, st', fun b hb => (hf b hb).1⟩⟩
  done := by
    intro X hP hw hK hc i pins s σ H E I hf st hg
    subst hP hw hK
    obtain ⟨xs, hq, hx⟩ := hg
    obtain ⟨its, rv, p, hz⟩ := I.tuple hq
    obtain ⟨f0, f1, f2, f3, f4, f5⟩ := hf it (by simp)
    have hl := rv.length
    exact wpAny_pyNext_tuple_end (I.ok.hd hc) st (show s.heap.IsTuple a its.toArray from p) (by simp; omega) fun h' eb => ⟨rfl, I.turned (t' := s.toks) (fun b o hb e => eb b o hb e) f0 f1 f3 f4 f5⟩
  self := fun _ _ _ _ _ st h => wpAny_pyIter_tupleiter st h
theorem turn_range {P : Program} {w : World} {K : PySem.W.Frag} {tg : Expr} (it : Addr) (lo : Int) (n : Nat) : Turn P w K tg (Itr lo n) [it] it (fun i h => IsRangeIter h it (lo + (i : Nat) * 1) ((n : Int) - (i : Nat)) 1) where
  mem := by simp
  obj := fun i h st b hb => by
    have e : b = it := by simpa using hb
    subst e
    exact ⟨_, st, fun v z => by
      have z' : Data.fields _ = Data.cell v := z
      cases z'⟩
  keep := fun i h h' st k => k it (by simp) _ st
  item := by
    intro X hP hw hK hc i pins s σ H E I hf st hg
    subst hP hw hK
    obtain ⟨f0, f1, f2, f3, f4, f5⟩ := hf it (by simp)
    have W := Walks.range (prog := X.prog) (w := X.w) (I.ok.hd hc) it lo 1 n
    refine W.item i s _ _ hg st fun v h' tk hv st' kk => ?_
    obtain ⟨t, rfl⟩ := hv
    have I1 : Inv X pins σ H { s with heap := h', toks := tk } := I.turned (fun b o hb e => kk b o (by simpa using hb) e) f0 f1 f3 f4 f5
    refine ⟨_, rfl, go_of (s := { s with heap := h', toks := tk }) (n := "range_iterator") st' rfl rfl (by decide) ⟨.int (lo + i), H, I1, ⟨t, ?_⟩, ⟨rfl, rfl⟩, st', fun b hb => (hf b hb).1⟩⟩
    rw [Int.mul_one]
  done := by
    intro X hP hw hK hc i pins s σ H E I hf st hg
    subst hP hw hK
    obtain ⟨f0, f1, f2, f3, f4, f5⟩ := hf it (by simp)
    exact wpAny_pyNext_range_end (I.ok.hd hc) st (by have : n ≤ i := hg; omega) fun h' eb => ⟨rfl, I.turned (t' := s.toks) (fun b o hb e => eb b o hb e) f0 f1 f3 f4 f5⟩
  self := fun _ _ _ _ _ st h => wpAny_pyIter_rangeiter st h
end L2

namespace L2
open PySem PySem.Spec PyProof.Rows
section
variable {X : Cx} {tg : Expr}
def iList (K : PySem.W.Frag) (tl : TE) : TI := fun σ H R => tl σ H fun x H1 => ∃ a, x = .ref a ∧ (∃ xs, SqL K H1 a xs) ∧ R (Itl K a) H1
def iTup (K : PySem.W.Frag) (tl : TE) : TI := fun σ H R => tl σ H fun x H1 => ∃ a, x = .ref a ∧ (∃ xs, SqT K H1 a xs) ∧ R (Itt K a) H1
theorem pi_list {l : Expr} {tl : TE} (hl : PE X l tl) : PI X tg l (iList X.K tl) := by
  intro pins s σ H R I h
  refine thn (hl pins s σ H _ I h) fun v s1 ⟨x, H1, I1, r1, q1⟩ => ?_
  obtain ⟨a, e, ⟨xs, hq⟩, q⟩ := q1
  subst e
  cases r1
  obtain ⟨its, rv, p, hz⟩ := I1.list hq
  refine wpAny_pyIter_list p.isList ?_
  refine ⟨s1.heap.objs.size, [s1.heap.objs.size], _, _, H1, rfl, I1.kept (t' := s1.toks) fun b o e => Heap.get?_push_of_some _ e, turn_list a _, ⟨_, Heap.get?_push_size _ rfl, rfl, rfl⟩, fun b hb => ?_, q⟩
  have e : b = s1.heap.objs.size := by simpa using hb
  subst e
  exact I1.fpOk (Nat.le_refl _) (I1.hok.fresh (Nat.le_refl _))
theorem pi_tup {l : Expr} {tl : TE} (hl : PE X l tl) : PI X tg l (iTup X.K tl) := by
  intro pins s σ H R I h
  refine thn (hl pins s σ H _ I h) fun v s1 ⟨x, H1, I1, r1, q1⟩ => ?_
  obtain ⟨a, e, ⟨xs, hq⟩, q⟩ := q1
  subst e
  cases r1
  obtain ⟨its, rv, p, hz⟩ := I1.tuple hq
  refine wpAny_pyIter_tuple (show s1.heap.IsTuple a its.toArray from p) ?_
  refine ⟨s1.heap.objs.size, [s1.heap.objs.size], _, _, H1, rfl, I1.kept (t' := s1.toks) fun b o e => Heap.get?_push_of_some _ e, turn_tuple a _, ⟨_, Heap.get?_push_size _ rfl, rfl, rfl⟩, fun b hb => ?_, q⟩
  have e : b = s1.heap.objs.size := by simpa using hb
  subst e
  exact I1.fpOk (Nat.le_refl _) (I1.hok.fresh (Nat.le_refl _))
/-- a range object just made, walked -/
theorem range_it {pins : List (Addr × Obj)} {σ : St} {H : Hp} {s : Shared} {R : It → Hp → Prop} {E : Value → Shared → Prop} {lo hi : Int} {t u v : Tok} {tk : Nat} (I : Inv X pins σ H s) (h1 : -(2 ^ 62) ≤ lo) (h2 : lo < 2 ^ 62) (h3 : -(2 ^ 62) ≤ hi) (h4 : hi < 2 ^ 62)
    (q : R (Itr lo (hi - lo).toNat) H) : wpAny (model X.prog X.w) X.A (pyIter (.ref s.heap.objs.size)) (PIE X pins σ tg R) E { s with heap := s.heap.push { cls := .type "range", data := .fields #[.int lo t, .int hi u, .int 1 v] }, toks := tk } := by
  refine wpAny_pyIter_range (IsRange.new ..) (small_one h1 h2 h3 h4) ?_
  have I1 : Inv X pins σ H { s with heap := s.heap.push { cls := .type "range", data := .fields #[.int lo t, .int hi u, .int 1 v] }, toks := tk } := I.kept fun b o e => Heap.get?_push_of_some _ e
  refine ⟨(s.heap.push { cls := .type "range", data := .fields #[.int lo t, .int hi u, .int 1 v] }).objs.size, [(s.heap.push { cls := .type "range", data := .fields #[.int lo t, .int hi u, .int 1 v] }).objs.size], _, _, H, rfl,
    I1.kept (t' := tk) fun b o e => Heap.get?_push_of_some _ e, turn_range _ lo (hi - lo).toNat, ?_, fun b hb => ?_, q⟩
  · have e1 : lo + ((0 : Nat) : Int) * 1 = lo := by simp
    have e2 : (((hi - lo).toNat : Nat) : Int) - ((0 : Nat) : Int) = Builtin.Range.rangeSize lo hi 1 := by rw [rangeSize_one]; split <;> omega
    show IsRangeIter _ _ (lo + ((0 : Nat) : Int) * 1) ((((hi - lo).toNat : Nat) : Int) - ((0 : Nat) : Int)) 1
    rw [e1, e2]
    exact Heap.get?_push_size _ rfl
  · have e : b = (s.heap.push { cls := .type "range", data := .fields #[.int lo t, .int hi u, .int 1 v] }).objs.size := by simpa using hb
    subst e
    exact I1.fpOk (Nat.le_refl _) (I1.hok.fresh (Nat.le_refl _))
def iRng1 (ta : TA) : TI := fun σ H R => ta σ H fun vs H1 => ∃ j : Int, vs = [.int j] ∧ -(2 ^ 62) ≤ j ∧ j < 2 ^ 62 ∧ R (Itr 0 j.toNat) H1
def iRng2 (ta : TA) : TI := fun σ H R => ta σ H fun vs H1 => ∃ i j : Int, vs = [.int i, .int j] ∧ (-(2 ^ 62) ≤ i ∧ i < 2 ^ 62 ∧ -(2 ^ 62) ≤ j ∧ j < 2 ^ 62) ∧ R (Itr i (j - i).toNat) H1
theorem pi_range1 {a : Expr} {ta : TA} {p pos : Pos} (hg : Gl X "range") (hm : X.mg "range" = none) (ha : PA X [a] ta) (hs : starEach [a] X.env = [(false, eval a X.env)] := by rfl) : PI X tg (.Call (.Name "range" p) [a] [] pos) (iRng1 ta) := by
  intro pins s σ H R I h
  refine Call_ (ld_blt I hg hm boot_range (PyProof.Rows.callWith_type1 (thn (ha pos pins s σ H _ I h) fun us s1 ⟨vs, H1, I1, r1, q1⟩ => ?_) hs rfl))
  obtain ⟨j, e, q1, q2, q⟩ := q1
  subst e
  cases r1 with
  | cons r rr =>
    cases rr
    obtain ⟨t, rfl⟩ := r
    exact call_range_1 (range_it I1 (by omega) (by omega) q1 q2 (by simpa using q))
theorem pi_range2 {a b : Expr} {ta : TA} {p pos : Pos} (hg : Gl X "range") (hm : X.mg "range" = none) (ha : PA X [a, b] ta) (hs : starEach [a, b] X.env = [(false, eval a X.env), (false, eval b X.env)] := by rfl) (hs2 : starEach [b] X.env = [(false, eval b X.env)] := by rfl) :
    PI X tg (.Call (.Name "range" p) [a, b] [] pos) (iRng2 ta) := by
  intro pins s σ H R I h
  refine Call_ (ld_blt I hg hm boot_range (PyProof.Rows.callWith_type1 (thn (ha pos pins s σ H _ I h) fun us s1 ⟨vs, H1, I1, r1, q1⟩ => ?_) (by rw [hs, hs2]) (by rw [hs2]; rfl)))
  obtain ⟨i, j, e, ⟨q1, q2, q3, q4⟩, q⟩ := q1
  subst e
  cases r1 with
  | cons r rr =>
    cases rr with
    | cons r' rr =>
      cases rr
      obtain ⟨t, rfl⟩ := r
      obtain ⟨t', rfl⟩ := r'
      exact call_range_2 (range_it I1 q1 q2 q3 q4 q)

/-! ### for -/
/-- W: the invariant by the turn and a measure; N: what the body is to reach -/
def tFor (wi : TI) (g : TG) (tb : TS) : TS := fun D σ H => wi σ H fun J H1 => ∃ W : Nat → Nat → St → Hp → Prop, (∃ m, W 0 m σ H1) ∧ ∀ i m σ H, W i m σ H →
  (J.stop i H ∧ D.nx σ H) ∨ (J.go i H ∧ ∃ N : St → Hp → Prop, (∀ σ' H', N σ' H' → ∃ m', m' < m ∧ W (i + 1) m' σ' H') ∧ ∀ x H', J.yld i H x H' → g x σ H' fun σ2 H2 => tb { D with nx := N, ct := N, bk := D.nx } σ2 H2)
/-- the records at fp as they stand -/
def pinsAt (fp : List Addr) (h : Heap) : List (Addr × Obj) := fp.filterMap fun b => (h.get? b).map fun o => (b, o)
theorem mem_pinsAt {fp : List Addr} {h : Heap} {b : Addr} {o : Obj} (hb : b ∈ fp) (e : h.get? b = some o) : (b, o) ∈ pinsAt fp h := List.mem_filterMap.mpr ⟨b, hb, by rw [e]; rfl⟩
theorem of_pinsAt {fp : List Addr} {h : Heap} {p : Addr × Obj} (hp : p ∈ pinsAt fp h) : p.1 ∈ fp ∧ h.get? p.1 = some p.2 := by
  obtain ⟨b, hb, e⟩ := List.mem_filterMap.mp hp
  cases q : h.get? b with
  | none => rw [q] at e; cases e
  | some o =>
    rw [q] at e
    have e' : (b, o) = p := Option.some.inj e
    subst e'
    exact ⟨hb, q⟩
theorem Inv.pinned {pins : List (Addr × Obj)} {σ : St} {H : Hp} {s : Shared} {fp : List Addr} (I : Inv X pins σ H s) (hf : ∀ b ∈ fp, FpOk X pins H b) (ho : ∀ b ∈ fp, ∃ o, s.heap.get? b = some o ∧ ∀ v, o.data ≠ .cell v) : Inv X (pins ++ pinsAt fp s.heap) σ H s :=
  I.pins_of fun p hp => (List.mem_append.mp hp).elim (fun z => I.pin p (List.mem_append_right _ z)) fun z => by
    obtain ⟨hb, e⟩ := of_pinsAt z
    obtain ⟨f0, f1, f2, _⟩ := hf p.1 hb
    obtain ⟨o, e', d⟩ := ho p.1 hb
    rw [e] at e'; cases e'
    exact ⟨e, f0, f1, f2, d⟩
theorem Inv.unpinned {pins pl : List (Addr × Obj)} {σ : St} {H : Hp} {s : Shared} (I : Inv X (pins ++ pl) σ H s) : Inv X pins σ H s := I.pins_of fun p hp => I.pin p (List.mem_append_right _ (List.mem_append_left _ hp))
theorem ps_for {iter : Expr} {body : List Stmt} {wi : TI} {g : TG} {tb : TS} {pos : Pos} (hp : PassesOwn (model X.prog X.w) X.A X.env X.xe) (hc : X.calm = true) (hi : PI X tg iter wi) (hg : PG X tg g) (hb : PSs X body tb)
    (hs : ∀ x, foldedSetIterable iter X.env x = pure x := by intro _; rfl) : PS X (.For tg iter body [] pos) (tFor wi g tb) := by
  intro pins s σ H D I h
  refine wpAny_For (thn (hi pins s σ H _ I h) fun v s1 h1 => thn h1 fun itv s2 h2 => ?_) hs
  obtain ⟨it, fp, tn, J, H2, e, I2, T, st2, f2, W, ⟨m0, w0⟩, turn⟩ := h2
  subst e
  -- what stays true of the iterator's objects through the loop
  have stat : ∀ {H' : Hp}, (∀ b ∈ fp, H' b = none) → ∀ b ∈ fp, FpOk X pins H' b := fun hn b hb => ⟨hn b hb, (f2 b hb).2⟩
  refine codeAny_forLoop_any (fun n s' => ∃ i σ' H', Inv X pins σ' H' s' ∧ tn i s'.heap ∧ (∀ b ∈ fp, H' b = none) ∧ W i n σ' H') ?_ m0 ⟨0, σ, H2, I2, st2, fun b hb => (f2 b hb).1, w0⟩
  rintro n s3 ⟨i, σ3, H3, I3, st3, fr3, w3⟩
  rcases turn i n σ3 H3 w3 with ⟨stop, qn⟩ | ⟨go, N, hN, step⟩
  · refine wpAny_passesOwn hp (thn (T.done X rfl rfl rfl hc i pins s3 σ3 H3 X.xe I3 (stat fr3) st3 stop) fun r s4 ⟨hr, I4⟩ => ?_)
    subst hr
    exact wpAny_execs_nil ⟨σ3, H3, I4, qn⟩
  · refine wpAny_passesOwn hp (thn (T.item X rfl rfl rfl hc i pins s3 σ3 H3 X.xe I3 (stat fr3) st3 go) fun r s4 ⟨u, hr, h4⟩ => ?_)
    subst hr
    refine wpAny_passesOwn hp (thn h4 fun _ s5 ⟨x, H5, I5, r5, y5, st5, fr5⟩ => ?_)
    have I5' := I5.pinned (stat fr5) (T.obj _ _ st5)
    refine wpAny_passesOwn hp (thn (hg _ s5 σ3 H5 x u _ I5' r5 (step x H5 y5)) fun _ s6 ⟨σ6, H6, I6, q6⟩ => ?_)
    refine wpAny_passesOwn hp (thn (hb _ s6 σ6 H6 _ I6 q6) fun f s7 q7 => ?_)
    have again : ∀ {σ7 : St} {H7 : Hp}, Inv X (pins ++ pinsAt fp s5.heap) σ7 H7 s7 → N σ7 H7 → ∃ m, m < n ∧ ∃ i σ' H', Inv X pins σ' H' s7 ∧ tn i s7.heap ∧ (∀ b ∈ fp, H' b = none) ∧ W i m σ' H' := fun {σ7 H7} I7 n7 => by
      obtain ⟨m', hm, w7⟩ := hN σ7 H7 n7
      refine ⟨m', hm, i + 1, σ7, H7, I7.unpinned, T.keep _ _ _ st5 fun b hb o e => (I7.pin (b, o) (List.mem_append_right _ (List.mem_append_right _ (mem_pinsAt hb e)))).1, fun b hb => ?_, w7⟩
      obtain ⟨o, e, d⟩ := T.obj _ _ st5 b hb
      exact (I7.pin (b, o) (List.mem_append_right _ (List.mem_append_right _ (mem_pinsAt hb e)))).2.1
    cases f with
    | next => obtain ⟨σ7, H7, I7, n7⟩ := q7; exact again I7 n7
    | cont => obtain ⟨σ7, H7, I7, n7⟩ := q7; exact again I7 n7
    | brk => obtain ⟨σ7, H7, I7, q7⟩ := q7; exact ⟨σ7, H7, I7.unpinned, q7⟩
    | ret v => obtain ⟨x7, σ7, H7, I7, r7, q7⟩ := q7; exact ⟨x7, σ7, H7, I7.unpinned, r7, q7⟩
end

/-! ### the forms one uses -/
/-- over a list that the body leaves as it is -/
theorem for_list {K : PySem.W.Frag} {a : Addr} {xs : List V} {g : TG} {tb : TS} {D : Ends} {σ : St} {H : Hp} (Pv : Nat → St → Hp → Prop) (h0 : Pv 0 σ H) (hl : ∀ i σ H, i ≤ xs.length → Pv i σ H → SqL K H a xs)
    (hs : ∀ i x σ H, xs[i]? = some x → Pv i σ H → g x σ H fun σ2 H2 => tb { D with nx := Pv (i + 1), ct := Pv (i + 1), bk := D.nx } σ2 H2) (hd : ∀ σ H, Pv xs.length σ H → D.nx σ H) :
    ∃ W : Nat → Nat → St → Hp → Prop, (∃ m, W 0 m σ H) ∧ ∀ i m σ H, W i m σ H →
      ((Itl K a).stop i H ∧ D.nx σ H) ∨ ((Itl K a).go i H ∧ ∃ N : St → Hp → Prop, (∀ σ' H', N σ' H' → ∃ m', m' < m ∧ W (i + 1) m' σ' H') ∧ ∀ x H', (Itl K a).yld i H x H' → g x σ H' fun σ2 H2 => tb { D with nx := N, ct := N, bk := D.nx } σ2 H2) := by
  refine ⟨fun i m σ H => m = xs.length - i ∧ i ≤ xs.length ∧ Pv i σ H, ⟨xs.length, by simp, Nat.zero_le _, h0⟩, ?_⟩
  rintro i m σ H ⟨rfl, hi, p⟩
  have q := hl i σ H hi p
  by_cases hlt : i < xs.length
  · refine .inr ⟨⟨xs, xs[i], q, by simp [hlt]⟩, Pv (i + 1), fun σ' H' p' => ⟨xs.length - (i + 1), by omega, rfl, hlt, p'⟩, fun x H' y => ?_⟩
    obtain ⟨e, y⟩ := y
    subst e
    exact hs i x σ _ (y xs q) p
  · have e : i = xs.length := by omega
    subst e
    exact .inl ⟨⟨xs, q, Nat.le_refl _⟩, hd σ H p⟩
theorem for_tup {K : PySem.W.Frag} {a : Addr} {xs : List V} {g : TG} {tb : TS} {D : Ends} {σ : St} {H : Hp} (Pv : Nat → St → Hp → Prop) (h0 : Pv 0 σ H) (hl : ∀ i σ H, i ≤ xs.length → Pv i σ H → SqT K H a xs)
    (hs : ∀ i x σ H, xs[i]? = some x → Pv i σ H → g x σ H fun σ2 H2 => tb { D with nx := Pv (i + 1), ct := Pv (i + 1), bk := D.nx } σ2 H2) (hd : ∀ σ H, Pv xs.length σ H → D.nx σ H) :
    ∃ W : Nat → Nat → St → Hp → Prop, (∃ m, W 0 m σ H) ∧ ∀ i m σ H, W i m σ H →
      ((Itt K a).stop i H ∧ D.nx σ H) ∨ ((Itt K a).go i H ∧ ∃ N : St → Hp → Prop, (∀ σ' H', N σ' H' → ∃ m', m' < m ∧ W (i + 1) m' σ' H') ∧ ∀ x H', (Itt K a).yld i H x H' → g x σ H' fun σ2 H2 => tb { D with nx := N, ct := N, bk := D.nx } σ2 H2) := by
  refine ⟨fun i m σ H => m = xs.length - i ∧ i ≤ xs.length ∧ Pv i σ H, ⟨xs.length, by simp, Nat.zero_le _, h0⟩, ?_⟩
  rintro i m σ H ⟨rfl, hi, p⟩
  have q := hl i σ H hi p
  by_cases hlt : i < xs.length
  · refine .inr ⟨⟨xs, xs[i], q, by simp [hlt]⟩, Pv (i + 1), fun σ' H' p' => ⟨xs.length - (i + 1), by omega, rfl, hlt, p'⟩, fun x H' y => ?_⟩
    obtain ⟨e, y⟩ := y
    subst e
    exact hs i x σ _ (y xs q) p
  · have e : i = xs.length := by omega
    subst e
    exact .inl ⟨⟨xs, q, Nat.le_refl _⟩, hd σ H p⟩
theorem for_range {lo : Int} {n : Nat} {g : TG} {tb : TS} {D : Ends} {σ : St} {H : Hp} (Pv : Nat → St → Hp → Prop) (h0 : Pv 0 σ H)
    (hs : ∀ i σ H, i < n → Pv i σ H → g (.int (lo + i)) σ H fun σ2 H2 => tb { D with nx := Pv (i + 1), ct := Pv (i + 1), bk := D.nx } σ2 H2) (hd : ∀ σ H, Pv n σ H → D.nx σ H) :
    ∃ W : Nat → Nat → St → Hp → Prop, (∃ m, W 0 m σ H) ∧ ∀ i m σ H, W i m σ H →
      ((Itr lo n).stop i H ∧ D.nx σ H) ∨ ((Itr lo n).go i H ∧ ∃ N : St → Hp → Prop, (∀ σ' H', N σ' H' → ∃ m', m' < m ∧ W (i + 1) m' σ' H') ∧ ∀ x H', (Itr lo n).yld i H x H' → g x σ H' fun σ2 H2 => tb { D with nx := N, ct := N, bk := D.nx } σ2 H2) := by
  refine ⟨fun i m σ H => m = n - i ∧ i ≤ n ∧ Pv i σ H, ⟨n, by simp, Nat.zero_le _, h0⟩, ?_⟩
  rintro i m σ H ⟨rfl, hi, p⟩
  by_cases hlt : i < n
  · refine .inr ⟨hlt, Pv (i + 1), fun σ' H' p' => ⟨n - (i + 1), by omega, rfl, hlt, p'⟩, fun x H' y => ?_⟩
    obtain ⟨e, y⟩ := y
    subst e y
    exact hs i σ _ hlt p
  · have e : i = n := by omega
    subst e
    exact .inl ⟨Nat.le_refl _, hd σ H p⟩
/-- while, by a word and a measure of the state -/
theorem while_by {c : TT} {tb : TS} {D : Ends} {σ : St} {H : Hp} (Pv : St → Hp → Prop) (μ : St → Hp → Nat) (h0 : Pv σ H)
    (hs : ∀ σ H, Pv σ H → c σ H fun b H1 => if b = true then tb { D with nx := fun σ' H' => Pv σ' H' ∧ μ σ' H' < μ σ H, ct := fun σ' H' => Pv σ' H' ∧ μ σ' H' < μ σ H, bk := D.nx } σ H1 else D.nx σ H1)
    (mono : ∀ σ H Q Q', (∀ b H1, Q b H1 → Q' b H1) → c σ H Q → c σ H Q') : tWhile c tb D σ H := by
  refine ⟨fun m σ H => m = μ σ H ∧ Pv σ H, ⟨_, rfl, h0⟩, ?_⟩
  rintro m σ H ⟨rfl, p⟩
  refine mono σ H _ _ (fun b H1 q => ?_) (hs σ H p)
  cases b with
  | true => exact ⟨_, fun σ' H' ⟨p', l⟩ => ⟨_, l, rfl, p'⟩, q⟩
  | false => exact q
end L2

namespace L2
open PySem PySem.Spec PyProof.Rows

abbrev R2 := V → V → Hp → VK → Prop
/-- a two-place operation on values: f is binaryOp op, inplaceOp op or compareOp op -/
def OpR (X : Cx) (f : Value → Value → Sem Value) (r : R2) : Prop :=
  ∀ (pins : List (Addr × Obj)) (s : Shared) (σ : St) (H : Hp) (x y : V) (v u : Value) (Q : VK), Inv X pins σ H s → RelV x v → RelV y u → r x y H Q →
    wpAny (model X.prog X.w) X.A (f v u) (EP X pins σ Q) X.xe s
/-- a one-place operation -/
def UnR (X : Cx) (f : Value → Sem Value) (r : V → Hp → VK → Prop) : Prop :=
  ∀ (pins : List (Addr × Obj)) (s : Shared) (σ : St) (H : Hp) (x : V) (v : Value) (Q : VK), Inv X pins σ H s → RelV x v → r x H Q →
    wpAny (model X.prog X.w) X.A (f v) (EP X pins σ Q) X.xe s
/-- a call of a value that is known (a builtin, a type) with values -/
def CallR (X : Cx) (f : Value) (r : List V → Hp → VK → Prop) : Prop :=
  ∀ (pins : List (Addr × Obj)) (s : Shared) (σ : St) (H : Hp) (xs : List V) (us : List Value) (Q : VK), Inv X pins σ H s → Vals xs us → r xs H Q →
    wpAny (model X.prog X.w) X.A (call f us) (EP X pins σ Q) X.xe s
/-- a value's truth -/
def TruR (X : Cx) (r : V → Hp → (Bool → Hp → Prop) → Prop) : Prop :=
  ∀ (pins : List (Addr × Obj)) (s : Shared) (σ : St) (H : Hp) (x : V) (v : Value) (Q : Bool → Hp → Prop), Inv X pins σ H s → RelV x v → r x H Q →
    wpAny (model X.prog X.w) X.A (truthy v) (TP X pins σ Q) X.xe s

def tOp (r : R2) (ta tb : TE) : TE := fun σ H Q => ta σ H fun x H1 => tb σ H1 fun y H2 => r x y H2 Q
def tUn (r : V → Hp → VK → Prop) (ta : TE) : TE := fun σ H Q => ta σ H fun x H1 => r x H1 Q
/-- ints in, under C, and a value out -/
def rI (C : Int → Int → Prop) (g : Int → Int → V) : R2 := fun x y H Q => ∃ i j, x = .int i ∧ y = .int j ∧ C i j ∧ Q (g i j) H
def rI0 (g : Int → Int → V) : R2 := fun x y H Q => ∃ i j, x = .int i ∧ y = .int j ∧ Q (g i j) H
def rU (g : Int → V) : V → Hp → VK → Prop := fun x H Q => ∃ i, x = .int i ∧ Q (g i) H

section
variable {X : Cx} {a b c : Expr} {ta tb tc : TE} {pos : Pos}

theorem binT (ha : PE X a ta) (hb : PE X b tb) {pins : List (Addr × Obj)} {s : Shared} {σ : St} {H : Hp} {R : V → V → Hp → Prop} (I : Inv X pins σ H s)
    (h : ta σ H fun x H1 => tb σ H1 fun y H2 => R x y H2) {Q : Value → Shared → Prop} {f : Value → Value → Sem Value}
    (hf : ∀ v u s2 x y H2, Inv X pins σ H2 s2 → RelV x v → RelV y u → R x y H2 → wpAny (model X.prog X.w) X.A (f v u) Q X.xe s2) :
    wpAny (model X.prog X.w) X.A (eval a X.env) (fun v s₁ => wpAny (model X.prog X.w) X.A (eval b X.env) (fun u s₂ => wpAny (model X.prog X.w) X.A (f v u) Q X.xe s₂) X.xe s₁) X.xe s := by
  refine thn (ha pins s σ H _ I h) fun v s1 ⟨x, H1, I1, r1, q1⟩ => ?_
  refine thn (hb pins s1 σ H1 _ I1 q1) fun u s2 ⟨y, H2, I2, r2, q2⟩ => ?_
  exact hf v u s2 x y H2 I2 r1 r2 q2

theorem pe_op {op : Operator} {r : R2} (ho : OpR X (binaryOp op) r) (ha : PE X a ta) (hb : PE X b tb) : PE X (.BinOp a op b pos) (tOp r ta tb) := by
  intro pins s σ H Q I h
  exact wpAny_BinOp (binT ha hb I h fun v u s2 x y H2 I2 rx ry q => ho pins s2 σ H2 x y v u Q I2 rx ry q)
theorem pe_un {op : UnaryOp} {r : V → Hp → VK → Prop} (ho : UnR X (unaryOp op) r) (ha : PE X a ta) : PE X (.UnaryOp op a pos) (tUn r ta) := by
  intro pins s σ H Q I h
  exact UnaryOp_ (thn (ha pins s σ H _ I h) fun v s1 ⟨x, H1, I1, r1, q1⟩ => ho pins s1 σ H1 x v Q I1 r1 q1)
/-- a op= e at a name: the name's slot i -/
theorem augR {op : Operator} {r : R2} (ho : OpR X (inplaceOp op) r) {pins : List (Addr × Obj)} {s : Shared} {σ : St} {H : Hp} {x y : V} {v u : Value} {Q : VK} (I : Inv X pins σ H s)
    (rx : RelV x v) (ry : RelV y u) (q : r x y H Q) : wpAny (model X.prog X.w) X.A (inplaceOp op v u) (EP X pins σ Q) X.xe s := ho pins s σ H x y v u Q I rx ry q

/-! ### ints -/
theorem opI {f : Value → Value → Sem Value} {C : Int → Int → Prop} {g : Int → Int → Int}
    (rule : ∀ (i j : Int) (t u : Tok) (s : Shared) (Q : Value → Shared → Prop) (E : Value → Shared → Prop), C i j → Q (.int (g i j) s.toks) { s with toks := s.toks + 1 } → wpAny (model X.prog X.w) X.A (f (.int i t) (.int j u)) Q E s) :
    OpR X f (rI C fun i j => .int (g i j)) := by
  intro pins s σ H x y v u Q I rx ry h
  obtain ⟨i, j, rfl, rfl, hc, q⟩ := h
  obtain ⟨t, rfl⟩ := rx
  obtain ⟨t', rfl⟩ := ry
  exact rule i j t t' s _ _ hc ⟨.int (g i j), H, I.tok _, ⟨_, rfl⟩, q⟩
theorem opI0 {f : Value → Value → Sem Value} {g : Int → Int → Int}
    (rule : ∀ (i j : Int) (t u : Tok) (s : Shared) (Q : Value → Shared → Prop) (E : Value → Shared → Prop), Q (.int (g i j) s.toks) { s with toks := s.toks + 1 } → wpAny (model X.prog X.w) X.A (f (.int i t) (.int j u)) Q E s) :
    OpR X f (rI0 fun i j => .int (g i j)) := by
  intro pins s σ H x y v u Q I rx ry h
  obtain ⟨i, j, rfl, rfl, q⟩ := h
  obtain ⟨t, rfl⟩ := rx
  obtain ⟨t', rfl⟩ := ry
  exact rule i j t t' s _ _ ⟨.int (g i j), H, I.tok _, ⟨_, rfl⟩, q⟩
theorem opB0 {f : Value → Value → Sem Value} {g : Int → Int → Bool}
    (rule : ∀ (i j : Int) (t u : Tok) (s : Shared) (Q : Value → Shared → Prop) (E : Value → Shared → Prop), Q (.bool (g i j)) s → wpAny (model X.prog X.w) X.A (f (.int i t) (.int j u)) Q E s) :
    OpR X f (rI0 fun i j => .bl (g i j)) := by
  intro pins s σ H x y v u Q I rx ry h
  obtain ⟨i, j, rfl, rfl, q⟩ := h
  obtain ⟨t, rfl⟩ := rx
  obtain ⟨t', rfl⟩ := ry
  exact rule i j t t' s _ _ ⟨.bl (g i j), H, I, rfl, q⟩

def CDiv (i j : Int) : Prop := 0 < j ∧ j < 1073741824
def CDivN (i j : Int) : Prop := j ≠ 0 ∧ j.natAbs < 1073741824
def CPow (i j : Int) : Prop := 0 ≤ j ∧ j ≤ 1000000 ∧ i.natAbs < 2 ^ 64
def CMul (i j : Int) : Prop := (-(2 ^ 64) < i ∧ i < 2 ^ 64) ∨ (-(2 ^ 64) < j ∧ j < 2 ^ 64)
theorem CMul.ok {i j : Int} (h : CMul i j) : IntMulOk i j := by
  rcases h with ⟨h1, h2⟩ | ⟨h1, h2⟩
  · exact .of_left (intBits_le_64 h1 h2)
  · exact .of_right (intBits_le_64 h1 h2)
theorem two_pow_nn (k : Nat) : (0 : Int) ≤ 2 ^ k := by
  rw [two_pow_cast]
  exact Int.natCast_nonneg _

theorem op_add : OpR X (binaryOp .Add) (rI0 fun i j => .int (i + j)) := opI0 fun _ _ _ _ _ _ _ q => add_int q
theorem op_sub : OpR X (binaryOp .Sub) (rI0 fun i j => .int (i - j)) := opI0 fun _ _ _ _ _ _ _ q => sub_int q
theorem op_mul : OpR X (binaryOp .Mult) (rI CMul fun i j => .int (i * j)) := opI fun _ _ _ _ _ _ _ hc q => mul_int q hc.ok
/-- // by a positive divisor -/
theorem op_fdiv : OpR X (binaryOp .FloorDiv) (rI CDiv fun i j => .int (i / j)) := opI fun i j _ _ _ _ _ hc q => by
  have h1 : (0 : Int) < j := hc.1
  have h2 : j < 1073741824 := hc.2
  exact floordiv_int (by omega) (by rw [Int.fdiv_eq_ediv_of_nonneg i (by omega)]; exact q) (.inl (PyProof.noPylong_small (by omega)))
theorem op_fdivN : OpR X (binaryOp .FloorDiv) (rI CDivN fun i j => .int (i.fdiv j)) := opI fun _ _ _ _ _ _ _ hc q => floordiv_int hc.1 q (.inl (PyProof.noPylong_small hc.2))
/-- % by a positive divisor of any size -/
theorem op_mod : OpR X (binaryOp .Mod) (rI (fun _ j => 0 < j) fun i j => .int (i % j)) := opI fun i j _ _ _ _ _ hc q => by
  have h1 : (0 : Int) < j := hc
  exact mod_int' (by omega) (by rw [Int.fmod_eq_emod_of_nonneg i (by omega)]; exact q)
theorem op_modN : OpR X (binaryOp .Mod) (rI (fun _ j => j ≠ 0) fun i j => .int (i.fmod j)) := opI fun _ _ _ _ _ _ _ hc q => mod_int' hc q
theorem op_pow : OpR X (binaryOp .Pow) (rI CPow fun i j => .int (i ^ j.toNat)) := opI fun _ _ _ _ _ _ _ hc q => pow_int_small hc.1 hc.2.1 hc.2.2 q
theorem op_shl : OpR X (binaryOp .LShift) (rI CPow fun i j => .int (i * 2 ^ j.toNat)) := opI fun _ _ _ _ _ _ _ hc q => lshift_int_small hc.1 hc.2.1 hc.2.2 q
theorem op_shr : OpR X (binaryOp .RShift) (rI (fun _ j => 0 ≤ j) fun i j => .int (i / 2 ^ j.toNat)) := opI fun i j _ _ _ _ _ hc q =>
  rshift_int hc (by rw [Int.fdiv_eq_ediv_of_nonneg i (two_pow_nn _)]; exact q)
theorem op_and : OpR X (binaryOp .BitAnd) (rI0 fun i j => .int (Builtin.bitAnd i j)) := opI0 fun _ _ _ _ _ _ _ q => and_int q
theorem op_or : OpR X (binaryOp .BitOr) (rI0 fun i j => .int (Builtin.bitOr i j)) := opI0 fun _ _ _ _ _ _ _ q => or_int q
theorem op_xor : OpR X (binaryOp .BitXor) (rI0 fun i j => .int (Builtin.bitXor i j)) := opI0 fun _ _ _ _ _ _ _ q => xor_int q

theorem iop_add : OpR X (inplaceOp .Add) (rI0 fun i j => .int (i + j)) := opI0 fun _ _ _ _ _ _ _ q => iadd_int q
theorem iop_sub : OpR X (inplaceOp .Sub) (rI0 fun i j => .int (i - j)) := opI0 fun _ _ _ _ _ _ _ q => isub_int q
theorem iop_mul : OpR X (inplaceOp .Mult) (rI CMul fun i j => .int (i * j)) := opI fun _ _ _ _ _ _ _ hc q => imul_int q hc.ok
theorem iop_fdiv : OpR X (inplaceOp .FloorDiv) (rI CDiv fun i j => .int (i / j)) := opI fun i j _ _ _ _ _ hc q => by
  have h1 : (0 : Int) < j := hc.1
  have h2 : j < 1073741824 := hc.2
  exact ifloordiv_int (by omega) (by rw [Int.fdiv_eq_ediv_of_nonneg i (by omega)]; exact q) (.inl (PyProof.noPylong_small (by omega)))
theorem iop_mod : OpR X (inplaceOp .Mod) (rI (fun _ j => 0 < j) fun i j => .int (i % j)) := opI fun i j _ _ _ _ _ hc q => by
  have h1 : (0 : Int) < j := hc
  exact imod_int (by omega) (by rw [Int.fmod_eq_emod_of_nonneg i (by omega)]; exact q)
theorem iop_shl : OpR X (inplaceOp .LShift) (rI CPow fun i j => .int (i * 2 ^ j.toNat)) := opI fun _ _ _ _ _ _ _ hc q => ilshift_int_small hc.1 hc.2.1 hc.2.2 q
theorem iop_shr : OpR X (inplaceOp .RShift) (rI (fun _ j => 0 ≤ j) fun i j => .int (i / 2 ^ j.toNat)) := opI fun i j _ _ _ _ _ hc q =>
  irshift_int hc (by rw [Int.fdiv_eq_ediv_of_nonneg i (two_pow_nn _)]; exact q)
theorem iop_and : OpR X (inplaceOp .BitAnd) (rI0 fun i j => .int (Builtin.bitAnd i j)) := opI0 fun _ _ _ _ _ _ _ q => iand_int q
theorem iop_or : OpR X (inplaceOp .BitOr) (rI0 fun i j => .int (Builtin.bitOr i j)) := opI0 fun _ _ _ _ _ _ _ q => ior_int q
theorem iop_xor : OpR X (inplaceOp .BitXor) (rI0 fun i j => .int (Builtin.bitXor i j)) := opI0 fun _ _ _ _ _ _ _ q => ixor_int q

theorem unI {f : Value → Sem Value} {g : Int → Int}
    (rule : ∀ (i : Int) (t : Tok) (s : Shared) (Q : Value → Shared → Prop) (E : Value → Shared → Prop), Q (.int (g i) s.toks) { s with toks := s.toks + 1 } → wpAny (model X.prog X.w) X.A (f (.int i t)) Q E s) :
    UnR X f (rU fun i => .int (g i)) := by
  intro pins s σ H x v Q I rx h
  obtain ⟨i, rfl, q⟩ := h
  obtain ⟨t, rfl⟩ := rx
  exact rule i t s _ _ ⟨.int (g i), H, I.tok _, ⟨_, rfl⟩, q⟩
theorem un_neg : UnR X (unaryOp .USub) (rU fun i => .int (-i)) := unI fun _ _ _ _ _ q => neg_int q
theorem un_inv : UnR X (unaryOp .Invert) (rU fun i => .int (Builtin.bitNot i)) := unI fun _ _ _ _ _ q => invert_int q

/-! ### bools among ints: n += (a < b) -/
theorem op_add_ib : OpR X (binaryOp .Add) (fun x y H Q => ∃ i k, x = .int i ∧ y = .bl k ∧ Q (.int (i + b2i k)) H) := by
  intro pins s σ H x y v u Q I rx ry h
  obtain ⟨i, k, rfl, rfl, q⟩ := h
  obtain ⟨t, rfl⟩ := rx
  cases ry
  exact add_int_bool ⟨.int (i + b2i k), H, I.tok _, ⟨_, rfl⟩, q⟩
end

/-! ### comparisons -/
/-- the scalars that == tells apart as data does -/
def scal : V → V → Bool
  | .non, .non => true | .non, .int _ => true | .int _, .non => true | .non, .bl _ => true | .bl _, .non => true | .non, .str _ => true | .str _, .non => true
  | .int _, .int _ => true | .bl _, .bl _ => true | .str _, .str _ => true | .byt _, .byt _ => true
  | .int _, .str _ => true | .str _, .int _ => true | .bl _, .str _ => true | .str _, .bl _ => true
  | _, _ => false
def rEq : R2 := fun x y H Q => scal x y = true ∧ Q (.bl (decide (x = y))) H
def rNe : R2 := fun x y H Q => scal x y = true ∧ Q (.bl (!decide (x = y))) H

theorem dec_int {i j : Int} : decide (V.int i = V.int j) = (i == j) := by
  rw [Bool.eq_iff_iff]
  simp
theorem dec_bl {i j : Bool} : decide (V.bl i = V.bl j) = (i == j) := by
  rw [Bool.eq_iff_iff]
  simp
theorem dec_str {i j : Str} : decide (V.str i = V.str j) = (i == j) := by
  rw [Bool.eq_iff_iff]
  simp
theorem dec_byt {i j : Array UInt8} : decide (V.byt i = V.byt j) = (i.toList == j.toList) := by
  rw [Bool.eq_iff_iff]
  cases i
  cases j
  simp

section
variable {X : Cx} {a b c : Expr} {ta tb tc : TE} {pos : Pos}
theorem fin_bl {pins : List (Addr × Obj)} {σ : St} {H : Hp} {s : Shared} {Q : VK} {k k' : Bool} (I : Inv X pins σ H s) (q : Q (.bl k) H) (e : k = k') : EP X pins σ Q (.bool k') s := by
  subst e
  exact ⟨.bl k, H, I, rfl, q⟩
theorem op_eq : OpR X (compareOp .Eq) rEq := by
  intro pins s σ H x y v u Q I rx ry h
  obtain ⟨hs, q⟩ := h
  cases x with
  | non =>
    cases rx
    cases y with
    | non => cases ry; exact PySem.EqNone.eq_none_none (fin_bl I q (by simp))
    | bl j => cases ry; exact PySem.EqNone.eq_none_bool (fin_bl I q (by simp))
    | int j => obtain ⟨t', rfl⟩ := ry; exact PySem.EqNone.eq_none_int (fin_bl I q (by simp))
    | str j => obtain ⟨t', rfl⟩ := ry; exact PySem.EqNone.eq_none_str (fin_bl I q (by simp))
    | _ => exact absurd (show false = true from hs) Bool.false_ne_true
  | bl i =>
    cases rx
    cases y with
    | non => cases ry; exact PySem.EqNone.eq_bool_none (fin_bl I q (by simp))
    | bl j => cases ry; exact eq_bool (fin_bl I q dec_bl)
    | str j => obtain ⟨t', rfl⟩ := ry; exact PySem.EqMixed.eq_bool_str (fin_bl I q (by simp))
    | _ => exact absurd (show false = true from hs) Bool.false_ne_true
  | int i =>
    obtain ⟨t, rfl⟩ := rx
    cases y with
    | non => cases ry; exact PySem.EqNone.eq_int_none (fin_bl I q (by simp))
    | int j => obtain ⟨t', rfl⟩ := ry; exact eq_int (fin_bl I q dec_int)
    | str j => obtain ⟨t', rfl⟩ := ry; exact PySem.EqMixed.eq_int_str (fin_bl I q (by simp))
    | _ => exact absurd (show false = true from hs) Bool.false_ne_true
  | str i =>
    obtain ⟨t, rfl⟩ := rx
    cases y with
    | non => cases ry; exact PySem.EqNone.eq_str_none (fin_bl I q (by simp))
    | bl j => cases ry; exact PySem.EqMixed.eq_str_bool (fin_bl I q (by simp))
    | int j => obtain ⟨t', rfl⟩ := ry; exact PySem.EqMixed.eq_str_int (fin_bl I q (by simp))
    | str j => obtain ⟨t', rfl⟩ := ry; exact eq_str (fin_bl I q dec_str)
    | _ => exact absurd (show false = true from hs) Bool.false_ne_true
  | byt i =>
    obtain ⟨t, rfl⟩ := rx
    cases y with
    | byt j => obtain ⟨t', rfl⟩ := ry; exact PySem.W.eq_bytes (fin_bl I q dec_byt)
    | _ => exact absurd (show false = true from hs) Bool.false_ne_true
  | _ => cases y <;> exact absurd (show false = true from hs) Bool.false_ne_true
theorem op_ne : OpR X (compareOp .NotEq) rNe := by
  intro pins s σ H x y v u Q I rx ry h
  obtain ⟨hs, q⟩ := h
  cases x with
  | non =>
    cases rx
    cases y with
    | non => cases ry; exact PySem.EqNone.ne_none_none (fin_bl I q (by simp))
    | bl j => cases ry; exact PySem.EqNone.ne_none_bool (fin_bl I q (by simp))
    | int j => obtain ⟨t', rfl⟩ := ry; exact PySem.EqNone.ne_none_int (fin_bl I q (by simp))
    | str j => obtain ⟨t', rfl⟩ := ry; exact PySem.EqNone.ne_none_str (fin_bl I q (by simp))
    | _ => exact absurd (show false = true from hs) Bool.false_ne_true
  | bl i =>
    cases rx
    cases y with
    | non => cases ry; exact PySem.EqNone.ne_bool_none (fin_bl I q (by simp))
    | bl j => cases ry; exact ne_bool (fin_bl I q (congrArg not dec_bl))
    | str j => obtain ⟨t', rfl⟩ := ry; exact PySem.EqMixed.ne_bool_str (fin_bl I q (by simp))
    | _ => exact absurd (show false = true from hs) Bool.false_ne_true
  | int i =>
    obtain ⟨t, rfl⟩ := rx
    cases y with
    | non => cases ry; exact PySem.EqNone.ne_int_none (fin_bl I q (by simp))
    | int j => obtain ⟨t', rfl⟩ := ry; exact ne_int (fin_bl I q (congrArg not dec_int))
    | str j => obtain ⟨t', rfl⟩ := ry; exact PySem.EqMixed.ne_int_str (fin_bl I q (by simp))
    | _ => exact absurd (show false = true from hs) Bool.false_ne_true
  | str i =>
    obtain ⟨t, rfl⟩ := rx
    cases y with
    | non => cases ry; exact PySem.EqNone.ne_str_none (fin_bl I q (by simp))
    | bl j => cases ry; exact PySem.EqMixed.ne_str_bool (fin_bl I q (by simp))
    | int j => obtain ⟨t', rfl⟩ := ry; exact PySem.EqMixed.ne_str_int (fin_bl I q (by simp))
    | str j => obtain ⟨t', rfl⟩ := ry; exact ne_str (fin_bl I q (congrArg not dec_str))
    | _ => exact absurd (show false = true from hs) Bool.false_ne_true
  | byt i =>
    obtain ⟨t, rfl⟩ := rx
    cases y with
    | byt j => obtain ⟨t', rfl⟩ := ry; exact PySem.W.ne_bytes (fin_bl I q (congrArg not dec_byt))
    | _ => exact absurd (show false = true from hs) Bool.false_ne_true
  | _ => cases y <;> exact absurd (show false = true from hs) Bool.false_ne_true

theorem op_lt : OpR X (compareOp .Lt) (rI0 fun i j => .bl (decide (i < j))) := opB0 fun _ _ _ _ _ _ _ q => lt_int q
theorem op_le : OpR X (compareOp .LtE) (rI0 fun i j => .bl (decide (i ≤ j))) := opB0 fun _ _ _ _ _ _ _ q => le_int q
theorem op_gt : OpR X (compareOp .Gt) (rI0 fun i j => .bl (decide (j < i))) := opB0 fun _ _ _ _ _ _ _ q => gt_int q
theorem op_ge : OpR X (compareOp .GtE) (rI0 fun i j => .bl (decide (j ≤ i))) := opB0 fun _ _ _ _ _ _ _ q => ge_int q
theorem op_lt_str : OpR X (compareOp .Lt) (fun x y H Q => ∃ i j, x = .str i ∧ y = .str j ∧ Q (.bl (decide (i.cps.toList < j.cps.toList))) H) := by
  intro pins s σ H x y v u Q I rx ry h
  obtain ⟨i, j, rfl, rfl, q⟩ := h
  obtain ⟨t, rfl⟩ := rx
  obtain ⟨t', rfl⟩ := ry
  exact lt_str (fin_bl I q rfl)
/-- the one string within the other -/
theorem op_in_str : OpR X (compareOp .In) (fun x y H Q => ∃ i j, x = .str i ∧ y = .str j ∧ Q (.bl (!(Builtin.Str.occurrences j i 0 j.length 1).isEmpty)) H) := by
  intro pins s σ H x y v u Q I rx ry h
  obtain ⟨i, j, rfl, rfl, q⟩ := h
  obtain ⟨t, rfl⟩ := rx
  obtain ⟨t', rfl⟩ := ry
  exact in_str (fin_bl I q rfl)

/-- is None, is not None: the right side a value none -/
theorem op_isN : OpR X (compareOp .Is) (fun x y H Q => y = .non ∧ Q (.bl (decide (x = .non))) H) := by
  intro pins s σ H x y v u Q I rx ry h
  obtain ⟨rfl, q⟩ := h
  cases ry
  refine is_none_gen (fin_bl I q ?_)
  cases x <;> first
    | (cases rx; rfl)
    | (obtain ⟨t, rfl⟩ := rx; rfl)
theorem op_notN : OpR X (compareOp .IsNot) (fun x y H Q => y = .non ∧ Q (.bl (!decide (x = .non))) H) := by
  intro pins s σ H x y v u Q I rx ry h
  obtain ⟨rfl, q⟩ := h
  cases ry
  refine isnot_none_gen (fin_bl I q ?_)
  cases x <;> first
    | (cases rx; rfl)
    | (obtain ⟨t, rfl⟩ := rx; rfl)

theorem op_notin_str : OpR X (compareOp .NotIn) (fun x y H Q => ∃ i j, x = .str i ∧ y = .str j ∧ Q (.bl (!(!(Builtin.Str.occurrences j i 0 j.length 1).isEmpty))) H) := by
  intro pins s σ H x y v u Q I rx ry h
  obtain ⟨i, j, rfl, rfl, q⟩ := h
  obtain ⟨t, rfl⟩ := rx
  obtain ⟨t', rfl⟩ := ry
  exact notIn_str (fin_bl I q rfl)
/-- is, is not of two objects that are tracked lists or instances -/
def isObj : HO → Bool
  | .lst _ => true
  | .ins _ _ _ => true
  | _ => false
theorem obj_there {pins : List (Addr × Obj)} {s : Shared} {σ : St} {H : Hp} {a : Addr} {o : HO} (I : Inv X pins σ H s) (h : H a = some o) (p : isObj o = true) : ∃ ob, s.heap.get? a = some ob ∧ ob.cls ≠ .type "tuple" := by
  cases o with
  | lst xs =>
    obtain ⟨_, its, n, _, e⟩ : xs.length ≤ sizeLine ∧ ∃ (its : List Value) (n : Nat), Vals xs its ∧ s.heap.get? a = some { cls := .type "list", data := .seq its.toArray n } := I.hok a _ h
    exact ⟨_, e, (by show Value.type "list" ≠ .type "tuple"; decide +kernel)⟩
  | ins C dx fs =>
    have x := I.hok a _ h
    obtain ⟨_, _, _, e, _⟩ := x
    exact ⟨_, e, (by show Value.ref C ≠ .type "tuple"; exact fun z => by cases z)⟩
  | _ => exact absurd (show false = true from p) Bool.false_ne_true
theorem op_is_ref : OpR X (compareOp .Is) (fun x y H Q => ∃ a b oa ob, x = .ref a ∧ y = .ref b ∧ H a = some oa ∧ isObj oa = true ∧ H b = some ob ∧ isObj ob = true ∧ Q (.bl (decide (a = b))) H) := by
  intro pins s σ H x y v u Q I rx ry h
  obtain ⟨a, b, oa, ob, rfl, rfl, ha, pa, hb, pb, q⟩ := h
  cases rx
  cases ry
  obtain ⟨o1, e1, n1⟩ := obj_there I ha pa
  obtain ⟨o2, e2, _⟩ := obj_there I hb pb
  by_cases z : a = b
  · subst z
    exact wpAny_is_ref_self (fin_bl I q (by simp))
  · exact wpAny_is_ref_other z e1 e2 n1 (fin_bl I q (by simp [z]))
theorem op_isnot_ref : OpR X (compareOp .IsNot) (fun x y H Q => ∃ a b oa ob, x = .ref a ∧ y = .ref b ∧ H a = some oa ∧ isObj oa = true ∧ H b = some ob ∧ isObj ob = true ∧ Q (.bl (!decide (a = b))) H) := by
  intro pins s σ H x y v u Q I rx ry h
  obtain ⟨a, b, oa, ob, rfl, rfl, ha, pa, hb, pb, q⟩ := h
  cases rx
  cases ry
  obtain ⟨o1, e1, n1⟩ := obj_there I ha pa
  obtain ⟨o2, e2, _⟩ := obj_there I hb pb
  by_cases z : a = b
  · subst z
    exact wpAny_isNot_ref_self (fin_bl I q (by simp))
  · exact wpAny_isNot_ref_other z e1 e2 n1 (fin_bl I q (by simp [z]))

/-- two rules for one operation: by cases -/
theorem OpR.or {f : Value → Value → Sem Value} {r r' : R2} (h : OpR X f r) (h' : OpR X f r') : OpR X f (fun x y H Q => r x y H Q ∨ r' x y H Q) := by
  intro pins s σ H x y v u Q I rx ry q
  rcases q with q | q
  · exact h pins s σ H x y v u Q I rx ry q
  · exact h' pins s σ H x y v u Q I rx ry q

theorem nomark (b : Expr) {op : CmpOp} (h : op ≠ .In := by decide) (h2 : op ≠ .NotIn := by decide) : behindInMarks op b = false := by
  have e1 : (op == CmpOp.In) = false := by cases op <;> first | rfl | exact absurd rfl h
  have e2 : (op == CmpOp.NotIn) = false := by cases op <;> first | rfl | exact absurd rfl h2
  cases b <;> simp [behindInMarks, e1, e2]
/-- a comparison as a value; hm: nomark b, or (for in, not in) by with_unfolding_all rfl -/
theorem pe_cmpR {op : CmpOp} {r : R2} (ho : OpR X (compareOp op) r) (ha : PE X a ta) (hb : PE X b tb) (hm : behindInMarks op b = false) : PE X (.Compare a [op] [b] pos) (tOp r ta tb) := by
  intro pins s σ H Q I h
  exact wpAny_Compare1 (binT ha hb I h fun v u s2 x y H2 I2 rx ry q => ho pins s2 σ H2 x y v u Q I2 rx ry q) hm
/-- a reading of a value as a test -/
def tTest (t : TE) : TT := fun σ H Q => t σ H fun x H' => ∃ k, x = .bl k ∧ Q k H'
theorem pt_cmpR {op : CmpOp} {r : R2} (ho : OpR X (compareOp op) r) (ha : PE X a ta) (hb : PE X b tb) (hm : behindInMarks op b = false) : PT X (.Compare a [op] [b] pos) (tTest (tOp r ta tb)) := by
  intro pins s σ H Q I h
  refine wpAny_isTrue_Compare1 (thn (ha pins s σ H _ I h) fun v s1 ⟨x, H1, I1, r1, q1⟩ => thn (hb pins s1 σ H1 _ I1 q1) fun u s2 ⟨y, H2, I2, r2, q2⟩ =>
    thn (ho pins s2 σ H2 x y v u _ I2 r1 r2 q2) fun c s3 ⟨z, H3, I3, r3, k, e, q3⟩ => ?_) hm
  subst e
  cases r3
  exact wpAny_truthy_bool ⟨H3, I3, q3⟩
/-- a op1 b op2 c -/
def tChain (r r' : R2) (ta tb tc : TE) : TE := fun σ H Q => ta σ H fun x H1 => tb σ H1 fun y H2 => r x y H2 fun z H3 => ∃ k, z = .bl k ∧
  (if k = true then tc σ H3 fun w' H4 => r' y w' H4 Q else Q (.bl false) H3)
theorem pe_chain {op op' : CmpOp} {r r' : R2} (ho : OpR X (compareOp op) r) (ho' : OpR X (compareOp op') r') (ha : PE X a ta) (hb : PE X b tb) (hc : PE X c tc)
    (hm : lastMarks [op, op'] [b, c] = false := by with_unfolding_all rfl) : PE X (.Compare a [op, op'] [b, c] pos) (tChain r r' ta tb tc) := by
  intro pins s σ H Q I h
  refine Compare_chain (thn (ha pins s σ H _ I h) fun v s1 ⟨x, H1, I1, r1, q1⟩ => chain_link (thn (hb pins s1 σ H1 _ I1 q1) fun u s2 ⟨y, H2, I2, r2, q2⟩ =>
    thn (ho pins s2 σ H2 x y v u _ I2 r1 r2 q2) fun d s3 ⟨z, H3, I3, r3, k, e, q3⟩ => ?_)) hm
  subst e
  cases r3
  refine wpAny_truthy_bool ?_
  cases k with
  | false => exact ite_ff ⟨.bl false, H3, I3, rfl, q3⟩
  | true => exact ite_tt (chain_last (thn (hc pins s3 σ H3 _ I3 q3) fun w' s4 ⟨z', H4, I4, r4, q4⟩ => ho' pins s4 σ H4 y z' u w' Q I4 r2 r4 q4))
theorem pt_chain {op op' : CmpOp} {r r' : R2} (ho : OpR X (compareOp op) r) (ho' : OpR X (compareOp op') r') (ha : PE X a ta) (hb : PE X b tb) (hc : PE X c tc)
    (hm : lastMarks [op, op'] [b, c] = false := by with_unfolding_all rfl) : PT X (.Compare a [op, op'] [b, c] pos) (tTest (tChain r r' ta tb tc)) := by
  intro pins s σ H Q I h
  refine isTrue_chain (thn (ha pins s σ H _ I h) fun v s1 ⟨x, H1, I1, r1, q1⟩ => test_link (thn (hb pins s1 σ H1 _ I1 q1) fun u s2 ⟨y, H2, I2, r2, q2⟩ =>
    thn (ho pins s2 σ H2 x y v u _ I2 r1 r2 q2) fun d s3 ⟨z, H3, I3, r3, k, e, q3⟩ => ?_)) hm
  subst e
  cases r3
  refine wpAny_truthy_bool ?_
  cases k with
  | false =>
    obtain ⟨k', e', q'⟩ := q3
    cases e'
    exact ite_ff ⟨H3, I3, q'⟩
  | true =>
    refine ite_tt (test_last (thn (hc pins s3 σ H3 _ I3 q3) fun w' s4 ⟨z', H4, I4, r4, q4⟩ => thn (ho' pins s4 σ H4 y z' u w' _ I4 r2 r4 q4) fun d' s5 ⟨z2, H5, I5, r5, k2, e2, q5⟩ => ?_))
    subst e2
    cases r5
    exact wpAny_truthy_bool ⟨H5, I5, q5⟩

/-! ### truth -/
/-- a value's truth by the abstract heap -/
def TruV (K : PySem.W.Frag) (x : V) (H : Hp) (k : Bool) : Prop :=
  match x with
  | .non => k = false
  | .bl b => k = b
  | .int i => k = (i != 0)
  | .str y => y.length ≤ sizeLine ∧ k = ((y.length : Int) != 0)
  | .byt y => y.size ≤ sizeLine ∧ k = ((y.size : Int) != 0)
  | .ref p => (∃ xs, SqL K H p xs ∧ k = !xs.isEmpty) ∨ (∃ xs, SqT K H p xs ∧ k = !xs.isEmpty) ∨ ∃ kvs, H p = some (.dK kvs) ∧ k = !kvs.isEmpty
  | _ => False
theorem isEmpty_kv {κ : Type} {kvs : List (κ × V)} {vs : List (κ × Value)} (r : KV kvs vs) : (!vs.isEmpty) = !kvs.isEmpty := by
  cases r <;> rfl
theorem isEmpty_of {xs : List V} {its : List Value} (r : Vals xs its) : (!its.toArray.isEmpty) = !xs.isEmpty := by
  cases r <;> simp
theorem line63 : (sizeLine : Nat) < 2 ^ 63 := by rw [sizeLine_eq]; decide
theorem tru_ok : TruR X (fun x H Q => ∃ k, TruV X.K x H k ∧ Q k H) := by
  intro pins s σ H x v Q I rx h
  obtain ⟨k, e, q⟩ := h
  have hl := line63
  have hs : sizeLine = 16777216 := sizeLine_eq
  cases x with
  | non =>
    cases rx
    have e' : k = false := e
    subst e'
    exact truthy_none ⟨H, I, q⟩
  | bl b =>
    cases rx
    have e' : k = b := e
    subst e'
    exact wpAny_truthy_bool ⟨H, I, q⟩
  | int i =>
    obtain ⟨t, rfl⟩ := rx
    have e' : k = (i != 0) := e
    subst e'
    exact PySem.P.truthy_int ⟨H, I, q⟩
  | str y =>
    obtain ⟨t, rfl⟩ := rx
    obtain ⟨hy, e'⟩ : y.length ≤ sizeLine ∧ k = ((y.length : Int) != 0) := e
    subst e'
    exact PySem.P.truthy_str (by omega) ⟨H, I.tok _, q⟩
  | byt y =>
    obtain ⟨t, rfl⟩ := rx
    obtain ⟨hy, e'⟩ : y.size ≤ sizeLine ∧ k = ((y.size : Int) != 0) := e
    subst e'
    exact PySem.W.truthy_bytes (by omega) ⟨H, I.tok _, q⟩
  | ref p =>
    cases rx
    have e' : (∃ xs, SqL X.K H p xs ∧ k = !xs.isEmpty) ∨ (∃ xs, SqT X.K H p xs ∧ k = !xs.isEmpty) ∨ ∃ kvs, H p = some (.dK kvs) ∧ k = !kvs.isEmpty := e
    rcases e' with ⟨xs, hx, e'⟩ | ⟨xs, hx, e'⟩ | ⟨kvs, hx, e'⟩
    · subst e'
      obtain ⟨its, r, pl, hz⟩ := I.list hx
      have hlen := r.length
      exact wpAny_truthy_list pl.isList (by simp only [List.size_toArray]; omega) ⟨H, I.tok _, by rw [isEmpty_of r]; exact q⟩
    · subst e'
      obtain ⟨its, r, pl, hz⟩ := I.tuple hx
      have hlen := r.length
      exact truthy_tuple pl (by simp only [List.size_toArray]; omega) ⟨H, I.tok _, by rw [isEmpty_of r]; exact q⟩
    · subst e'
      obtain ⟨hz, hS, vs, r, m⟩ : kvs.length ≤ sizeLine ∧ (p == sysModules) = false ∧ ∃ vs, KV kvs vs ∧ s.heap.DictOf (mixKind X.prog X.w) p vs := I.hok p _ hx
      have hlen : kvs.length = vs.length := Paired.length r
      exact wpAny_truthy_dict hS m (by omega) ⟨H, I.tok _, by rw [isEmpty_kv r]; exact q⟩
  | _ => exact (show False from e).elim
/-- any expression whose test is its value's truth (a name, a call, a subscript, a field ..: he by fun _ => rfl) -/
theorem pt_truth (ha : PE X a ta) (he : ∀ whole, isTrue a X.env whole = (do let v ← whole; standAt a.pos; holding [v] (truthy v))) :
    PT X a (fun σ H Q => ta σ H fun x H' => ∃ k, TruV X.K x H' k ∧ Q k H') := by
  intro pins s σ H Q I h
  exact isTrue_plain (thn (ha pins s σ H _ I h) fun v s1 ⟨x, H1, I1, r1, q1⟩ => tru_ok pins s1 σ H1 x v Q I1 r1 q1) (he _)

/-! ### strs and bytes -/
theorem pe_byt {x : List UInt8} {k : Nat} : PE X (.Constant (.bytes x) k pos) (fun _ H Q => Q (.byt x.toArray) H) := fun _ _ _ H _ I h => PySem.W.Constant_bytes ⟨.byt x.toArray, H, I.tok _, ⟨_, rfl⟩, h⟩
theorem op_add_str : OpR X (binaryOp .Add) (fun x y H Q => ∃ i j, x = .str i ∧ y = .str j ∧ i.length + j.length ≤ sizeLine ∧ Q (.str (i ++ j)) H) := by
  intro pins s σ H x y v u Q I rx ry h
  obtain ⟨i, j, rfl, rfl, hz, q⟩ := h
  obtain ⟨t, rfl⟩ := rx
  obtain ⟨t', rfl⟩ := ry
  exact add_str (fun t' tk => ⟨.str (i ++ j), H, I.tok _, ⟨_, rfl⟩, q⟩) hz
theorem iop_add_str : OpR X (inplaceOp .Add) (fun x y H Q => ∃ i j, x = .str i ∧ y = .str j ∧ i.length + j.length ≤ sizeLine ∧ Q (.str (i ++ j)) H) := by
  intro pins s σ H x y v u Q I rx ry h
  obtain ⟨i, j, rfl, rfl, hz, q⟩ := h
  obtain ⟨t, rfl⟩ := rx
  obtain ⟨t', rfl⟩ := ry
  exact iadd_str (fun t' tk => ⟨.str (i ++ j), H, I.tok _, ⟨_, rfl⟩, q⟩) hz
theorem op_add_byt : OpR X (binaryOp .Add) (fun x y H Q => ∃ i j, x = .byt i ∧ y = .byt j ∧ i.size + j.size ≤ 16777216 ∧ Q (.byt (i ++ j)) H) := by
  intro pins s σ H x y v u Q I rx ry h
  obtain ⟨i, j, rfl, rfl, hz, q⟩ := h
  obtain ⟨t, rfl⟩ := rx
  obtain ⟨t', rfl⟩ := ry
  exact PySem.W.KBy.add_bytes hz (fun t' tk => ⟨.byt (i ++ j), H, I.tok _, ⟨_, rfl⟩, q⟩)

def PlainIxT (b : Expr) : Prop := ∀ o i, subscripted b false o i = operate [o, i] (getItem o i)
/-- s[i], 0 ≤ i < len -/
theorem pe_item_str (ha : PE X a ta) (hb : PE X b tb) (hs : PlainIxT b) :
    PE X (.Subscript a b pos) (tOp (fun x y H Q => ∃ z i c, x = .str z ∧ y = .int i ∧ 0 ≤ i ∧ i < 2 ^ 63 ∧ i < z.length ∧ z.cps[i.toNat]? = some c ∧ Q (.str ⟨#[c]⟩) H) ta tb) := by
  intro pins s σ H Q I h
  refine Subscript_ (binT ha hb I h fun v u s2 x y H2 I2 rx ry q => ?_)
  obtain ⟨z, i, c, rfl, rfl, h0, h63, h1, hc, q⟩ := q
  obtain ⟨t, rfl⟩ := rx
  obtain ⟨t', rfl⟩ := ry
  have e : seqIndex? i z.length = some i.toNat := PySem.StrLaws.seqIndex_nonneg h0 h1
  exact tail_any (typeIs_str s2 z t) slot_str_getitem.lookup (getItem_str (c := c) (by
    have e1 : decide (i < -(2 ^ 63 : Int)) = false := decide_eq_false (by omega)
    have e2 : decide (i ≥ 2 ^ 63) = false := decide_eq_false (by omega)
    rw [e1, e2] <;> rfl) (by rw [e]; exact hc) ⟨.str ⟨#[c]⟩, H2, I2.tok _, ⟨_, rfl⟩, q⟩) (hs _ _)
/-- b[i], 0 ≤ i < len -/
theorem pe_item_byt (ha : PE X a ta) (hb : PE X b tb) (hs : PlainIxT b) :
    PE X (.Subscript a b pos) (tOp (fun x y H Q => ∃ (z : List UInt8) (i : Int), x = .byt z.toArray ∧ y = .int i ∧ z.length ≤ sizeLine ∧ 0 ≤ i ∧ i < z.length ∧ Q (.int ((z.getD i.toNat 0).toNat : Nat)) H) ta tb) := by
  intro pins s σ H Q I h
  refine Subscript_ (binT ha hb I h fun v u s2 x y H2 I2 rx ry q => ?_)
  obtain ⟨z, i, rfl, rfl, hz, h0, h1, q⟩ := q
  obtain ⟨t, rfl⟩ := rx
  obtain ⟨t', rfl⟩ := ry
  have hl : sizeLine = 16777216 := sizeLine_eq
  exact tail_any (PySem.W.typeIs_bytes s2 z.toArray t) PySem.W.FB.slot_bytes_getitem.lookup (PySem.W.getItem_bytes (by omega) h0 h1 ⟨.int ((z.getD i.toNat 0).toNat : Nat), H2, I2.tok _, ⟨_, rfl⟩, q⟩) (hs _ _)

/-! ### scalar builtins, by CallR -/
theorem vals1 {x : V} {us : List Value} (r : Vals [x] us) : ∃ u, us = [u] ∧ RelV x u := by
  cases r with
  | cons r1 r2 => cases r2; exact ⟨_, rfl, r1⟩
theorem vals2 {x y : V} {us : List Value} (r : Vals [x, y] us) : ∃ u w', us = [u, w'] ∧ RelV x u ∧ RelV y w' := by
  cases r with
  | cons r1 r2 =>
    cases r2 with
    | cons r3 r4 => cases r4; exact ⟨_, _, rfl, r1, r3⟩
theorem call_abs : CallR X (.builtin "abs") (fun xs H Q => ∃ i, xs = [.int i] ∧ Q (.int (if i < 0 then -i else i)) H) := by
  intro pins s σ H xs us Q I r h
  obtain ⟨i, rfl, q⟩ := h
  obtain ⟨u, rfl, t, rfl⟩ := vals1 r
  exact call_abs_int fun u tk => ⟨.int (if i < 0 then -i else i), H, I.tok _, ⟨_, rfl⟩, q⟩
theorem call_max2 (hc : X.calm = true) : CallR X (.builtin "max") (fun xs H Q => ∃ i j, xs = [.int i, .int j] ∧ Q (.int (if j > i then j else i)) H) := by
  intro pins s σ H xs us Q I r h
  obtain ⟨i, j, rfl, q⟩ := h
  obtain ⟨u, w', rfl, ⟨t, rfl⟩, ⟨t', rfl⟩⟩ := vals2 r
  refine max_two_ints (I.ok.hd hc) fun h' tk k => ⟨_, H, I.kept k, ?_, q⟩
  by_cases hj : j > i
  · rw [if_pos hj, if_pos hj]; exact ⟨_, rfl⟩
  · rw [if_neg hj, if_neg hj]; exact ⟨_, rfl⟩
theorem call_min2 (hc : X.calm = true) : CallR X (.builtin "min") (fun xs H Q => ∃ i j, xs = [.int i, .int j] ∧ Q (.int (if j < i then j else i)) H) := by
  intro pins s σ H xs us Q I r h
  obtain ⟨i, j, rfl, q⟩ := h
  obtain ⟨u, w', rfl, ⟨t, rfl⟩, ⟨t', rfl⟩⟩ := vals2 r
  refine min_two_ints (I.ok.hd hc) fun h' tk k => ⟨_, H, I.kept k, ?_, q⟩
  by_cases hj : j < i
  · rw [if_pos hj, if_pos hj]; exact ⟨_, rfl⟩
  · rw [if_neg hj, if_neg hj]; exact ⟨_, rfl⟩
theorem call_int1 : CallR X (.type "int") (fun xs H Q => (∃ i, xs = [.int i] ∧ Q (.int i) H) ∨ ∃ k, xs = [.bl k] ∧ Q (.int (if k then 1 else 0)) H) := by
  intro pins s σ H xs us Q I r h
  rcases h with ⟨i, rfl, q⟩ | ⟨k, rfl, q⟩
  · obtain ⟨u, rfl, t, rfl⟩ := vals1 r
    exact call_int_int ⟨.int i, H, I, ⟨_, rfl⟩, q⟩
  · obtain ⟨u, rfl, r1⟩ := vals1 r
    cases r1
    exact call_int_bool ⟨.int (if k then 1 else 0), H, I.tok _, ⟨_, rfl⟩, q⟩
theorem call_bool1 : CallR X (.type "bool") (fun xs H Q => (∃ i, xs = [.int i] ∧ Q (.bl (i != 0)) H) ∨ ∃ k, xs = [.bl k] ∧ Q (.bl k) H) := by
  intro pins s σ H xs us Q I r h
  rcases h with ⟨i, rfl, q⟩ | ⟨k, rfl, q⟩
  · obtain ⟨u, rfl, t, rfl⟩ := vals1 r
    exact call_bool_int ⟨.bl (i != 0), H, I, rfl, q⟩
  · obtain ⟨u, rfl, r1⟩ := vals1 r
    cases r1
    exact call_bool_bool ⟨.bl k, H, I, rfl, q⟩
theorem call_str_int : CallR X (.type "str") (fun xs H Q => ∃ i, xs = [.int i] ∧ i.natAbs.log2 < 1920 ∧ Q (.str (toString i)) H) := by
  intro pins s σ H xs us Q I r h
  obtain ⟨i, rfl, hz, q⟩ := h
  obtain ⟨u, rfl, t, rfl⟩ := vals1 r
  exact PySem.P.str_of_int hz ⟨.str _, H, I.tok _, ⟨_, rfl⟩, q⟩
theorem call_ord : CallR X (.builtin "ord") (fun xs H Q => ∃ x, xs = [.str x] ∧ x.length = 1 ∧ Q (.int (x.cps.getD 0 0 : Nat)) H) := by
  intro pins s σ H xs us Q I r h
  obtain ⟨x, rfl, hz, q⟩ := h
  obtain ⟨u, rfl, t, rfl⟩ := vals1 r
  exact ord_of_one hz ⟨.int _, H, I.tok _, ⟨_, rfl⟩, q⟩
theorem call_chr : CallR X (.builtin "chr") (fun xs H Q => ∃ i, xs = [.int i] ∧ 0 ≤ i ∧ i ≤ 1114111 ∧ Q (.str ⟨#[i.toNat]⟩) H) := by
  intro pins s σ H xs us Q I r h
  obtain ⟨i, rfl, h0, h1, q⟩ := h
  obtain ⟨u, rfl, t, rfl⟩ := vals1 r
  exact chr_of_range h0 h1 ⟨.str _, H, I.tok _, ⟨_, rfl⟩, q⟩
/-- len of a str, a bytes, a list, a tuple -/
def LenV (K : PySem.W.Frag) (x : V) (H : Hp) (n : Nat) : Prop :=
  match x with
  | .str y => y.length ≤ sizeLine ∧ n = y.length
  | .byt y => y.size ≤ sizeLine ∧ n = y.size
  | .ref p => (∃ xs, SqL K H p xs ∧ n = xs.length) ∨ ∃ xs, SqT K H p xs ∧ n = xs.length
  | _ => False
theorem call_len : CallR X (.builtin "len") (fun xs H Q => ∃ x n, xs = [x] ∧ LenV X.K x H n ∧ Q (.int n) H) := by
  intro pins s σ H xs us Q I r h
  obtain ⟨x, n, rfl, e, q⟩ := h
  obtain ⟨u, rfl, rx⟩ := vals1 r
  have hl := line63
  have hs : sizeLine = 16777216 := sizeLine_eq
  cases x with
  | str y =>
    obtain ⟨t, rfl⟩ := rx
    obtain ⟨hy, e'⟩ : y.length ≤ sizeLine ∧ n = y.length := e
    subst e'
    exact len_str (by omega) ⟨.int _, H, I.tok _, ⟨_, rfl⟩, q⟩
  | byt y =>
    obtain ⟨t, rfl⟩ := rx
    obtain ⟨hy, e'⟩ : y.size ≤ sizeLine ∧ n = y.size := e
    subst e'
    exact PySem.W.len_bytes (by omega) ⟨.int _, H, I.tok _, ⟨_, rfl⟩, q⟩
  | ref p =>
    cases rx
    have e' : (∃ xs, SqL X.K H p xs ∧ n = xs.length) ∨ ∃ xs, SqT X.K H p xs ∧ n = xs.length := e
    rcases e' with ⟨xs, hx, e'⟩ | ⟨xs, hx, e'⟩
    · subst e'
      obtain ⟨its, r', pl, hz⟩ := I.list hx
      have hlen := r'.length
      exact Calls.call_len_list pl.isList (by simp only [List.size_toArray]; omega) ⟨.int xs.length, H, I.tok _, ⟨_, by simp only [List.size_toArray]; rw [hlen]⟩, q⟩
    · subst e'
      obtain ⟨its, r', pl, hz⟩ := I.tuple hx
      have hlen := r'.length
      exact len_tuple pl (by simp only [List.size_toArray]; omega) ⟨.int xs.length, H, I.tok _, ⟨_, by simp only [List.size_toArray]; rw [hlen]⟩, q⟩
  | _ => exact (show False from e).elim
/-- divmod: a new tuple -/
theorem call_divmod : CallR X (.builtin "divmod") (fun xs H Q => ∃ i j, xs = [.int i, .int j] ∧ CDiv i j ∧ ∀ p, H p = none → Q (.ref p) (upd H p (.tup [.int (i / j), .int (i % j)]))) := by
  intro pins s σ H xs us Q I r h
  obtain ⟨i, j, rfl, ⟨h1, h2⟩, q⟩ := h
  obtain ⟨u, w', rfl, ⟨t, rfl⟩, ⟨t', rfl⟩⟩ := vals2 r
  refine divmod_int (by omega) ?_ (.inl (PyProof.noPylong_small (by omega)))
  rw [Int.fdiv_eq_ediv_of_nonneg i (by omega), Int.fmod_eq_emod_of_nonneg i (by omega)]
  have hn : H s.heap.objs.size = none := I.hok.fresh (Nat.le_refl _)
  refine ⟨.ref s.heap.objs.size, _, ?_, rfl, q _ hn⟩
  refine I.laid (fun b o e => Heap.get?_push_of_some _ e) (Nat.le_refl _) ⟨by simp only [List.length_cons, List.length_nil]; rw [sizeLine_eq]; decide, [.int (i / j) s.toks, .int (i % j) (s.toks + 1)], .cons ⟨_, rfl⟩ (.cons ⟨_, rfl⟩ .nil), ?_⟩
  exact ⟨_, Heap.get?_push_size s.heap rfl, rfl, 0, rfl⟩
end
end L2

namespace L2
open PySem PySem.Spec PyProof.Rows

/-! ### an instance, its attributes a map -/
structure ObjM (h : Heap) (x dx C : Addr) (mA : Str → Option Value) : Prop where
  obj : h.get? x = some (PySem.W.instObj C dx)
  ns : h.Ns1 dx mA
  ne : dx ≠ x

theorem lookIn_ns {h : Heap} {dx : Addr} {mA : Str → Option Value} (n : h.Ns1 dx mA) : ∃ od, h.get? dx = some od ∧ ∀ name, PySem.W.lookIn name od = some (mA name) := by
  obtain ⟨o, es, ep, ho, hd, hk, _, hm⟩ := n
  refine ⟨o, ho, fun name => ?_⟩
  have e := hm name
  unfold nsFind findBy at e
  rw [← Array.find?_toList] at e
  unfold PySem.W.lookIn
  rw [hd]
  dsimp only
  split
  · rename_i y q
    rw [q] at e
    exact congrArg some e
  · rename_i q
    rw [q] at e
    have a : es.toList.any (·.refKey) = false := by
      rw [List.any_eq_false]
      intro y hy
      obtain ⟨z, t, hkey⟩ := hk y (Array.mem_toList_iff.mp hy)
      simp [DictEntry.refKey, hkey]
    have a' : ¬ es.toList.any (·.refKey) = true := by rw [a]; exact Bool.false_ne_true
    rw [if_neg a']
    exact congrArg some e

theorem ObjM.look {h : Heap} {x dx C : Addr} {mA : Str → Option Value} (I : ObjM h x dx C mA) : ∃ od, PySem.W.InstAt h x (PySem.W.instObj C dx) C (some od) ∧ ∀ name, PySem.W.lookIn name od = some (mA name) :=
  let ⟨od, ho, hl⟩ := lookIn_ns I.ns
  ⟨od, ⟨I.obj, rfl, rfl, ho⟩, hl⟩

section
variable {prog : Program} {w : World} {A : Around} {E : Value → Shared → Prop} {s : Shared} {K : PySem.W.Frag} {x dx C f : Addr} {mA : Str → Option Value} {name : Str} {v : Value}

theorem get_map {expr : Bool} {Q : Value → Shared → Prop} (X : K.In s.heap) (I : ObjM s.heap x dx C mA) (hg : PySem.W.plainGet K C name = true) (hh : PySem.W.hasDictIn K C = true)
    (ha : PySem.W.findIn K (.ref C) name = some none) (hv : mA name = some v) (hv' : PySem.W.handedIn v = true) (h : Q v { s with toks := s.toks + 1 }) :
    wpAny (model prog w) A (getAttr (.ref x) name expr) Q E s := by
  obtain ⟨od, J, hl⟩ := I.look
  exact PySem.W.get_value X J (PySem.W.plainGet_of hg).1 (PySem.W.findObj_own hh ha rfl (by rw [hl, hv])) hv' h

theorem get_const {expr : Bool} {a : Value} {Q : Value → Shared → Prop} (X : K.In s.heap) (I : ObjM s.heap x dx C mA) (hg : PySem.W.plainGet K C name = true) (hh : PySem.W.hasDictIn K C = true)
    (ha : PySem.W.findIn K (.ref C) name = some (some a)) (hn : PySem.W.specialIn K a "__get__" = some none) (hc : PySem.W.copiedNames.contains name = false) (hv : mA name = none) (hv' : PySem.W.handedIn a = true)
    (h : Q a { s with toks := s.toks + 1 }) : wpAny (model prog w) A (getAttr (.ref x) name expr) Q E s := by
  obtain ⟨od, J, hl⟩ := I.look
  exact PySem.W.get_value X J (PySem.W.plainGet_of hg).1 (PySem.W.findObj_cls hh ha hn hv' hc (by rw [hl, hv])) hv' h

theorem get_meth {pl : Sem Bool} {Q : Value × List Value → Shared → Prop} (X : K.In s.heap) (I : ObjM s.heap x dx C mA) (hg : PySem.W.plainGet K C name = true)
    (hf : PySem.W.findIn K (.ref C) name = some (some (.ref f))) (ht : PySem.W.isFn K (.ref f) = true) (hv : mA name = none) (h : Q (.ref f, [.ref x]) s) :
    wpAny (model prog w) A (getMethod (.ref x) name pl) Q E s := by
  obtain ⟨od, J, hl⟩ := I.look
  exact PySem.W.method_fn X J (PySem.W.plainGet_of hg).1 (PySem.W.plainGet_of hg).2 hf (beq_iff_eq.mp ht) (by show (PySem.W.lookIn name od).map (·.isSome) = some false; rw [hl, hv]; rfl) h

theorem set_map {ns : List Str} {Q : Unit → Shared → Prop} (X : K.In s.heap) (I : ObjM s.heap x dx C mA)
    (hs : PySem.W.findIn K (.ref C) "__setattr__" = some (some (.builtin "object.__setattr__"))) (hp : PySem.W.plainOver K C = true) (ht : PySem.W.takerIn K C name = some none) (hh : PySem.W.hasDictIn K C = true)
    (hw : PySem.Within mA ns) (hsz : ns.length ≤ sizeLine)
    (h : ∀ h', ObjM h' x dx C (fun y => if y = name then some v else mA y) → Heap.SameBut dx s.heap h' → Q () { s with heap := h', toks := s.toks + 2 }) :
    wpAny (model prog w) A (setAttr (.ref x) name v) Q E s := by
  obtain ⟨od, J, hl⟩ := I.look
  refine PySem.W.set_plain X J hs (PySem.W.osa_open (s := { s with toks := s.toks + 1 }) (r := none) X J hp ht fun b => ?_)
  obtain ⟨cd, hc, hd'⟩ := PySem.W.any_some hh
  have hx : s.heap.get? x = some ⟨.ref C, some dx, .plain, #[]⟩ := I.obj
  refine wpAny_bind (wpAny_pure (wpAny_bind (wpAny_bind (wpAny_loadPart hx (wpAny_bind (PySem.W.Looks.here (s := { s with toks := s.toks + 1 }) (PySem.W.looks_clsIn X hc) ?_))))))
  rw [hd']
  refine wpAny_pure (a := some dx) (wpAny_bind (wpAny_pure (wpAny_bind ?_)))
  refine wpAny_nsSet1 (s := { s with toks := s.toks + 1 }) I.ns fun h' hn2 hs2 => ?_
  obtain ⟨oD, esD, epD, hoD, hdD, hcD⟩ := hn2.count (PySem.Within.cons name v hw)
  refine wpAny_bind (wpAny_lookBehind hoD (by rw [hdD]; exact pastItsLine_dict (Nat.le_trans hcD (by rw [List.length_cons]; omega))) ?_)
  exact wpAny_pure (h _ ⟨(hs2.2 _ (Ne.symm I.ne)).trans I.obj, hn2, I.ne⟩ hs2)

/-- C(..): the dict at the heap's end, the instance behind it; then its __init__ -/
theorem make_map {R : Result → Shared → Prop} {vs : List Value} {kw : List (Str × Value)} (X : K.In s.heap) (hm : PySem.W.makesIn K C = true)
    (hi : PySem.W.findIn K (.ref C) "__init__" = some (some (.ref f))) (hf : PySem.W.typeIn K (.ref f) = some (.type "function"))
    (h : codeAny (model prog w) (A.under (.builtin "type.__call__" ⟨.ref C :: vs, kw⟩)) (.call (.ref f) ⟨.ref (s.heap.objs.size + 1) :: vs, kw⟩) (PySem.W.InitBack (s.heap.objs.size + 1) R)
      { s with heap := (s.heap.push PySem.W.emptyDict).push (PySem.W.instObj C s.heap.objs.size) }) :
    codeAny (model prog w) A (.call (.ref C) ⟨vs, kw⟩) R s := by
  obtain ⟨hh, g, d, t, os⟩ := s
  exact PySem.W.make_core (PySem.W.makes_of X hm) (PySem.W.looks_findIn X hi) (fun self => PySem.W.bind_fn X self hf) (.inl rfl) h
/-- C() where there is no __init__ but object's -/
theorem make_map0 {R : Result → Shared → Prop} (X : K.In s.heap) (hm : PySem.W.makesIn K C = true)
    (hi : PySem.W.findIn K (.ref C) "__init__" = some (some (.builtin "object.__init__")))
    (hb : ∀ self, PySem.W.Looks (model prog w) s.heap (bindSpecial (.builtin "object.__init__") self) (.builtin "object.__init__", [self]))
    (h : codeAny (model prog w) (A.under (.builtin "type.__call__" ⟨[.ref C], []⟩)) (.call (.builtin "object.__init__") ⟨[.ref (s.heap.objs.size + 1)], []⟩) (PySem.W.InitBack (s.heap.objs.size + 1) R)
      { s with heap := (s.heap.push PySem.W.emptyDict).push (PySem.W.instObj C s.heap.objs.size) }) :
    codeAny (model prog w) A (.call (.ref C) ⟨[], []⟩) R s := by
  obtain ⟨hh, g, d, t, os⟩ := s
  exact PySem.W.make_core (PySem.W.makes_of X hm) (PySem.W.looks_findIn X hi) hb (.inr ⟨rfl, rfl⟩) h
end

/-! ### the attributes as a list of pairs -/
def putF (f : Str) (v : V) : List (Str × V) → List (Str × V)
  | [] => [(f, v)]
  | (g, x) :: r => if g = f then (g, v) :: r else (g, x) :: putF f v r
theorem lookup_putF (f g : Str) (v : V) : ∀ fs : List (Str × V), (putF f v fs).lookup g = if g = f then some v else fs.lookup g
  | [] => by
    show List.lookup g [(f, v)] = _
    by_cases h : g = f
    · have hb : (g == f) = true := beq_iff_eq.mpr h
      simp only [List.lookup, hb, if_pos h]
    · have hb : (g == f) = false := beq_eq_false_iff_ne.mpr h
      simp only [List.lookup, hb, if_neg h]
  | (k, x) :: r => by
    have ih := lookup_putF f g v r
    rw [show putF f v ((k, x) :: r) = (if k = f then (k, v) :: r else (k, x) :: putF f v r) from rfl]
    by_cases hk : k = f
    · rw [if_pos hk]
      by_cases h : g = k
      · have hb : (g == k) = true := beq_iff_eq.mpr h
        simp only [List.lookup, hb, if_pos (h.trans hk)]
      · have hb : (g == k) = false := beq_eq_false_iff_ne.mpr h
        simp only [List.lookup, hb, if_neg (fun e : g = f => h (e.trans hk.symm))]
    · rw [if_neg hk]
      by_cases h : g = k
      · have hb : (g == k) = true := beq_iff_eq.mpr h
        simp only [List.lookup, hb, if_neg (fun e : g = f => hk (h.symm.trans e))]
      · have hb : (g == k) = false := beq_eq_false_iff_ne.mpr h
        simp only [List.lookup, hb]
        exact ih
theorem keys_putF (f : Str) (v : V) : ∀ fs : List (Str × V), f ∈ (putF f v fs).map (·.1) ∧ ∀ g, g ∈ fs.map (·.1) → g ∈ (putF f v fs).map (·.1)
  | [] => ⟨by simp [putF], fun g h => by simp at h⟩
  | (k, x) :: r => by
    obtain ⟨i1, i2⟩ := keys_putF f v r
    rw [show putF f v ((k, x) :: r) = (if k = f then (k, v) :: r else (k, x) :: putF f v r) from rfl]
    by_cases hk : k = f
    · rw [if_pos hk]
      subst hk
      exact ⟨by simp, fun g h => by simpa using h⟩
    · rw [if_neg hk]
      refine ⟨?_, fun g h => ?_⟩
      · rw [List.map_cons]
        exact List.mem_cons_of_mem _ i1
      · rw [List.map_cons] at h ⊢
        rcases List.mem_cons.mp h with e | e
        · exact List.mem_cons.mpr (.inl e)
        · exact List.mem_cons_of_mem _ (i2 g e)
theorem length_putF (f : Str) (v : V) : ∀ fs : List (Str × V), (putF f v fs).length ≤ fs.length + 1
  | [] => by simp [putF]
  | (k, x) :: r => by
    have ih := length_putF f v r
    rw [show putF f v ((k, x) :: r) = (if k = f then (k, v) :: r else (k, x) :: putF f v r) from rfl]
    by_cases hk : k = f
    · rw [if_pos hk, List.length_cons, List.length_cons]; omega
    · rw [if_neg hk, List.length_cons, List.length_cons]; omega

theorem RelO.some_of {v : V} {o : Option Value} (r : RelO (some v) o) : ∃ u, o = some u ∧ RelV v u := by
  cases o with
  | none => exact (show False from r).elim
  | some u => exact ⟨u, rfl, r⟩
theorem RelO.none_of {o : Option Value} (r : RelO none o) : o = none := by
  cases o with
  | none => rfl
  | some u => exact (show False from r).elim
theorem handed_of {v : V} {u : Value} (r : RelV v u) : PySem.W.handedIn u = true := by
  cases v with
  | non => cases (show u = Value.none from r); rfl
  | bl b => cases (show u = Value.bool b from r); rfl
  | int i => obtain ⟨t, e⟩ := (show ∃ t, u = Value.int i t from r); cases e; rfl
  | str x => obtain ⟨t, e⟩ := (show ∃ t, u = Value.str x t from r); cases e; rfl
  | byt b => obtain ⟨t, e⟩ := (show ∃ t, u = Value.bytes b t from r); cases e; rfl
  | flt b => obtain ⟨t, e⟩ := (show ∃ t, u = Value.float b t from r); cases e; rfl
  | ref a => cases (show u = Value.ref a from r); rfl
  | ty n => cases (show u = Value.type n from r); rfl

section
variable {P : Program} {w : World} {H H' : Hp} {h h' : Heap} {a C dx : Addr} {fs fs' : List (Str × V)}
theorem ins_get (hok : HOk P w H h) (e : H a = some (.ins C dx fs)) : ∃ mA, ObjM h a dx C mA ∧ (∀ f, RelO (fs.lookup f) (mA f)) ∧ PySem.Within mA (fs.map (·.1)) ∧ fs.length ≤ 1000 ∧ H dx = some (.own a) := by
  obtain ⟨d, z, ne, ob, mA, n, r, q⟩ := (show ObjOk P w H h a (.ins C dx fs) from hok a _ e)
  exact ⟨mA, ⟨ob, n, ne⟩, r, q, z, d⟩
end

/-! ### what of the text a class must have -/
structure Cls (K : PySem.W.Frag) (C : Addr) : Prop where
  pg : PySem.W.plainGet K C Str.empty = true
  hd : PySem.W.hasDictIn K C = true
  po : PySem.W.plainOver K C = true
  sa : PySem.W.findIn K (.ref C) "__setattr__" = some (some (.builtin "object.__setattr__"))
theorem Cls.get {K : PySem.W.Frag} {C : Addr} (c : Cls K C) (f : Str) : PySem.W.plainGet K C f = true := c.pg
/-- no class of it has the name -/
def NoAttr (K : PySem.W.Frag) (C : Addr) (f : Str) : Prop := PySem.W.findIn K (.ref C) f = some none
theorem NoAttr.taker {K : PySem.W.Frag} {C : Addr} {f : Str} (n : NoAttr K C f) : PySem.W.takerIn K C f = some none := by
  unfold PySem.W.takerIn
  rw [show PySem.W.findIn K (.ref C) f = some none from n]
  rfl
/-- a constant of the class -/
structure Con (K : PySem.W.Frag) (C : Addr) (f : Str) (v : V) (u : Value) : Prop where
  at_ : PySem.W.findIn K (.ref C) f = some (some u)
  rel : RelV v u
  get : PySem.W.specialIn K u "__get__" = some none
  cp : PySem.W.copiedNames.contains f = false
/-- a method: a plain def of the class or of one above it -/
structure Meth (K : PySem.W.Frag) (C : Addr) (m : Str) (f : Addr) : Prop where
  at_ : PySem.W.findIn K (.ref C) m = some (some (.ref f))
  fn : PySem.W.isFn K (.ref f) = true
  kp : PySem.W.keepIn K (.ref f) = true

section
variable {X : Cx} {pins : List (Addr × Obj)} {σ : St} {H : Hp} {s : Shared} {a C dx : Addr} {fs : List (Str × V)} {f : Str} {v : V} {A : Around} {E : Value → Shared → Prop}

theorem getattr_ok {b : Bool} {Q : Value → Shared → Prop} (I : Inv X pins σ H s) (e : H a = some (.ins C dx fs)) (c : Cls X.K C) (n : NoAttr X.K C f) (l : fs.lookup f = some v)
    (h : ∀ u s', Inv X pins σ H s' → RelV v u → Q u s') : wpAny (model X.prog X.w) A (getAttr (.ref a) f b) Q E s := by
  obtain ⟨mA, O, r, _, _, _⟩ := ins_get I.hok e
  obtain ⟨u, hu, ru⟩ := RelO.some_of (v := v) (o := mA f) (by rw [← l]; exact r f)
  exact get_map I.kIn O (c.get f) c.hd n hu (handed_of ru) (h u _ (I.tok _) ru)

theorem getcon_ok {b : Bool} {u : Value} {Q : Value → Shared → Prop} (I : Inv X pins σ H s) (e : H a = some (.ins C dx fs)) (c : Cls X.K C) (k : Con X.K C f v u) (l : fs.lookup f = none)
    (h : ∀ s', Inv X pins σ H s' → Q u s') : wpAny (model X.prog X.w) A (getAttr (.ref a) f b) Q E s := by
  obtain ⟨mA, O, r, _, _, _⟩ := ins_get I.hok e
  have hn : mA f = none := RelO.none_of (by rw [← l]; exact r f)
  exact get_const I.kIn O (c.get f) c.hd k.at_ k.get k.cp hn (handed_of k.rel) (h _ (I.tok _))

theorem getmeth_ok {m : Str} {g : Addr} {pl : Sem Bool} {Q : Value × List Value → Shared → Prop} (I : Inv X pins σ H s) (e : H a = some (.ins C dx fs)) (c : Cls X.K C) (k : Meth X.K C m g) (l : fs.lookup m = none)
    (h : Q (.ref g, [.ref a]) s) : wpAny (model X.prog X.w) A (getMethod (.ref a) m pl) Q E s := by
  obtain ⟨mA, O, r, _, _, _⟩ := ins_get I.hok e
  have hn : mA m = none := RelO.none_of (by rw [← l]; exact r m)
  exact get_meth I.kIn O (c.get m) k.at_ k.fn hn h

theorem setattr_ok {y : V} {u : Value} {Q : Unit → Shared → Prop} (I : Inv X pins σ H s) (e : H a = some (.ins C dx fs)) (c : Cls X.K C) (n : NoAttr X.K C f) (hl : fs.length < 1000) (ry : RelV y u)
    (h : ∀ s', Inv X pins σ (upd H a (.ins C dx (putF f y fs))) s' → Q () s') : wpAny (model X.prog X.w) A (setAttr (.ref a) f u) Q E s := by
  obtain ⟨mA, O, r, wi, _, ho⟩ := ins_get I.hok e
  have hz : (fs.map (·.1)).length ≤ sizeLine := by rw [List.length_map, sizeLine_eq]; omega
  refine set_map I.kIn O c.sa c.po n.taker c.hd wi hz fun h' O' sb => h _ ?_
  have hd : ∃ o, h'.get? dx = some o := let ⟨o, _, _, e', _⟩ := O'.ns; ⟨o, e'⟩
  refine I.write (x := a) (e := dx) (by rw [e]; exact True.intro) (.inr ho) (fun b q hb z => (sb.2 b hb).trans z) hd ?_
  refine ⟨by rw [upd_ne O.ne]; exact ho, ?_, O.ne, O'.obj, _, O'.ns, fun g => ?_, fun g hg => ?_⟩
  · have := length_putF f y fs; omega
  · show RelO ((putF f y fs).lookup g) (if g = f then some u else mA g)
    rw [lookup_putF]
    by_cases q : g = f
    · rw [if_pos q, if_pos q]; exact ry
    · rw [if_neg q, if_neg q]; exact r g
  · by_cases q : g = f
    · rw [q]; exact (keys_putF f y fs).1
    · refine (keys_putF f y fs).2 g (wi g fun z => hg ?_)
      show (if g = f then some u else mA g) = none
      rw [if_neg q]; exact z

/-- a new instance, tracked, without attributes -/
theorem Inv.made (I : Inv X pins σ H s) : Inv X pins σ (upd (upd H s.heap.objs.size (.own (s.heap.objs.size + 1))) (s.heap.objs.size + 1) (.ins C s.heap.objs.size []))
    { s with heap := (s.heap.push PySem.W.emptyDict).push (PySem.W.instObj C s.heap.objs.size) } := by
  have e1 : (s.heap.push PySem.W.emptyDict).get? s.heap.objs.size = some PySem.W.emptyDict := Heap.get?_push_size s.heap rfl
  have e2 : ((s.heap.push PySem.W.emptyDict).push (PySem.W.instObj C s.heap.objs.size)).get? (s.heap.objs.size + 1) = some (PySem.W.instObj C s.heap.objs.size) := by
    have := Heap.get?_push_size (s.heap.push PySem.W.emptyDict) (o := PySem.W.instObj C s.heap.objs.size) rfl
    rwa [Heap.size_push] at this
  have e3 : (s.heap.push PySem.W.emptyDict).Ns s.heap.objs.size (fun _ => none) := ⟨PySem.W.emptyDict, #[], _, e1, rfl, (fun e he => absurd he (by simp)), fun _ => rfl⟩
  have I1 := I.laid (a := s.heap.objs.size) (o := .own (s.heap.objs.size + 1)) (h' := s.heap.push PySem.W.emptyDict) (t' := s.toks) (fun b u q => Heap.get?_push_of_some _ q) (Nat.le_refl _) ⟨_, e1⟩
  refine I1.laid (a := s.heap.objs.size + 1) (o := .ins C s.heap.objs.size []) (t' := s.toks) (fun b u q => Heap.get?_push_of_some _ q) (Nat.le_of_eq (Heap.size_push _ _)) ?_
  have ne : s.heap.objs.size ≠ s.heap.objs.size + 1 := Nat.ne_of_lt (Nat.lt_succ_self _)
  refine ⟨by rw [upd_ne ne, upd_same], Nat.zero_le _, ne, e2, fun _ => none, (Heap.Ns1.of_empty e3).at fun o q => Heap.get?_push_of_some _ q, fun _ => True.intro, fun y hy => absurd rfl hy⟩

/-- e.f where nothing but the object is asked: through attributeBase (super) and the last hold -/
theorem attr_of {prog : Program} {w : World} {env : Env} {e : Expr} {f : Str} {pos : Pos} {s : Shared} {Q : Value → Shared → Prop} (hb : attributeBase e f env (eval e env) = eval e env)
    (h : wpAny (model prog w) A (eval e env) (fun o s₁ => wpAny (model prog w) A (getAttr o f true) Q E s₁) E s) : wpAny (model prog w) A (eval (.Attribute e f pos) env) Q E s :=
  Attribute_any_ h (by rw [arm_eval_Attribute, hb])
end

/-! ### readings and rules -/
/-- e.f, an attribute of the instance -/
def tFld (K : PySem.W.Frag) (ta : TE) (f : Str) : TE := fun σ H Q => ta σ H fun x H1 => ∃ a C dx fs v, x = .ref a ∧ H1 a = some (.ins C dx fs) ∧ Cls K C ∧ NoAttr K C f ∧ fs.lookup f = some v ∧ Q v H1
/-- e.f, a constant of the class -/
def tCon (K : PySem.W.Frag) (ta : TE) (f : Str) : TE := fun σ H Q => ta σ H fun x H1 => ∃ a C dx fs v u, x = .ref a ∧ H1 a = some (.ins C dx fs) ∧ Cls K C ∧ Con K C f v u ∧ fs.lookup f = none ∧ Q v H1
/-- e.f = value -/
def sFld (K : PySem.W.Frag) (ta tv : TE) (f : Str) : TS := fun D σ H => tv σ H fun y H1 => ta σ H1 fun x H2 => ∃ a C dx fs, x = .ref a ∧ H2 a = some (.ins C dx fs) ∧ Cls K C ∧ NoAttr K C f ∧ fs.length < 1000 ∧
  D.nx σ (upd H2 a (.ins C dx (putF f y fs)))
/-- an augmented operator on two values -/
def InOp (X : Cx) (op : Operator) (rd : V → V → Hp → VK → Prop) : Prop :=
  ∀ (pins : List (Addr × Obj)) (s : Shared) (σ : St) (H : Hp) (x y : V) (u v : Value) (Q : VK), Inv X pins σ H s → RelV x u → RelV y v → rd x y H Q → wpAny (model X.prog X.w) X.A (inplaceOp op u v) (EP X pins σ Q) X.xe s
/-- e.f op= value -/
def sFldAug (K : PySem.W.Frag) (ta tv : TE) (rd : V → V → Hp → VK → Prop) (f : Str) : TS := fun D σ H => ta σ H fun x H1 => ∃ a C dx fs v, x = .ref a ∧ H1 a = some (.ins C dx fs) ∧ Cls K C ∧ NoAttr K C f ∧ fs.lookup f = some v ∧
  tv σ H1 fun y H2 => rd v y H2 fun z H3 => ∃ dx' fs', H3 a = some (.ins C dx' fs') ∧ fs'.length < 1000 ∧ D.nx σ (upd H3 a (.ins C dx' (putF f z fs')))

section
variable {X : Cx} {o e value : Expr} {f : Str} {pos pos' tpos : Pos} {ta tv : TE}
theorem pe_fld (he : PE X e ta) (hb : attributeBase e f X.env (eval e X.env) = eval e X.env) : PE X (.Attribute e f pos) (tFld X.K ta f) := by
  intro pins s σ H Q I h
  refine attr_of hb (thn (he pins s σ H _ I h) fun u s1 ⟨x, H1, I1, rx, a, C, dx, fs, v, ex, ea, c, n, l, q⟩ => ?_)
  subst ex
  obtain rfl : u = Value.ref a := rx
  exact getattr_ok I1 ea c n l fun u' s2 I2 ru => ⟨v, H1, I2, ru, q⟩
theorem pe_con (he : PE X e ta) (hb : attributeBase e f X.env (eval e X.env) = eval e X.env) : PE X (.Attribute e f pos) (tCon X.K ta f) := by
  intro pins s σ H Q I h
  refine attr_of hb (thn (he pins s σ H _ I h) fun u s1 ⟨x, H1, I1, rx, a, C, dx, fs, v, u0, ex, ea, c, k, l, q⟩ => ?_)
  subst ex
  obtain rfl : u = Value.ref a := rx
  exact getcon_ok I1 ea c k l fun s2 I2 => ⟨v, H1, I2, k.rel, q⟩
theorem ps_fld (ha : PE X o ta) (hv : PE X value tv) (hs : swapsWith value (some (.Attribute o f pos')) pos.line X.env = pure false) : PS X (.Assign [.Attribute o f pos'] value pos) (sFld X.K ta tv f) := by
  intro pins s σ H D I h
  refine plainObj_wpAny_Assign_Attribute (thn (hv pins s σ H _ I h) fun u s1 ⟨y, H1, I1, ry, q⟩ => thn (ha pins s1 σ H1 _ I1 q) fun ov s2 ⟨x, H2, I2, rx, a, C, dx, fs, ex, ea, c, n, l, q2⟩ => ?_) hs
  subst ex
  obtain rfl : ov = Value.ref a := rx
  exact setattr_ok I2 ea c n l ry fun s3 I3 => ⟨σ, _, I3, q2⟩
theorem ps_fldaug {op : Operator} {rd : V → V → Hp → VK → Prop} (ha : PE X o ta) (hv : PE X value tv) (hop : InOp X op rd) : PS X (.AugAssign (.Attribute o f tpos) op value pos) (sFldAug X.K ta tv rd f) := by
  intro pins s σ H D I h
  refine wpAny_AugAssign_AttributeAny (thn (ha pins s σ H _ I h) fun ov s1 ⟨x, H1, I1, rx, a, C, dx, fs, v, ex, ea, c, n, l, q⟩ => ?_)
  subst ex
  obtain rfl : ov = Value.ref a := rx
  refine getattr_ok I1 ea c n l fun u s2 I2 ru => thn (hv pins s2 σ H1 _ I2 q) fun w3 s3 ⟨y, H2, I3, ry, q3⟩ => thn (hop pins s3 σ H2 v y u w3 _ I3 ru ry q3) fun w4 s4 ⟨z, H3, I4, rz, dx', fs', ea', l', q4⟩ => ?_
  exact setattr_ok I4 ea' c n l' rz fun s5 I5 => ⟨σ, _, I5, q4⟩
def rAdd : V → V → Hp → VK → Prop := fun x y H Q => ∃ i j, x = .int i ∧ y = .int j ∧ Q (.int (i + j)) H
def rSub : V → V → Hp → VK → Prop := fun x y H Q => ∃ i j, x = .int i ∧ y = .int j ∧ Q (.int (i - j)) H
theorem in_add : InOp X .Add rAdd := by
  rintro pins s σ H x y u v Q I rx ry ⟨i, j, rfl, rfl, q⟩
  obtain ⟨t, rfl⟩ := (show ∃ t, u = Value.int i t from rx)
  obtain ⟨t', rfl⟩ := (show ∃ t', v = Value.int j t' from ry)
  exact PyProof.Rows.iadd_int ⟨.int (i + j), H, I.tok _, ⟨_, rfl⟩, q⟩
theorem in_sub : InOp X .Sub rSub := by
  rintro pins s σ H x y u v Q I rx ry ⟨i, j, rfl, rfl, q⟩
  obtain ⟨t, rfl⟩ := (show ∃ t, u = Value.int i t from rx)
  obtain ⟨t', rfl⟩ := (show ∃ t', v = Value.int j t' from ry)
  exact PyProof.Rows.isub_int ⟨.int (i - j), H, I.tok _, ⟨_, rfl⟩, q⟩

/-- what is between an instance and its method: the tree of a method call -/
theorem methcall_of {pl : Sem Bool} {m : Str} {apos : Pos} {args : List Expr} {pins : List (Addr × Obj)} {s : Shared} {σ : St} {H : Hp} {Q : Value → Shared → Prop} {te : TE} (he : PE X e te) (I : Inv X pins σ H s)
    (h : te σ H fun x H1 => ∃ a C dx fs g, x = .ref a ∧ H1 a = some (.ins C dx fs) ∧ Cls X.K C ∧ Meth X.K C m g ∧ fs.lookup m = none ∧
      ∀ s1, Inv X pins σ H1 s1 → wpAny (model X.prog X.w) X.A (callWith pos (.ref g) [.ref a] (backTo pos (starEach args X.env)) (backToKw pos (keywordEach [] X.env))) Q X.xe s1)
    (ht : eval (.Call (.Attribute e m apos) args [] pos) X.env = (do
      let ov ← eval e X.env
      standAt apos.atName
      let (f, first) ← holding [ov] (getMethod ov m pl)
      callWith pos f first (backTo pos (starEach args X.env)) (backToKw pos (keywordEach [] X.env)))) :
    wpAny (model X.prog X.w) X.A (eval (.Call (.Attribute e m apos) args [] pos) X.env) Q X.xe s := by
  refine PySem.W.methodCall_KW (pl := pl) (thn (he pins s σ H _ I h) fun u s1 ⟨x, H1, I1, rx, a, C, dx, fs, g, ex, ea, c, k, l, q⟩ => ?_) ht
  subst ex
  obtain rfl : u = Value.ref a := rx
  exact getmeth_ok I1 ea c k l (q s1 I1)
end

/-! ### isinstance -/
section
variable {X : Cx} {pins : List (Addr × Obj)} {σ : St} {H : Hp} {s : Shared} {A : Around} {E : Value → Shared → Prop} {Q : Value → Shared → Prop} {c : Value} {b : Bool}
/-- the type of a value, as the fragment's deciders take it; for an instance its class -/
inductive TyOf (K : PySem.W.Frag) (H : Hp) : V → Value → Prop where
  | non : TyOf K H .non (.type "NoneType")
  | bl (x : Bool) : TyOf K H (.bl x) (.type "bool")
  | int (i : Int) : TyOf K H (.int i) (.type "int")
  | str (x : Str) : TyOf K H (.str x) (.type "str")
  | flt (x : UInt64) : TyOf K H (.flt x) (.type "float")
  | lst {a : Addr} {xs : List V} (e : H a = some (.lst xs)) : TyOf K H (.ref a) (.type "list")
  | frz {a : Addr} {o : Obj} {xs : List V} (e : H a = some (.frz o (.lst xs))) : TyOf K H (.ref a) (.type "list")
  | tup {a : Addr} {xs : List V} (e : H a = some (.tup xs)) : TyOf K H (.ref a) (.type "tuple")
  | dK {a : Addr} {kvs : List (Key × V)} (e : H a = some (.dK kvs)) : TyOf K H (.ref a) (.type "dict")
  | dT {a : Addr} {kvs : List (List Key × V)} (e : H a = some (.dT kvs)) : TyOf K H (.ref a) (.type "dict")
  | ins {a C dx : Addr} {fs : List (Str × V)} (e : H a = some (.ins C dx fs)) (cl : Cls K C) (ha : PySem.W.findIn K (.ref C) "__class__" = some (some (.builtin "object.__class__")))
      (hn : PySem.W.specialIn K (.builtin "object.__class__") "__get__" = some (some (.builtin "getset_descriptor.__get__"))) (htk : PySem.W.takesIn K (.builtin "object.__class__") = some true)
      (hm : PySem.W.mroIn K C (.type "object") = some true) : TyOf K H (.ref a) (.ref C)
/-- isinstance(x, c) for one class c, a built-in or an own one: kitOne's answer -/
theorem isinst_ok {x : V} {u t : Value} (I : Inv X pins σ H s) (rx : RelV x u) (ty : TyOf X.K H x t) (e : PySem.W.kitOne X.K t c = some b) (h : ∀ tk, Q (.bool b) { s with toks := tk }) :
    wpAny (model X.prog X.w) A (call (.builtin "isinstance") [u, c]) Q E s := by
  cases ty with
  | non => cases (show u = Value.none from rx); exact PySem.W.kia_one PySem.W.kitx_none I.kIn True.intro e (fun z => nomatch z) h
  | bl y => cases (show u = Value.bool y from rx); exact PySem.W.kia_one PySem.W.kitx_bool I.kIn True.intro e (fun z => nomatch z) h
  | int i => obtain ⟨t, q⟩ := (show ∃ t, u = Value.int i t from rx); cases q; exact PySem.W.kia_one PySem.W.kitx_int I.kIn True.intro e (fun z => nomatch z) h
  | str y => obtain ⟨t, q⟩ := (show ∃ t, u = Value.str y t from rx); cases q; exact PySem.W.kia_one PySem.W.kitx_str I.kIn True.intro e (fun z => nomatch z) h
  | flt y => obtain ⟨t, q⟩ := (show ∃ t, u = Value.float y t from rx); cases q; exact PySem.W.kia_one PySem.W.kitx_float I.kIn True.intro e (fun z => nomatch z) h
  | @lst a xs ea =>
    cases (show u = Value.ref a from rx)
    obtain ⟨_, _, n, _, h1⟩ := (show ObjOk X.prog X.w H s.heap a (.lst xs) from I.hok a _ ea)
    exact PySem.W.kia_one PySem.W.kitx_list I.kIn ⟨_, h1, rfl⟩ e (fun z => nomatch z) h
  | @frz a ob xs ea =>
    cases (show u = Value.ref a from rx)
    obtain ⟨_, _, _, n, _, h1⟩ := (show ObjOk X.prog X.w H s.heap a (.frz ob (.lst xs)) from I.hok a _ ea)
    exact PySem.W.kia_one PySem.W.kitx_list I.kIn ⟨_, h1, rfl⟩ e (fun z => nomatch z) h
  | @tup a xs ea =>
    cases (show u = Value.ref a from rx)
    obtain ⟨_, _, _, p⟩ := (show ObjOk X.prog X.w H s.heap a (.tup xs) from I.hok a _ ea)
    obtain ⟨o, h1, h2, _⟩ := p
    exact PySem.W.kia_one PySem.W.kitx_tuple I.kIn ⟨o, h1, h2⟩ e (fun z => nomatch z) h
  | @dK a kvs ea =>
    cases (show u = Value.ref a from rx)
    obtain ⟨_, _, vs, _, p⟩ := (show ObjOk X.prog X.w H s.heap a (.dK kvs) from I.hok a _ ea)
    obtain ⟨o, es, ep, h1, h2, _⟩ := p
    exact PySem.W.kia_one PySem.W.kitx_dict I.kIn ⟨o, h1, h2.1⟩ e (fun z => nomatch z) h
  | @dT a kvs ea =>
    cases (show u = Value.ref a from rx)
    obtain ⟨_, _, xs, _, o, es, ep, h1, h2, _⟩ := (show ObjOk X.prog X.w H s.heap a (.dT kvs) from I.hok a _ ea)
    exact PySem.W.kia_one PySem.W.kitx_dict I.kIn ⟨o, h1, h2.1⟩ e (fun z => nomatch z) h
  | @ins a C dx fs ea cl ha hn htk hm =>
    cases (show u = Value.ref a from rx)
    obtain ⟨mA, O, _⟩ := ins_get I.hok ea
    obtain ⟨od, J, _⟩ := O.look
    exact PySem.W.kia_one (PySem.W.kitx_own (cl.get _) cl.hd ha hn htk hm) I.kIn J e (fun z => nomatch z) h
end
end L2

namespace L2
open PySem PySem.Spec PyProof.Rows

/-! ### room -/
structure Room (k : Nat) (A : Around) : Prop where
  hd : A.handled = none
  dp : A.depth + 3 * k + 5 < recursionLimit
  un : A.units + 16 * k + 200 < cLine
theorem Room.mono {j k : Nat} {A : Around} (r : Room k A) (h : j ≤ k) : Room j A := ⟨r.hd, by have := r.dp; omega, by have := r.un; omega⟩
theorem Room.deeper {k : Nat} {A : Around} (r : Room (k + 1) A) (env : Env) : Room k (A.deeper env) :=
  ⟨r.hd, by have := r.dp; show A.depth + 1 + 3 * k + 5 < _; omega, by have := r.un; show A.units + 3 + 16 * k + 200 < _; omega⟩
theorem Room.in1 {k : Nat} {A : Around} (r : Room (k + 1) A) : Room k A.in1 :=
  ⟨r.hd, by have := r.dp; show A.depth + 3 * k + 5 < _; omega, by have := r.un; show A.units + 1 + 16 * k + 200 < _; omega⟩
theorem make_depth {A : Around} {C : Addr} {us : List Value} {kw : List (Str × Value)} : (A.under (.builtin "type.__call__" ⟨.ref C :: us, kw⟩)).depth = A.depth + 1 := by
  first | rfl | simp [Around.under, Code.weight, Code.isCreation, Code.isGuard, Code.isCaller, Code.frames, Code.isFrame, guardIds]
theorem make_units {A : Around} {C : Addr} {us : List Value} {kw : List (Str × Value)} : (A.under (.builtin "type.__call__" ⟨.ref C :: us, kw⟩)).units = A.units + 1 := by
  first | rfl | simp [Around.under, Code.cUnits, Code.frames, Code.isFrame]
theorem Room.make {k : Nat} {A : Around} (r : Room (k + 1) A) (C : Addr) (us : List Value) (kw : List (Str × Value)) : Room k (A.under (.builtin "type.__call__" ⟨.ref C :: us, kw⟩)) :=
  ⟨r.hd, by have := r.dp; rw [make_depth]; omega, by have := r.un; rw [make_units]; omega⟩
theorem Room.depth {k : Nat} {A : Around} (r : Room k A) : A.depth < recursionLimit := by have := r.dp; omega
theorem Room.units {k : Nat} {A : Around} (r : Room k A) : A.units + 64 < cLine := by have := r.un; omega
theorem Room.units0 {k : Nat} {A : Around} (r : Room k A) : A.units < cLine := by have := r.un; omega

/-! ### argument lists and displays -/
def tNil : TA := fun _ H Q => Q [] H
def tCons (ta : TE) (tr : TA) : TA := fun σ H Q => ta σ H fun x H1 => tr σ H1 fun xs H2 => Q (x :: xs) H2
section
variable {X : Cx} {e : Expr} {es : List Expr} {te : TE} {t : TA} {pos : Pos}
theorem pa_nil : PA X [] tNil := fun _ _ _ _ H Q I h => Calls.spliced_nil ⟨[], H, I, .nil, h⟩
theorem pa_cons (ha : PE X e te) (hr : PA X es t) (hs : starEach (e :: es) X.env = (false, eval e X.env) :: starEach es X.env := by rfl) : PA X (e :: es) (tCons te t) := by
  intro pos pins s σ H Q I h
  rw [hs]
  show wpAny _ _ (spliced ((false, eval e X.env) :: backTo pos (starEach es X.env))) _ _ s
  refine Calls.spliced_cons (thn (ha pins s σ H _ I h) fun u s1 ⟨x, H1, I1, r1, q1⟩ => ?_)
  exact thn (hr pos pins s1 σ H1 _ I1 q1) fun us s2 ⟨xs, H2, I2, r2, q2⟩ => ⟨x :: xs, H2, I2, .cons r1 r2, q2⟩

/-- a tuple, a list of written items -/
def tTup (t : TA) : TE := fun σ H Q => t σ H fun xs H1 => xs.length ≤ sizeLine ∧ ∀ p, H1 p = none → Q (.ref p) (upd H1 p (.tup xs))
def tLst (t : TA) : TE := fun σ H Q => t σ H fun xs H1 => xs.length ≤ sizeLine ∧ ∀ p, H1 p = none → Q (.ref p) (upd H1 p (.lst xs))
theorem pe_tup {x1} (h : PA X es t) : PE X (.Tuple es x1 pos) (tTup t) := by
  intro pins s σ H Q I hq
  refine wpAny_Tuple_spliced (thn (h pos pins s σ H _ I hq) fun us s1 ⟨xs, H1, I1, r, z, q⟩ => ⟨by rw [← r.length]; exact z, ?_⟩)
  have hf : H1 s1.heap.objs.size = none := I1.hok.fresh (Nat.le_refl _)
  refine ⟨.ref s1.heap.objs.size, upd H1 s1.heap.objs.size (.tup xs), I1.laid (t' := s1.toks) (fun b u e => Heap.get?_push_of_some _ e) (Nat.le_refl _) ?_, rfl, q _ hf⟩
  exact ⟨z, us, r, ⟨_, Heap.get?_push_size _ rfl, rfl, _, rfl⟩⟩
theorem pe_lst (h : PA X es t) : PE X (.List es pos) (tLst t) := by
  intro pins s σ H Q I hq
  refine wpAny_List_spliced (thn (h pos pins s σ H _ I hq) fun us s1 ⟨xs, H1, I1, r, z, q⟩ => ⟨by rw [← r.length]; exact z, ?_⟩)
  have hf : H1 s1.heap.objs.size = none := I1.hok.fresh (Nat.le_refl _)
  refine ⟨.ref s1.heap.objs.size, upd H1 s1.heap.objs.size (.lst xs), I1.laid (t' := s1.toks) (fun b u e => Heap.get?_push_of_some _ e) (Nat.le_refl _) ?_, rfl, q _ hf⟩
  exact ⟨z, us, 0, r, Heap.get?_push_size _ rfl⟩
end

/-! ### what a def promises -/
/-- a def's promise: the bound arguments in the parameters' order, the heap, the wanted end, the wanted exception -/
abbrev Sp := List V → Hp → VK → XK → Prop
/-- how an exception lies behind a call (file 08 gives it): the callers' frames, abstract heap and state ahead of the call, the wish, the exception, the state -/
abbrev CXT := List Env → Hp → Shared → XK → Value → Shared → Prop

/-- the state at a call -/
structure Env0 (P : Program) (w : World) (K : PySem.W.Frag) (mg : Str → Option Value) (base : Heap) (A : Around) (outer : List Env) (s : Shared) (H : Hp) : Prop where
  frames : A.frames = some outer
  mod : Mod K mg base
  bs : ∀ b o, base.get? b = some o → s.heap.get? b = some o ∧ H b = none
  bsz : base.objs.size ≤ s.heap.objs.size
  funs : s.heap.FunFrames base outer
  frf : ∀ b ∈ frs outer, H b = none
  hok : HOk P w H s.heap
  bare : AllBare s.gens
/-- a call's end -/
def CE (outer : List Env) (P : Program) (w : World) (H : Hp) (s : Shared) (Q : VK) (u : Value) (s' : Shared) : Prop :=
  ∃ v H', s'.os = s.os ∧ AllBare s'.gens ∧ Un (frs outer) [] H H' s.heap s'.heap ∧ HOk P w H' s'.heap ∧ RelV v u ∧ Q v H'
def CR (CX : CXT) (outer : List Env) (P : Program) (w : World) (H : Hp) (s : Shared) (Q : VK) (E : XK) (r : Result) (s' : Shared) : Prop :=
  match r with
  | .ok (.ret u) => CE outer P w H s Q u s'
  | .ok _ => False
  | .error e => CX outer H s E e s'
structure FnOk (P : Program) (w : World) (K : PySem.W.Frag) (mg : Str → Option Value) (base : Heap) (CX : CXT) (k : Nat) (f : Addr) (fd : FuncData) (ps : List Str) (sp : Sp) : Prop where
  len : ∀ vs H Q E, sp vs H Q E → vs.length = ps.length
  run : ∀ (A : Around) (outer : List Env) (s : Shared) (H : Hp) (args : Args) (us : List Value) (vs : List V) (Q : VK) (E : XK), Room k A → Env0 P w K mg base A outer s H → BindsTo s fd args (ps.zip us) → Vals vs us → sp vs H Q E →
    codeAny (model P w) A (.call (.ref f) args) (CR CX outer P w H s Q E) s
theorem FnOk.mono {P : Program} {w : World} {K : PySem.W.Frag} {mg : Str → Option Value} {base : Heap} {CX : CXT} {j k : Nat} {f : Addr} {fd : FuncData} {ps : List Str} {sp : Sp} (F : FnOk P w K mg base CX j f fd ps sp) (h : j ≤ k) :
    FnOk P w K mg base CX k f fd ps sp := ⟨F.len, fun A outer s H args us vs Q E hr => F.run A outer s H args us vs Q E (hr.mono h)⟩
/-- a weaker promise -/
theorem FnOk.imp {P : Program} {w : World} {K : PySem.W.Frag} {mg : Str → Option Value} {base : Heap} {CX : CXT} {k : Nat} {f : Addr} {fd : FuncData} {ps : List Str} {sp sp' : Sp} (F : FnOk P w K mg base CX k f fd ps sp)
    (h : ∀ vs H Q E, sp' vs H Q E → sp vs H Q E) : FnOk P w K mg base CX k f fd ps sp' :=
  ⟨fun vs H Q E q => F.len vs H Q E (h _ _ _ _ q), fun A outer s H args us vs Q E hr he hb hv hs => F.run A outer s H args us vs Q E hr he hb hv (h _ _ _ _ hs)⟩

theorem Env0.make {P : Program} {w : World} {K : PySem.W.Frag} {mg : Str → Option Value} {base : Heap} {A : Around} {outer : List Env} {s : Shared} {H : Hp} (e : Env0 P w K mg base A outer s H) (C : Addr) (us : List Value) (kw : List (Str × Value)) :
    Env0 P w K mg base (A.under (.builtin "type.__call__" ⟨.ref C :: us, kw⟩)) outer s H := ⟨by first | exact e.frames | (simpa [Around.under, Code.envs, Code.isFrame, pushEnvs] using e.frames), e.mod, e.bs, e.bsz, e.funs, e.frf, e.hok, e.bare⟩
theorem Env0.in1 {P : Program} {w : World} {K : PySem.W.Frag} {mg : Str → Option Value} {base : Heap} {A : Around} {outer : List Env} {s : Shared} {H : Hp} (e : Env0 P w K mg base A outer s H) :
    Env0 P w K mg base A.in1 outer s H := ⟨e.frames, e.mod, e.bs, e.bsz, e.funs, e.frf, e.hok, e.bare⟩

section
variable {X : Cx} {pins : List (Addr × Obj)} {σ : St} {H : Hp} {s s' : Shared}
/-- from a body: what a callee wants -/
theorem Inv.env0 (I : Inv X pins σ H s) : Env0 X.prog X.w X.K X.mg X.base X.A X.stack s H :=
  ⟨I.ok.frames, I.ok.mod, I.bs, Nat.le_trans I.ok.bsz I.sz, I.stack, I.stkFree, I.hok, I.bare⟩
/-- behind a call -/
theorem Inv.after {Q : VK} {u : Value} (I : Inv X pins σ H s) (h : CE X.stack X.prog X.w H s Q u s') : EP X pins σ Q u s' := by
  obtain ⟨v, H', os, bare, un, hok, r, q⟩ := h
  obtain ⟨hh, g, d, t, os'⟩ := s'
  obtain rfl : os' = s.os := os
  exact ⟨v, H', I.call (h' := hh) (g' := g) (d' := d) (t' := t) (ch := []) un hok bare (fun b z => absurd z (by simp)), r, q⟩
end

/-! ### calls -/
/-- f(..): the written arguments, then the defaults dvs; E: what is wanted of an exception -/
def tCall (sp : Sp) (dvs : List V) (E : XK) (t : TA) : TE := fun σ H Q => t σ H fun vs H1 => sp (vs ++ dvs) H1 Q E
/-- o.m(..) of an instance of the class at C -/
def tMeth (C : Addr) (m : Str) (sp : Sp) (dvs : List V) (E : XK) (ta : TE) (t : TA) : TE := fun σ H Q => ta σ H fun x H1 => ∃ a dx fs, x = .ref a ∧ H1 a = some (.ins C dx fs) ∧ fs.lookup m = none ∧
  t σ H1 fun vs H2 => sp (x :: (vs ++ dvs)) H2 Q E
/-- C(..): a new instance and its dict, then __init__ -/
def tMake (C : Addr) (sp : Sp) (dvs : List V) (E : XK) (t : TA) : TE := fun σ H Q => t σ H fun vs H1 => ∀ x dx, H1 x = none → H1 dx = none → dx ≠ x →
  sp (.ref x :: (vs ++ dvs)) (upd (upd H1 dx (.own x)) x (.ins C dx [])) (fun v H2 => v = .non ∧ Q (.ref x) H2) E

/-- how the parameters are bound: us the positional arguments, kw the keywords' values by name, ds the defaults that fill up -/
def Binds (K : PySem.W.Frag) (fd : FuncData) (ps : List Str) (ds : List Value) : Prop :=
  ∀ (s : Shared) (us : List Value), K.In s.heap → (us ++ ds).length = ps.length → BindsTo s fd ⟨us, []⟩ (ps.zip (us ++ ds))
/-- every parameter is given -/
theorem Binds.all {K : PySem.W.Frag} {fd : FuncData} {ps : List Str} (h : ∀ us : List Value, us.length = ps.length → bindArgs fd ⟨us, []⟩ = pure (ps.zip us)) : Binds K fd ps [] := fun s us _ hl => by
  rw [List.append_nil] at hl ⊢
  exact .of_eq (h us hl)

/-- an exception of a callee reaches what this body wants of exceptions -/
def Passes (CX : CXT) (X : Cx) (E : XK) : Prop := ∀ (pins : List (Addr × Obj)) (σ : St) (H : Hp) (s : Shared) (e : Value) (s' : Shared), Inv X pins σ H s → CX X.stack H s E e s' → X.xe e s'

section
variable {X : Cx} {CX : CXT} {k : Nat} {f C : Addr} {fd : FuncData} {ps : List Str} {sp : Sp} {dvs : List V} {ds : List Value} {E : XK} {x m : Str} {p pos apos : Pos} {e o : Expr} {es : List Expr} {ta : TE} {t : TA}

/-- the callee runs -/
theorem run_fn {pins : List (Addr × Obj)} {σ : St} {H : Hp} {s : Shared} {Q : VK} {us : List Value} {vs : List V} (F : FnOk X.prog X.w X.K X.mg X.base CX k f fd ps sp) (hr : Room k X.A) (hb : Binds X.K fd ps ds) (hd : Vals dvs ds) (hx : Passes CX X E)
    (I : Inv X pins σ H s) (r : Vals vs us) (h : sp (vs ++ dvs) H Q E) : wpAny (model X.prog X.w) X.A (call (.ref f) us) (EP X pins σ Q) X.xe s := by
  have r2 : Vals (vs ++ dvs) (us ++ ds) := r.append hd
  have hl : (us ++ ds).length = ps.length := by rw [← r2.length]; exact F.len _ _ _ _ h
  refine wpAny_call (codeAny_mono (F.run X.A X.stack s H ⟨us, []⟩ (us ++ ds) (vs ++ dvs) Q E hr I.env0 (hb s us I.kIn hl) r2 h) fun r s' hq => ?_)
  cases r with
  | error e => exact hx pins σ H s e s' I hq
  | ok fl =>
    cases fl with
    | ret u => exact I.after hq
    | next => exact False.elim hq
    | brk => exact False.elim hq
    | cont => exact False.elim hq

theorem pe_call (F : FnOk X.prog X.w X.K X.mg X.base CX k f fd ps sp) (hr : Room k X.A) (hg : Gl X x) (hm : X.mg x = some (.ref f)) (hk : PySem.W.keepIn X.K (.ref f) = true) (hb : Binds X.K fd ps ds) (hd : Vals dvs ds) (hx : Passes CX X E)
    (ha : PA X (e :: es) t) (hdb : (x == ("__debug__" : Str)) = false := by decide) (he : starEach (e :: es) X.env = (false, eval e X.env) :: starEach es X.env := by rfl) (hpl : (backTo pos (starEach es X.env)).any (·.1) = false := by rfl) :
    PE X (.Call (.Name x p) (e :: es) [] pos) (tCall sp dvs E t) := by
  intro pins s σ H Q I h
  refine wpAny_Call_Name_kw (ld_glob I hg hm ?_ hdb)
  refine PySem.W.callWith_K (h₀ := X.base) I.ok.mod.kin hk (thn (ha pos pins s σ H _ I h) fun us s1 ⟨vs, H1, I1, r, q⟩ => ⟨I1.kIn, ?_⟩) he hpl
  exact run_fn F hr hb hd hx I1 r q
theorem pe_call0 (F : FnOk X.prog X.w X.K X.mg X.base CX k f fd ps sp) (hr : Room k X.A) (hg : Gl X x) (hm : X.mg x = some (.ref f)) (hk : PySem.W.keepIn X.K (.ref f) = true) (hb : Binds X.K fd ps ds) (hd : Vals dvs ds) (hx : Passes CX X E)
    (hdb : (x == ("__debug__" : Str)) = false := by decide) : PE X (.Call (.Name x p) [] [] pos) (tCall sp dvs E tNil) := by
  intro pins s σ H Q I h
  refine wpAny_Call_Name_kw (ld_glob I hg hm ?_ hdb)
  exact PySem.W.callWith_K0 I.kIn hk (run_fn (us := []) F hr hb hd hx I .nil h)

/-- o.m(e, ..) -/
theorem pe_meth {pl : Sem Bool} (he : PE X o ta) (c : Cls X.K C) (hm : Meth X.K C m f) (F : FnOk X.prog X.w X.K X.mg X.base CX k f fd ps sp) (hr : Room k X.A) (hb : Binds X.K fd ps ds) (hd : Vals dvs ds) (hx : Passes CX X E) (ha : PA X (e :: es) t)
    (hst : starEach (e :: es) X.env = (false, eval e X.env) :: starEach es X.env := by rfl) (hpl : (backTo pos (starEach es X.env)).any (·.1) = false := by rfl)
    (ht : eval (.Call (.Attribute o m apos) (e :: es) [] pos) X.env = (do
      let ov ← eval o X.env
      standAt apos.atName
      let (f, first) ← holding [ov] (getMethod ov m pl)
      callWith pos f first (backTo pos (starEach (e :: es) X.env)) (backToKw pos (keywordEach [] X.env))) := by rfl) :
    PE X (.Call (.Attribute o m apos) (e :: es) [] pos) (tMeth C m sp dvs E ta t) := by
  intro pins s σ H Q I h
  refine PySem.W.methodCall_KW (pl := pl) (thn (he pins s σ H _ I h) fun u s1 ⟨x, H1, I1, rx, a, dx, fs, ex, ea, l, q⟩ => ?_) ht
  subst ex
  obtain rfl : u = Value.ref a := rx
  refine getmeth_ok I1 ea c hm l ?_
  refine PySem.W.callWith_K (first := [.ref a]) (h₀ := X.base) I.ok.mod.kin hm.kp (thn (ha pos pins s1 σ H1 _ I1 q) fun us s2 ⟨vs, H2, I2, r, q2⟩ => ⟨I2.kIn, ?_⟩) hst hpl
  exact run_fn (us := .ref a :: us) (vs := .ref a :: vs) F hr hb hd hx I2 (.cons rfl r) q2
/-- o.m() -/
theorem pe_meth0 {pl : Sem Bool} (he : PE X o ta) (c : Cls X.K C) (hm : Meth X.K C m f) (F : FnOk X.prog X.w X.K X.mg X.base CX k f fd ps sp) (hr : Room k X.A) (hb : Binds X.K fd ps ds) (hd : Vals dvs ds) (hx : Passes CX X E)
    (ht : eval (.Call (.Attribute o m apos) [] [] pos) X.env = (do
      let ov ← eval o X.env
      standAt apos.atName
      let (f, first) ← holding [ov] (getMethod ov m pl)
      callWith pos f first (backTo pos (starEach [] X.env)) (backToKw pos (keywordEach [] X.env))) := by rfl) :
    PE X (.Call (.Attribute o m apos) [] [] pos) (tMeth C m sp dvs E ta tNil) := by
  intro pins s σ H Q I h
  refine PySem.W.methodCall_KW (pl := pl) (thn (he pins s σ H _ I h) fun u s1 ⟨x, H1, I1, rx, a, dx, fs, ex, ea, l, q⟩ => ?_) ht
  subst ex
  obtain rfl : u = Value.ref a := rx
  refine getmeth_ok I1 ea c hm l ?_
  exact PySem.W.callWith_K0 (first := [.ref a]) I1.kIn hm.kp (run_fn (us := [.ref a]) (vs := [.ref a]) F hr hb hd hx I1 (.cons rfl .nil) q)

/-- what a class must have to be made -/
structure Mk (K : PySem.W.Frag) (C f : Addr) : Prop where
  makes : PySem.W.makesIn K C = true
  init : PySem.W.findIn K (.ref C) "__init__" = some (some (.ref f))
  fn : PySem.W.isFn K (.ref f) = true
  kp : PySem.W.keepIn K (.ref C) = true

theorem run_make {pins : List (Addr × Obj)} {σ : St} {H : Hp} {s : Shared} {Q : VK} {us : List Value} {vs : List V} (M : Mk X.K C f) (F : FnOk X.prog X.w X.K X.mg X.base CX k f fd ps sp) (hr : Room (k + 1) X.A) (hb : Binds X.K fd ps ds) (hd : Vals dvs ds)
    (hx : Passes CX X E) (I : Inv X pins σ H s) (r : Vals vs us)
    (h : ∀ x dx, H x = none → H dx = none → dx ≠ x → sp (.ref x :: (vs ++ dvs)) (upd (upd H dx (.own x)) x (.ins C dx [])) (fun v H2 => v = .non ∧ Q (.ref x) H2) E) :
    wpAny (model X.prog X.w) X.A (call (.ref C) us) (EP X pins σ Q) X.xe s := by
  have hq := h (s.heap.objs.size + 1) s.heap.objs.size (I.hok.fresh (Nat.le_succ _)) (I.hok.fresh (Nat.le_refl _)) (Nat.ne_of_lt (Nat.lt_succ_self _))
  have I2 := Inv.made (C := C) I
  have r2 : Vals (V.ref (s.heap.objs.size + 1) :: (vs ++ dvs)) (Value.ref (s.heap.objs.size + 1) :: (us ++ ds)) := .cons rfl (r.append hd)
  have hl : (Value.ref (s.heap.objs.size + 1) :: us ++ ds).length = ps.length := by
    have e := r2.length
    rw [F.len _ _ _ _ hq] at e
    exact e.symm
  refine wpAny_call (make_map (f := f) I.kIn M.makes M.init (beq_iff_eq.mp M.fn) (codeAny_mono (F.run _ X.stack _ _ ⟨Value.ref (s.heap.objs.size + 1) :: us, []⟩ (Value.ref (s.heap.objs.size + 1) :: (us ++ ds)) _ _ E (hr.make C us [])
    (I2.env0.make C us []) (hb _ (Value.ref (s.heap.objs.size + 1) :: us) I2.kIn hl) r2 hq) fun r s' hq' => ?_))
  cases r with
  | error e => exact hx pins σ _ _ e s' I2 hq'
  | ok fl =>
    cases fl with
    | ret u =>
      obtain ⟨v, H', I3, rv, ev, q3⟩ := I2.after hq'
      subst ev
      exact ⟨rv, ⟨V.ref (s.heap.objs.size + 1), H', I3, rfl, q3⟩⟩
    | next => exact False.elim hq'
    | brk => exact False.elim hq'
    | cont => exact False.elim hq'
theorem pe_make (M : Mk X.K C f) (F : FnOk X.prog X.w X.K X.mg X.base CX k f fd ps sp) (hr : Room (k + 1) X.A) (hg : Gl X x) (hm : X.mg x = some (.ref C)) (hb : Binds X.K fd ps ds) (hd : Vals dvs ds) (hx : Passes CX X E)
    (ha : PA X (e :: es) t) (hdb : (x == ("__debug__" : Str)) = false := by decide) (he : starEach (e :: es) X.env = (false, eval e X.env) :: starEach es X.env := by rfl) (hpl : (backTo pos (starEach es X.env)).any (·.1) = false := by rfl) :
    PE X (.Call (.Name x p) (e :: es) [] pos) (tMake C sp dvs E t) := by
  intro pins s σ H Q I h
  refine wpAny_Call_Name_kw (ld_glob I hg hm ?_ hdb)
  refine PySem.W.callWith_K (h₀ := X.base) I.ok.mod.kin M.kp (thn (ha pos pins s σ H _ I h) fun us s1 ⟨vs, H1, I1, r, q⟩ => ⟨I1.kIn, ?_⟩) he hpl
  exact run_make M F hr hb hd hx I1 r q
theorem pe_make0 (M : Mk X.K C f) (F : FnOk X.prog X.w X.K X.mg X.base CX k f fd ps sp) (hr : Room (k + 1) X.A) (hg : Gl X x) (hm : X.mg x = some (.ref C)) (hb : Binds X.K fd ps ds) (hd : Vals dvs ds) (hx : Passes CX X E)
    (hdb : (x == ("__debug__" : Str)) = false := by decide) : PE X (.Call (.Name x p) [] [] pos) (tMake C sp dvs E tNil) := by
  intro pins s σ H Q I h
  refine wpAny_Call_Name_kw (ld_glob I hg hm ?_ hdb)
  exact PySem.W.callWith_K0 I.kIn M.kp (run_make (us := []) M F hr hb hd hx I .nil h)
end

/-! ### keywords -/
/-- the values of the keywords, from the left -/
def PK (X : Cx) (kws : List Keyword) (t : TA) : Prop :=
  ∀ (pos : Pos) (pins : List (Addr × Obj)) (s : Shared) (σ : St) (H : Hp) (Q : List V → Hp → Prop), Inv X pins σ H s → t σ H Q → wpAny (model X.prog X.w) X.A (evalAll ((backToKw pos (keywordEach kws X.env)).map (·.2))) (AP X pins σ Q) X.xe s
section
variable {X : Cx} {CX : CXT} {k : Nat} {f C : Addr} {fd : FuncData} {ps ks : List Str} {sp : Sp} {E : XK} {x m : Str} {p pos apos kpos : Pos} {e o : Expr} {es : List Expr} {kws : List Keyword} {te ta : TE} {t tk : TA} {nm : Option Str}
theorem pk_nil : PK X [] tNil := fun _ _ _ _ H Q I h => wpAny_evalAll_nil ⟨[], H, I, .nil, h⟩
theorem pk_cons (ha : PE X e te) (hr : PK X kws t) : PK X (⟨nm, e, kpos⟩ :: kws) (tCons te t) := by
  intro pos pins s σ H Q I h
  show wpAny _ _ (evalAll ((do let v ← eval e X.env; standAt pos; pure v) :: (backToKw pos (keywordEach kws X.env)).map (·.2))) _ _ s
  refine wpAny_evalAll_cons (wpAny_bind (thn (ha pins s σ H _ I h) fun u s1 ⟨x, H1, I1, r1, q1⟩ => wpAny_bind (wpAny_standAt (wpAny_pure ?_))))
  exact thn (hr pos pins s1 σ H1 _ I1 q1) fun us s2 ⟨xs, H2, I2, r2, q2⟩ => ⟨x :: xs, H2, I2, .cons r1 r2, q2⟩

/-- how a call with keywords binds: g puts the positional values us and the keywords' values ws (names ks) in the parameters' order, defaults among them -/
structure KBinds (K : PySem.W.Frag) (fd : FuncData) (ps ks : List Str) (g : List Value → List Value → List Value) (gV : List V → List V → List V) : Prop where
  to : ∀ (s : Shared) (us ws : List Value), K.In s.heap → (g us ws).length = ps.length → BindsTo s fd ⟨us, ks.zip ws⟩ (ps.zip (g us ws))
  rel : ∀ {vs : List V} {us : List Value} {zs : List V} {ws : List Value}, Vals vs us → Vals zs ws → Vals (gV vs zs) (g us ws)
def tCallK (sp : Sp) (gV : List V → List V → List V) (E : XK) (t tk : TA) : TE := fun σ H Q => t σ H fun vs H1 => tk σ H1 fun zs H2 => sp (gV vs zs) H2 Q E
variable {g : List Value → List Value → List Value} {gV : List V → List V → List V}
theorem run_fnk {pins : List (Addr × Obj)} {σ : St} {H : Hp} {s : Shared} {Q : VK} {us ws : List Value} {vs zs : List V} (F : FnOk X.prog X.w X.K X.mg X.base CX k f fd ps sp) (hr : Room k X.A) (hb : KBinds X.K fd ps ks g gV) (hx : Passes CX X E)
    (I : Inv X pins σ H s) (r : Vals vs us) (rz : Vals zs ws) (h : sp (gV vs zs) H Q E) : wpAny (model X.prog X.w) X.A (call (.ref f) us (ks.zip ws)) (EP X pins σ Q) X.xe s := by
  have r2 := hb.rel r rz
  have hl : (g us ws).length = ps.length := by rw [← r2.length]; exact F.len _ _ _ _ h
  refine wpAny_call (codeAny_mono (F.run X.A X.stack s H ⟨us, ks.zip ws⟩ (g us ws) (gV vs zs) Q E hr I.env0 (hb.to s us ws I.kIn hl) r2 h) fun r s' hq => ?_)
  cases r with
  | error e => exact hx pins σ H s e s' I hq
  | ok fl =>
    cases fl with
    | ret u => exact I.after hq
    | next => exact False.elim hq
    | brk => exact False.elim hq
    | cont => exact False.elim hq
/-- f(e, .., k = v, ..) -/
theorem pe_callK (F : FnOk X.prog X.w X.K X.mg X.base CX k f fd ps sp) (hr : Room k X.A) (hg : Gl X x) (hm : X.mg x = some (.ref f)) (hk : PySem.W.keepIn X.K (.ref f) = true) (hb : KBinds X.K fd ps ks g gV) (hx : Passes CX X E)
    (ha : PA X (e :: es) t) (hkw : PK X kws tk) (hall : (backToKw pos (keywordEach kws X.env)).all (·.1.isSome) = true := by rfl) (hks : (backToKw pos (keywordEach kws X.env)).filterMap (·.1) = ks := by rfl)
    (hdb : (x == ("__debug__" : Str)) = false := by decide) (he : starEach (e :: es) X.env = (false, eval e X.env) :: starEach es X.env := by rfl)
    (hpl : ((backTo pos (starEach (e :: es) X.env)).any (·.1) || (backToKw pos (keywordEach kws X.env)).any (·.1.isNone)) = false := by rfl) :
    PE X (.Call (.Name x p) (e :: es) kws pos) (tCallK sp gV E t tk) := by
  intro pins s σ H Q I h
  refine wpAny_Call_Name_kw (ld_glob I hg hm ?_ hdb)
  refine PySem.W.callWith_KW (h₀ := X.base) I.ok.mod.kin hk hall (thn (ha pos pins s σ H _ I h) fun us s1 ⟨vs, H1, I1, r, q⟩ => ?_) hpl he
  refine thn (hkw pos pins s1 σ H1 _ I1 q) fun ws s2 ⟨zs, H2, I2, rz, q2⟩ => ⟨I2.kIn, ?_⟩
  rw [hks]
  exact run_fnk F hr hb hx I2 r rz q2
end

/-! ### a def's body keeps its promise -/
/-- names: the parameters first -/
structure FnScope (N P : List Str) (sc : Scope) : Prop where
  kind : sc.kind = .function
  co : sc.isCoroutine = false
  gen : sc.isGenerator = false
  nd : N.Nodup
  pre : N.take P.length = P
  par : ∀ x ∈ P, sc.names.lookup x = some .local ∨ sc.names.lookup x = some .cell
  nofree : ∀ y ∈ sc.names, y.2 ≠ .free

theorem bindL_out {kindOf : Str → Option NameKind} {x : Str} : ∀ {binds : List (Str × Value)} {m : Str → Option Value}, (∀ v, (x, v) ∉ binds) → bindL kindOf binds m x = m x
  | [], _, _ => rfl
  | (n, v) :: r, m, h => by
    unfold bindL
    rw [bindL_out fun w hw => h w (List.mem_cons_of_mem _ hw)]
    split
    · have : x ≠ n := by rintro rfl; exact h v List.mem_cons_self
      simp [this]
    · rfl
theorem bindC_out {kindOf : Str → Option NameKind} {x : Str} : ∀ {binds : List (Str × Value)} {m : Str → Option Value}, (∀ v, (x, v) ∉ binds) → bindC kindOf binds m x = m x
  | [], _, _ => rfl
  | (n, v) :: r, m, h => by
    unfold bindC
    rw [bindC_out fun w hw => h w (List.mem_cons_of_mem _ hw)]
    split
    · rfl
    · have : x ≠ n := by rintro rfl; exact h v List.mem_cons_self
      simp [this]
theorem bindL_get {kindOf : Str → Option NameKind} {x : Str} {v : Value} : ∀ {P : List Str} {vs : List Value} {i : Nat} {m : Str → Option Value}, P.Nodup → P[i]? = some x → vs[i]? = some v → kindOf x = some .local →
    bindL kindOf (P.zip vs) m x = some v
  | [], _, _, _, _, h, _, _ => by simp at h
  | _ :: _, [], _, _, _, _, h, _ => by simp at h
  | p :: P, w :: vs, 0, m, nd, h1, h2, hk => by
    simp at h1 h2; subst h1; subst h2
    show bindL kindOf ((p, w) :: P.zip vs) m p = _
    unfold bindL
    rw [bindL_out fun v hv => (List.nodup_cons.mp nd).1 (List.of_mem_zip hv).1, if_pos hk]
    simp
  | p :: P, w :: vs, i + 1, m, nd, h1, h2, hk => by
    show bindL kindOf ((p, w) :: P.zip vs) m x = _
    unfold bindL
    exact bindL_get (i := i) (List.nodup_cons.mp nd).2 (by simpa using h1) (by simpa using h2) hk
theorem bindC_get {kindOf : Str → Option NameKind} {x : Str} {v : Value} : ∀ {P : List Str} {vs : List Value} {i : Nat} {m : Str → Option Value}, P.Nodup → P[i]? = some x → vs[i]? = some v → kindOf x ≠ some .local →
    bindC kindOf (P.zip vs) m x = some v
  | [], _, _, _, _, h, _, _ => by simp at h
  | _ :: _, [], _, _, _, _, h, _ => by simp at h
  | p :: P, w :: vs, 0, m, nd, h1, h2, hk => by
    simp at h1 h2; subst h1; subst h2
    show bindC kindOf ((p, w) :: P.zip vs) m p = _
    unfold bindC
    rw [bindC_out fun v hv => (List.nodup_cons.mp nd).1 (List.of_mem_zip hv).1, if_neg hk]
    simp
  | p :: P, w :: vs, i + 1, m, nd, h1, h2, hk => by
    show bindC kindOf ((p, w) :: P.zip vs) m x = _
    unfold bindC
    exact bindC_get (i := i) (List.nodup_cons.mp nd).2 (by simpa using h1) (by simpa using h2) hk

/-- the names' values at the entry -/
def start (N : List Str) (vs : List V) : St := vs.map some ++ List.replicate (N.length - vs.length) none

/-- the context of a def's body, at its entry; an exception leaves the frame, then lies as CX says -/
def cxOf (CX : CXT) (P : Program) (w : World) (K : PySem.W.Frag) (mg : Str → Option Value) (base : Heap) (N : List Str) (qual : Str) (scope : Scope) (f : Addr) (cd : Value) (A : Around) (outer : List Env) (s : Shared) (H : Hp) (E : XK) : Cx where
  prog := P
  w := w
  K := K
  mg := mg
  base := base
  A := A.deeper (envOfC qual scope s.heap.objs.size f cd)
  N := N
  s₀ := s
  H₀ := H
  env := envOfC qual scope s.heap.objs.size f cd
  outer := outer
  stack := envOfC qual scope s.heap.objs.size f cd :: outer
  ex := []
  calm := true
  fn := fun _ => true
  pn := []
  xe := fun e s' => wpAny (model P w) (A.deeper (envOfC qual scope s.heap.objs.size f cd)) (leaving (envOfC qual scope s.heap.objs.size f cd) e) (fun _ s'' => CX outer H s E e s'') (fun e' s'' => CX outer H s E e' s'') s'

theorem cell_has {sc : Scope} {n : Nat} {x : Str} (h : sc.names.lookup x = some .cell) : ∃ c, (cellsFrom n sc.names []).lookup x = some c := by
  have q := PySem.W.cellsFrom_some sc.names n [] (.inl h)
  exact Option.isSome_iff_exists.mp q

theorem inv_start {CX : CXT} {P : Program} {w : World} {K : PySem.W.Frag} {mg : Str → Option Value} {base : Heap} {N ps : List Str} {qual : Str} {scope : Scope} {f : Addr} {cd : Value} {A : Around} {outer : List Env} {s s1 : Shared} {H : Hp} {E : XK} {us : List Value} {vs : List V}
    (S : FnScope N ps scope) (hd : A.handled = none) (e0 : Env0 P w K mg base A outer s H) (hl : vs.length = ps.length) (r : Vals vs us)
    (x : InCallC s s.heap.objs.size (bindL (envOfC qual scope s.heap.objs.size f cd).kindOf (ps.zip us) fun _ => none) (cellsFrom (s.heap.objs.size + 1) scope.names []) (bindC (envOfC qual scope s.heap.objs.size f cd).kindOf (ps.zip us) fun _ => none) s1) :
    Inv (cxOf CX P w K mg base N qual scope f cd A outer s H E) [] (start N vs) H s1 := by
  have hpl : ps.length ≤ N.length := by have := congrArg List.length S.pre; rw [List.length_take] at this; omega
  obtain ⟨h1, tk, rfl, hk⟩ := x.done
  have noA : ∀ b : Addr, b ∉ (cxOf CX P w K mg base N qual scope f cd A outer s H E).ex := fun b z => absurd (show b ∈ ([] : List Addr) from z) (by simp)
  refine ⟨⟨e0.mod, S.kind, rfl, rfl, Nat.le_refl _, fun y z c h1 h2 => ?_, fun y hy => ?_, fun y c _ h => ?_, fun _ => hd, Around.frames_deeper e0.frames, .inr ⟨rfl, rfl⟩, fun b z => absurd z (noA b), e0.bs, e0.bsz, fun b _ _ => noA b, fun b z => absurd z (noA b), e0.funs, e0.frf⟩,
    rfl, e0.bare, Un.kept hk, ⟨_, x.toInCall.ns, fun i y v h1 h2 h3 => ?_⟩, fun y c h => ⟨_, x.cell y c h⟩, e0.hok.fresh (Nat.le_refl _), fun y c h => ?_, fun p hp => absurd (show p ∈ ([] : List (Addr × Obj)) from hp) (by simp), e0.hok.kept hk, ?_⟩
  · exact name_of_addr x.apart (PySem.mem_of_lookup h1) (PySem.mem_of_lookup h2)
  · have hy : scope.names.lookup y = some .cell ∨ scope.names.lookup y = some .free := hy
    rcases hy with hy | hy
    · exact cell_has hy
    · exact absurd rfl (S.nofree _ (PySem.mem_of_lookup hy))
  · exact Nat.le_of_lt (x.above y c (PySem.mem_of_lookup h))
  · have hi : i < vs.length := by
      unfold start at h2
      by_cases hi : i < vs.length
      · exact hi
      · rw [List.getElem?_append_right (by simpa using hi)] at h2
        rw [List.getElem?_replicate] at h2
        split at h2 <;> cases h2
    have ha : vs[i]? = some v := by
      unfold start at h2
      rw [List.getElem?_append_left (by simpa using hi), List.getElem?_map] at h2
      cases e : vs[i]? with
      | none => rw [e] at h2; cases h2
      | some a => rw [e] at h2; cases h2; rfl
    obtain ⟨u, hu, rv⟩ := r.get ha
    have hp : ps[i]? = some y := by
      rw [← S.pre, List.getElem?_take_of_lt (by omega)]; exact h1
    have ndP : ps.Nodup := by rw [← S.pre]; exact S.nd.sublist (List.take_sublist _ _)
    refine ⟨u, rv, ?_⟩
    rcases S.par y (List.mem_of_getElem? hp) with k | k
    · exact .inl ⟨k, bindL_get ndP hp hu k⟩
    · obtain ⟨c, e⟩ := cell_has (n := s.heap.objs.size + 1) k
      refine .inr ⟨.inl k, c, e, ?_⟩
      have q := x.cell y c e
      rw [bindC_get ndP hp hu (by show scope.names.lookup y ≠ _; rw [k]; decide)] at q
      exact q
  · exact e0.hok.fresh (Nat.le_of_lt (x.above y c (PySem.mem_of_lookup h)))
  · unfold start
    show _ = N.length
    rw [List.length_append, List.length_map, List.length_replicate]
    omega

/-- THE RULE: a def (or a method) of the text, by its body. The body's reading t is chosen for each entry; it is run at the parameters' values -/
theorem fn_of {CX : CXT} {P : Program} {w : World} {K : PySem.W.Frag} {mg : Str → Option Value} {base : Heap} {k : Nat} {f : Addr} {name qual : Str} {params : Arguments} {body : List Stmt} {scope : Scope} {dV kV doc pm cdv ct oc : Value} {an od : Option Addr}
    {osl : Array (Option Value)} {N ps : List Str} {sp : Sp} (lk : K.lookup f = some ⟨oc, od, .func (PySem.W.fnOf name qual params body scope dV kV doc pm an cdv ct), osl⟩) (hcd : PySem.W.codeIn K cdv qual = true) (S : FnScope N ps scope)
    (len : ∀ vs H Q E, sp vs H Q E → vs.length = ps.length)
    (hbody : ∀ (A : Around) (outer : List Env) (s : Shared) (H : Hp) (vs : List V) (Q : VK) (E : XK), Room k (A.deeper (envOfC qual scope s.heap.objs.size f cdv)) → sp vs H Q E →
      ∃ t, PSs (cxOf CX P w K mg base N qual scope f cdv A outer s H E) body t ∧ t { nx := fun _ H' => Q .non H', rt := Q } (start N vs) H) :
    FnOk P w K mg base CX (k + 1) f (PySem.W.fnOf name qual params body scope dV kV doc pm an cdv ct) ps sp := by
  refine ⟨len, fun A outer s H args us vs Q E hr e0 hb r hsp => ?_⟩
  have hl := len _ _ _ _ hsp
  have KX : K.In s.heap := e0.mod.kin.keeps fun b o e => (e0.bs b o e).1
  have lim : s.heap.NoLimit := e0.mod.nolimit.keeps fun b o e => (e0.bs b o e).1
  have hkind : ∀ y ∈ ps.zip us, scope.names.lookup y.1 = some .local ∨ (scope.names.lookup y.1 = some .cell ∧ ((cellsFrom (s.heap.objs.size + 1) scope.names []).lookup y.1).isSome = true) := fun ⟨n, v⟩ hy => by
    rcases S.par n (List.of_mem_zip hy).1 with q | q
    · exact .inl q
    · exact .inr ⟨q, PySem.W.cellsFrom_some _ _ _ (.inl q)⟩
  refine codeAny_call_function hr.depth (KX _ _ lk) rfl S.co S.gen rfl (PySem.W.codeRec_of KX hcd) (hb _ _ _ _ ?_)
  refine wpAny_newFunctionEnv_cells S.kind hkind fun env he s1 x => ?_
  subst he
  refine ⟨lim.keeps x.toInCall.keep, codeAny_func ?_⟩
  obtain ⟨t, ht, hq⟩ := hbody A outer s H vs Q E (hr.deeper _) hsp
  have I : Inv (cxOf CX P w K mg base N qual scope f cdv A outer s H E) [] (start N vs) H s1 := inv_start S hr.hd e0 hl r x
  refine wpAny_mono (ht [] s1 (start N vs) H _ I hq) (fun fl s' hs => ?_) fun e s' hs => hs
  have fin : ∀ {σ' : St} {H' : Hp} {v : V} {u : Value}, Inv (cxOf CX P w K mg base N qual scope f cdv A outer s H E) [] σ' H' s' → RelV v u → Q v H' → CE outer P w H s Q u s' :=
    fun {σ' H' v u} J rv q => ⟨v, H', J.os, J.bare, J.base, J.hok, rv, q⟩
  cases fl with
  | ret u =>
    obtain ⟨v, σ', H', J, rv, q⟩ := hs
    exact fin J rv q
  | next =>
    obtain ⟨σ', H', J, q⟩ := hs
    exact fin (v := V.non) (u := Value.none) J rfl q
  | brk =>
    obtain ⟨_, _, _, q⟩ := hs
    exact False.elim q
  | cont =>
    obtain ⟨_, _, _, q⟩ := hs
    exact False.elim q
end L2

namespace L2
open PySem PySem.Spec PyProof.Rows
section
variable {X : Cx} {x : Str} {p pos : Pos} {e : Expr} {es : List Expr} {t : TA} {id T : String} {r : List V → Hp → VK → Prop}

def tCB (r : List V → Hp → VK → Prop) (t : TA) : TE := fun σ H Q => t σ H fun vs H1 => r vs H1 Q
/-- f(e, ..), f a built-in function -/
theorem pe_callB (hc : CallR X (.builtin id) r) (hg : Gl X x) (hm : X.mg x = none) (hv : bootBuiltins x = some (.builtin id)) (ha : PA X (e :: es) t) (hn : x ≠ "__name__" := by decide) (hdb : (x == ("__debug__" : Str)) = false := by decide)
    (he : starEach (e :: es) X.env = (false, eval e X.env) :: starEach es X.env := by rfl) (hpl : (backTo pos (starEach es X.env)).any (·.1) = false := by rfl) : PE X (.Call (.Name x p) (e :: es) [] pos) (tCB r t) := by
  intro pins s σ H Q I h
  refine wpAny_Call_Name_kw (ld_blt I hg hm hv ?_ hn hdb)
  exact PyProof.Rows.callWith_builtin1 (thn (ha pos pins s σ H _ I h) fun us s1 ⟨vs, H1, I1, r1, q1⟩ => hc pins s1 σ H1 vs us Q I1 r1 q1) he hpl
/-- T(e, ..), T a built-in type -/
theorem pe_callTy (hc : CallR X (.type T) r) (hg : Gl X x) (hm : X.mg x = none) (hv : bootBuiltins x = some (.type T)) (ha : PA X (e :: es) t) (hn : x ≠ "__name__" := by decide) (hdb : (x == ("__debug__" : Str)) = false := by decide)
    (he : starEach (e :: es) X.env = (false, eval e X.env) :: starEach es X.env := by rfl) (hpl : (backTo pos (starEach es X.env)).any (·.1) = false := by rfl) : PE X (.Call (.Name x p) (e :: es) [] pos) (tCB r t) := by
  intro pins s σ H Q I h
  refine wpAny_Call_Name_kw (ld_blt I hg hm hv ?_ hn hdb)
  exact PyProof.Rows.callWith_type1 (thn (ha pos pins s σ H _ I h) fun us s1 ⟨vs, H1, I1, r1, q1⟩ => hc pins s1 σ H1 vs us Q I1 r1 q1) he hpl
/-- T() -/
theorem pe_callTy0 (hc : CallR X (.type T) r) (hg : Gl X x) (hm : X.mg x = none) (hv : bootBuiltins x = some (.type T)) (hn : x ≠ "__name__" := by decide) (hdb : (x == ("__debug__" : Str)) = false := by decide) :
    PE X (.Call (.Name x p) [] [] pos) (tCB r tNil) := by
  intro pins s σ H Q I h
  refine wpAny_Call_Name_kw (ld_blt I hg hm hv ?_ hn hdb)
  exact PyProof.Rows.callWith_type0 (hc pins s σ H [] [] Q I .nil h)
end
end L2

namespace HT
open PySem PyProof.Rows

/-- t < u of tuples of ints -/
def lexLt : List Int → List Int → Bool
  | [], [] => false
  | [], _ :: _ => true
  | _ :: _, [] => false
  | x :: xs, y :: ys => if x = y then lexLt xs ys else decide (x < y)
theorem lexLt_cons (x y : Int) (xs ys : List Int) : lexLt (x :: xs) (y :: ys) = if x = y then lexLt xs ys else decide (x < y) := rfl
theorem lexLt_nil_nil : lexLt [] [] = false := rfl
theorem lexLt_nil_cons (y : Int) (ys : List Int) : lexLt [] (y :: ys) = true := rfl
theorem lexLt_cons_nil (x : Int) (xs : List Int) : lexLt (x :: xs) [] = false := rfl

theorem eqAt_int (A : Around) (s : Shared) (a : Int) (t : Tok) (c : Int) (u : Tok) : ∃ e, SeqAt.EqAt A s (.int a t) (.int c u) e ∧ (e = true ↔ a = c) :=
  ⟨(a == c), SeqAt.EqAt.int_int a t c u, by simp⟩
theorem rcLt_int (A : Around) (s : Shared) (a : Int) (t : Tok) (c : Int) (u : Tok) (prog : Program) (w : World) (E : Value → Shared → Prop) (Q : Value → Shared → Prop) (h : Q (.bool (decide (a < c))) s) :
    wpAny (model prog w) A (richCompare .Lt (.int a t) (.int c u)) Q E s :=
  (PyProof.Rows.lt_int h : wpAny (model prog w) A (compareOp .Lt (.int a t) (.int c u)) Q E s)

section
open PySem.SeqAt
open PySem.AutoSeq1 (wpAny_loadPart')
open PySem.MeetsSeq PySem.MeetsSeq2 PySem.MeetsSeq3

theorem tuple_lt_ints (l b : Addr) (items items2 : Array Value) (n n2 : Nat) (dd dd2 : Option Addr) (sl sl2 : Array (Option Value)) (ns ms : List Int) (hi : IntsAre items.toList ns) (hj : IntsAre items2.toList ms) :
    Meets (Builtin.«tuple.__lt__» ⟨[.ref l, .ref b], []⟩)
      (fun _ R s => s.heap.get? l = some { cls := .type "tuple", dict := dd, data := .seq items n, slots := sl } ∧ s.heap.get? b = some { cls := .type "tuple", dict := dd2, data := .seq items2 n2, slots := sl2 } ∧
        R (.ok (.ret (.bool (lexLt ns ms)))) s) :=
  .of_wp fun prog w A R s h => by
    obtain ⟨hp, g, d, tk, os⟩ := s; obtain ⟨hl, hb, h⟩ := h
    have f2 := AutoSeq1.sub_tuple_tuple
    have z1 : items.size = ns.length := by rw [← hi.length]; simp
    have z2 : items2.size = ms.length := by rw [← hj.length]; simp
    wp_walk using wpAny_loadPart' hl, wpAny_loadPart' hb, wpAny_forIn_list _ (fun rest b s' => b.1 = none ∧ s' = ⟨hp, g, d, tk, os⟩ ∧ ∃ (vs ws : List Value) (ns' ms' : List Int), rest = vs.zip ws ∧
      IntsAre vs ns' ∧ IntsAre ws ms' ∧ ns'.length + items2.size = ms'.length + items.size ∧ R (.ok (.ret (.bool (lexLt ns' ms')))) ⟨hp, g, d, tk, os⟩) _
    case turn =>
      rintro ⟨y, x⟩ rest b s' ⟨hb', rfl, vs, ws, ns', ms', hz, hvi, hwi, hlen, hR⟩
      cases hvi with
      | nil => rw [List.zip_nil_left] at hz; cases hz
      | cons a t hvi' =>
        cases hwi with
        | nil => rw [List.zip_nil_right] at hz; cases hz
        | cons c u hwi' =>
          rw [List.zip_cons_cons] at hz
          injection hz with hyx hrest
          injection hyx with hy hx
          subst hy hx
          rw [lexLt_cons] at hR
          simp only [List.length_cons] at hlen
          obtain ⟨e, he, hiff⟩ := eqAt_int A.in1 ⟨hp, g, d, tk, os⟩ a t c u
          refine wpAny_bind (he prog w _ _ ?_)
          cases e with
          | true =>
            rw [if_pos (hiff.mp rfl)] at hR
            wp_walk
            exact ⟨rfl, rfl, _, _, _, _, hrest, hvi', hwi', by omega, hR⟩
          | false =>
            rw [if_neg (fun q => absurd (hiff.mpr q) Bool.false_ne_true)] at hR
            have hri := rcLt_int A.in1 ⟨hp, g, d, tk, os⟩ a t c u prog w
            wp_walk using hri
            exact ⟨_, rfl, by simpa using hR⟩
    case fin =>
      rintro ⟨b1, b2⟩ s' ⟨hb', rfl, vs, ws, ns', ms', hz, hvi, hwi, hlen, hR⟩
      simp only at hb'
      subst hb'
      have hv : lexLt ns' ms' = decide (items.size < items2.size) := by
        cases hvi with
        | nil =>
          cases hwi with
          | nil =>
            simp only [List.length_nil] at hlen
            rw [lexLt_nil_nil]
            exact (decide_eq_false (by omega)).symm
          | cons c u hw =>
            simp only [List.length_nil, List.length_cons] at hlen
            rw [lexLt_nil_cons]
            exact (decide_eq_true (by omega)).symm
        | cons a t hv =>
          cases hwi with
          | nil =>
            simp only [List.length_nil, List.length_cons] at hlen
            rw [lexLt_cons_nil]
            exact (decide_eq_false (by omega)).symm
          | cons c u hw =>
            rw [List.zip_cons_cons] at hz
            cases hz
      rw [hv] at hR
      wp_walk
      exact ⟨_, rfl, by simpa [Builtin.Tuple.tupleCompareSizes] using hR⟩
    case h =>
      exact ⟨rfl, rfl, items.toList, items2.toList, ns, ms, rfl, hi, hj, by omega, h⟩
end

section
variable {prog : Program} {w : World} {A : Around} {E : Value → Shared → Prop} {s : Shared}

theorem lt_tupInts {l b : Addr} {items items2 : Array Value} {ns ms : List Int} {Q : Value → Shared → Prop} (hl : IsTup s.heap l items) (hb : IsTup s.heap b items2) (hi : IntsAre items.toList ns) (hj : IntsAre items2.toList ms)
    (hu : A.units < cLine) (h : Q (.bool (lexLt ns ms)) s) : wpAny (model prog w) A (compareOp .Lt (.ref l) (.ref b)) Q E s := by
  obtain ⟨⟨cls, dd, data, sl⟩, ho, hc, n, hd⟩ := id hl
  obtain ⟨⟨cls2, dd2, data2, sl2⟩, ho2, hc2, n2, hd2⟩ := id hb
  simp only at hc hd hc2 hd2
  subst hc hd hc2 hd2
  exact richCompare_meets_room (op := .Lt) ⟨_, ho, rfl⟩ ⟨_, ho2, rfl⟩ PySem.F.slot_tuple_lt PySem.F.entry_tuple_lt (PySem.F.args_tuple_lt_2 _ _) (tuple_lt_ints l b items items2 n n2 dd dd2 sl sl2 ns ms hi hj)
    ⟨ho, ho2, show Value.bool (lexLt ns ms) ≠ Value.notImplemented ∧ Q (.bool (lexLt ns ms)) s from ⟨(fun x => nomatch x), h⟩⟩ hu

/-- t + u, t not empty -/
theorem cat_tup {t b : Addr} {vs ws : List Value} {Q : Value → Shared → Prop} (ht : IsTup s.heap t vs.toArray) (hb : IsTup s.heap b ws.toArray) (hv : vs ≠ [])
    (h1 : ws = [] → Q (.ref t) s) (h2 : ws ≠ [] → Q (.ref s.heap.objs.size) { s with heap := s.heap.push { cls := .type "tuple", data := .seq (vs ++ ws).toArray } })
    (hsz : vs.length + ws.length ≤ sizeLine) : wpAny (model prog w) A (binaryOp .Add (.ref t) (.ref b)) Q E s := by
  obtain ⟨⟨cls, dd, data, sl⟩, ho, hc, n, hd⟩ := id ht
  obtain ⟨⟨cls2, dd2, data2, sl2⟩, ho2, hc2, n2, hd2⟩ := id hb
  simp only at hc hd hc2 hd2
  subst hc hd hc2 hd2
  have e : vs.toArray ++ ws.toArray = (vs ++ ws).toArray := by simp
  by_cases hw : ws = []
  · exact concat_meets ⟨_, ho, rfl⟩ ⟨_, ho2, rfl⟩ noFill_tuple_add seq_tuple_add PySem.F.slot_tuple_add PySem.F.entry_tuple_add (PySem.F.args_tuple_add_2 _ _)
      (tuple_addW1 t b vs.toArray ws.toArray n n2 dd dd2 sl sl2 (by simpa using hv) (by simp [hw])) ⟨ho, ho2, h1 hw⟩
  · refine concat_meets ⟨_, ho, rfl⟩ ⟨_, ho2, rfl⟩ noFill_tuple_add seq_tuple_add PySem.F.slot_tuple_add PySem.F.entry_tuple_add (PySem.F.args_tuple_add_2 _ _)
      (tuple_addW2 t b vs.toArray ws.toArray n n2 dd dd2 sl sl2 (by simpa using hv) (by simpa using hw) (by rw [List.size_toArray, List.size_toArray]; exact hsz)) ⟨ho, ho2, ?_⟩
    rw [e]
    exact h2 hw

/-! ### t[a:b], not the whole -/
/-- a slice's bound as a place among n (d where it is left out) -/
def sIx (n d : Nat) : Option Int → Nat
  | none => d
  | some v => if v < 0 then (v + (n : Int)).toNat else min v.toNat n
theorem sIx_none (n d : Nat) : sIx n d none = d := rfl
theorem sIx_nat (n d k : Nat) : sIx n d (some (k : Int)) = min k n := by
  show (if (k : Int) < 0 then ((k : Int) + (n : Int)).toNat else min (k : Int).toNat n) = min k n
  rw [if_neg (by omega), Int.toNat_natCast]
theorem sIx_le (n d : Nat) (hd : d ≤ n) (o : Option Int) : sIx n d o ≤ n := by
  cases o with
  | none => exact hd
  | some v =>
    show (if v < 0 then (v + (n : Int)).toNat else min v.toNat n) ≤ n
    by_cases hv : v < 0
    · rw [if_pos hv]; omega
    · rw [if_neg hv]; exact Nat.min_le_right _ _
theorem clip_eq (v : Int) (n d : Nat) : (if v < 0 then max (v + (n : Int)) 0 else min v (n : Int)) = ((sIx n d (some v) : Nat) : Int) := by
  show (if v < 0 then max (v + (n : Int)) 0 else min v (n : Int)) = (((if v < 0 then (v + (n : Int)).toNat else min v.toNat n) : Nat) : Int)
  by_cases hv : v < 0
  · simp only [if_pos hv]; omega
  · simp only [if_neg hv]; omega
theorem adjust_gen (lo hi : Option Int) (n : Nat) : Builtin.Slice.sliceAdjust lo hi 1 (n : Int) = (((sIx n 0 lo : Nat) : Int), ((sIx n n hi : Nat) : Int)) := by
  have h1 : ¬ ((1 : Int) < 0) := by omega
  unfold Builtin.Slice.sliceAdjust
  simp only [h1, if_false]
  refine Prod.ext ?_ ?_
  · cases lo with
    | none => rfl
    | some v => exact clip_eq v n 0
  · cases hi with
    | none => rfl
    | some v => exact clip_eq v n n
theorem places_gen (i j : Nat) : Builtin.Slice.slicePlaces (i : Int) (j : Int) 1 = j - i := by
  unfold Builtin.Slice.slicePlaces
  have h1 : (1 : Int) > 0 := by omega
  simp only [h1, if_true, Int.ediv_one]
  split <;> omega
theorem slicePart_ {v : Value} {o : Option Int} {Q : Option Int → Shared → Prop} (p : IsPart v o) (h : Q o s) : wpAny (model prog w) A (Builtin.Slice.slicePartIndex v) Q E s := by
  cases p with
  | none => exact slicePart_none h
  | int i t => exact slicePart_int h
theorem sliceApplied_gen {sl : Addr} {vl vu : Value} {lo hi : Option Int} {n : Nat} {Q : Int × Int × Nat → Shared → Prop} (hs : s.heap.IsSliceOf sl vl vu .none) (pl : IsPart vl lo) (pu : IsPart vu hi)
    (h : Q (((sIx n 0 lo : Nat) : Int), 1, sIx n n hi - sIx n 0 lo) s) : wpAny (model prog w) A (Builtin.Slice.sliceApplied (.ref sl) (pure (n : Int))) Q E s := by
  obtain ⟨os, hos, hcs, hds⟩ := id hs
  unfold Builtin.Slice.sliceApplied Builtin.Slice.sliceFields
  refine wpAny_bind (wpAny_bind (wpAny_field hos hds (x := vl) rfl (wpAny_bind (wpAny_field hos hds (x := vu) rfl (wpAny_bind (wpAny_field hos hds (x := .none) rfl (wpAny_pure ?_)))))))
  refine wpAny_bind (slicePart_none ?_)
  show wpAny _ _ (if ((1 : Int) == 0) = true then _ else _) _ _ s
  rw [if_neg (by decide)]
  refine wpAny_bind (slicePart_ pl (wpAny_bind (slicePart_ pu (wpAny_bind (wpAny_pure ?_)))))
  show wpAny _ _ (match Builtin.Slice.sliceAdjust lo hi 1 (n : Int) with | (lo, hi) => pure (lo, (1 : Int), Builtin.Slice.slicePlaces lo hi 1)) _ _ s
  rw [adjust_gen lo hi n]
  show wpAny _ _ (pure (((sIx n 0 lo : Nat) : Int), (1 : Int), Builtin.Slice.slicePlaces ((sIx n 0 lo : Nat) : Int) ((sIx n n hi : Nat) : Int) 1)) _ _ s
  rw [places_gen]
  exact wpAny_pure h
theorem pick_gen (xs : Array Value) (i k : Nat) : ((List.range k).filterMap fun (m : Nat) => xs[((i : Int) + (m : Int) * 1).toNat]?).toArray = ((xs.toList.drop i).take k).toArray := by
  have e : (fun (m : Nat) => xs[((i : Int) + (m : Int) * 1).toNat]?) = fun m => xs[i + m]? := by
    funext m
    have : ((i : Int) + (m : Int) * 1).toNat = i + m := by omega
    rw [this]
  rw [e]
  have := pick_run xs i k
  rw [List.filterMap_map] at this
  have e2 : ((fun x => xs[x]?) ∘ fun x => i + x) = fun m => xs[i + m]? := rfl
  rw [e2] at this
  rw [this]

theorem getItem_tuple_cut {t sl : Addr} {items : Array Value} {vl vu : Value} {lo hi : Option Int} {Q : Value → Shared → Prop} (ht : IsTup s.heap t items) (hs : s.heap.IsSliceOf sl vl vu .none) (pl : IsPart vl lo) (pu : IsPart vu hi)
    (hw : ¬ (sIx items.size 0 lo = 0 ∧ sIx items.size items.size hi = items.size))
    (h : Q (.ref s.heap.objs.size) { s with heap := s.heap.push { cls := .type "tuple", data := .seq ((items.toList.drop (sIx items.size 0 lo)).take (sIx items.size items.size hi - sIx items.size 0 lo)).toArray } })
    (hsz : items.size ≤ sizeLine) : wpAny (model prog w) A (getItem (.ref t) (.ref sl)) Q E s := by
  have htake : sizeOk (.seq ((items.toList.drop (sIx items.size 0 lo)).take (sIx items.size items.size hi - sIx items.size 0 lo)).toArray) := by
    show ((items.toList.drop (sIx items.size 0 lo)).take (sIx items.size items.size hi - sIx items.size 0 lo)).toArray.size ≤ sizeLine
    rw [List.size_toArray, List.length_take, List.length_drop, Array.length_toList]
    omega
  have hj : sIx items.size items.size hi ≤ items.size := sIx_le _ _ (Nat.le_refl _) hi
  obtain ⟨os, hos, hcs, hds⟩ := id hs
  have hTs : s.TypeIs (.ref sl) "slice" := ⟨os, hos, hcs⟩
  unfold getItem
  try with_reducible refine wpAny_holding ?_
  first | refine wpAny_bind (wpAny_pure ?_) | skip
  refine wpAny_bind (wpAny_sequenceKey ht.typeIs (by decide) ?_)
  refine wpAny_bind (wpAny_callSpecial?_slot (name := Str.ofString "__getitem__") ht.typeIs PyProof.Rows.slot_tuple_getitem
    (wpAny_call_entry PyProof.Rows.slot_tuple_getitem ht.typeIs entry_tuple_getitem ?_ (args_tuple_getitem _ _)))
  show wpAny _ _ (Builtin.Tuple.tupleItemsOf (.ref t) >>= _) _ _ s
  refine wpAny_bind (tupleItemsOf_ ht ?_)
  refine wpAny_bind (wpAny_typeOf hTs ?_)
  rw [if_pos (by decide)]
  refine wpAny_bind (sliceApplied_gen hs pl pu ?_)
  have hno : ¬ ((((sIx items.size 0 lo : Nat) : Int) == 0 && (1 : Int) == 1 && (sIx items.size items.size hi - sIx items.size 0 lo) == items.size) = true) := by
    intro q
    rw [Bool.and_eq_true, Bool.and_eq_true] at q
    have q1 : ((sIx items.size 0 lo : Nat) : Int) = 0 := eq_of_beq q.1.1
    have q2 : sIx items.size items.size hi - sIx items.size 0 lo = items.size := eq_of_beq q.2
    exact hw ⟨by omega, by omega⟩
  show wpAny _ _ (if (((sIx items.size 0 lo : Nat) : Int) == 0 && (1 : Int) == 1 && (sIx items.size items.size hi - sIx items.size 0 lo) == items.size) = true then _ else _) _ _ s
  rw [if_neg hno, pick_gen]
  first
    | exact wpAny_bind (m := Builtin.Tuple.tupleExact _) (wpAny_newObj_type (wpAny_pure ⟨_, rfl, wpAny_pure h⟩) htake)
    | exact wpAny_bind (m := Builtin.Tuple.tupleExact _) (wpAny_newObj_type (wpAny_bind (wpAny_pure (wpAny_pure ⟨_, rfl, wpAny_pure h⟩))) htake)
    | exact wpAny_bind (wpAny_bind (m := Builtin.Tuple.tupleExact _) (wpAny_newObj_type (wpAny_pure (wpAny_pure ⟨_, rfl, wpAny_pure h⟩)) htake))
    | exact wpAny_bind (wpAny_bind (m := Builtin.Tuple.tupleExact _) (wpAny_newObj_type (wpAny_pure ⟨_, rfl, wpAny_pure h⟩) htake))
end
end HT

namespace L2
open PySem PySem.Spec PyProof.Rows

/-! ### the parts of a slice -/
abbrev TO := St → Hp → (Option Int → Hp → Prop) → Prop
/-- a slice's part (left out, or an int) -/
def PO (X : Cx) (e : Option Expr) (t : TO) : Prop :=
  ∀ (pins : List (Addr × Obj)) (s : Shared) (σ : St) (H : Hp) (Q : Option Int → Hp → Prop), Inv X pins σ H s → t σ H Q →
    wpAny (model X.prog X.w) X.A (evalPart e X.env) (fun u s' => ∃ o H', Inv X pins σ H' s' ∧ IsPart u o ∧ Q o H') X.xe s
def tNoPart : TO := fun _ H Q => Q none H
def tPart (t : TE) : TO := fun σ H Q => t σ H fun x H1 => ∃ i, x = .int i ∧ Q (some i) H1

theorem intsAre_of {ns : List Int} : ∀ {us : List Value}, Vals (ns.map V.int) us → IntsAre us ns := by
  induction ns with
  | nil => intro us r; rw [List.map_nil] at r; cases r; exact .nil
  | cons n ns ih =>
    intro us r
    rw [List.map_cons] at r
    cases r with
    | cons r1 r2 =>
      obtain ⟨t, e⟩ := r1
      subst e
      exact .cons n t (ih r2)

section
variable {X : Cx} {e : Expr} {te : TE} {lo hi : Option Expr} {tl th : TO} {pos p2 : Pos}

theorem po_none : PO X none tNoPart := by
  intro pins s σ H Q I h
  rw [evalPart_none]
  exact wpAny_pure ⟨none, H, I, .none, h⟩
theorem po_some (h : PE X e te) : PO X (some e) (tPart te) := by
  intro pins s σ H Q I hw
  rw [evalPart_some]
  refine thn (h pins s σ H _ I hw) fun u s1 ⟨x, H1, I1, r1, q1⟩ => ?_
  obtain ⟨i, rfl, q⟩ := q1
  obtain ⟨t, rfl⟩ := r1
  exact ⟨some i, H1, I1, .int i t, q⟩

/-- what a slice of a value is, by values: the slice object stands at sl -/
def SlR (X : Cx) (r : V → Option Int → Option Int → Hp → VK → Prop) : Prop :=
  ∀ (pins : List (Addr × Obj)) (s : Shared) (σ : St) (H : Hp) (x : V) (v vl vu : Value) (lo hi : Option Int) (sl : Addr) (Q : VK), Inv X pins σ H s → RelV x v → s.heap.IsSliceOf sl vl vu .none → IsPart vl lo → IsPart vu hi → r x lo hi H Q →
    ∃ T id, typeLookup (.type T) "__getitem__" = pure (some (.builtin id)) ∧ s.TypeIs v T ∧ wpAny (model X.prog X.w) X.A (getItem v (.ref sl)) (EP X pins σ Q) X.xe s
theorem SlR.or {r r' : V → Option Int → Option Int → Hp → VK → Prop} (h : SlR X r) (h' : SlR X r') : SlR X (fun x lo hi H Q => r x lo hi H Q ∨ r' x lo hi H Q) := by
  intro pins s σ H x v vl vu lo hi sl Q I rx hs pl pu q
  rcases q with q | q
  · exact h pins s σ H x v vl vu lo hi sl Q I rx hs pl pu q
  · exact h' pins s σ H x v vl vu lo hi sl Q I rx hs pl pu q
def tSl (r : V → Option Int → Option Int → Hp → VK → Prop) (te : TE) (tl th : TO) : TE := fun σ H Q => te σ H fun x H1 => tl σ H1 fun l H2 => th σ H2 fun u H3 => r x l u H3 Q
/-- a[lo:hi], any a -/
theorem pe_slice {r : V → Option Int → Option Int → Hp → VK → Prop} (hr : SlR X r) (he : PE X e te) (hl : PO X lo tl) (hu : PO X hi th) : PE X (.Subscript e (.Slice lo hi none p2) pos) (tSl r te tl th) := by
  intro pins s σ H Q I h
  refine Subscript_ (thn (he pins s σ H _ I h) fun v s1 ⟨x, H1, I1, r1, q1⟩ => ?_)
  refine wpAny_Slice (thn (hl pins s1 σ H1 _ I1 q1) fun vl s2 ⟨l, H2, I2, pl, q2⟩ => thn (hu pins s2 σ H2 _ I2 q2) fun vu s3 ⟨u, H3, I3, pu, q3⟩ => ?_)
  rw [evalPart_none]
  refine wpAny_pure ?_
  have I4 : Inv X pins σ H3 { s3 with heap := s3.heap.push { cls := .type "slice", data := .fields #[vl, vu, .none] } } := I3.kept (t' := s3.toks) fun b ob q => Heap.get?_push_of_some _ q
  obtain ⟨T, id, hT, ht, hg⟩ := hr pins { s3 with heap := s3.heap.push { cls := .type "slice", data := .fields #[vl, vu, .none] } } σ H3 x v vl vu l u s3.heap.objs.size Q I4 r1 (Heap.IsSliceOf.new ..) pl pu q3
  show wpAny (model X.prog X.w) X.A (subscriptTail e (.Slice lo hi none p2) v (.ref s3.heap.objs.size)) (EP X pins σ Q) X.xe { s3 with heap := s3.heap.push { cls := .type "slice", data := .fields #[vl, vu, .none] } }
  exact tail_any (ops := [.ref s3.heap.objs.size, v]) ht hT hg (by with_unfolding_all rfl)

/-- the items of xs[lo:hi] -/
def cutV (xs : List V) (lo hi : Option Int) : List V := (xs.drop (HT.sIx xs.length 0 lo)).take (HT.sIx xs.length xs.length hi - HT.sIx xs.length 0 lo)
theorem cutV_length (xs : List V) (lo hi : Option Int) : (cutV xs lo hi).length ≤ xs.length := by
  unfold cutV
  rw [List.length_take, List.length_drop]
  omega
/-- t[lo:hi], not the whole of it (the whole would be t itself) -/
def rSlT (K : PySem.W.Frag) : V → Option Int → Option Int → Hp → VK → Prop := fun x lo hi H Q => ∃ a xs, x = .ref a ∧ SqT K H a xs ∧
  ¬ (HT.sIx xs.length 0 lo = 0 ∧ HT.sIx xs.length xs.length hi = xs.length) ∧ ∀ p, H p = none → Q (.ref p) (upd H p (.tup (cutV xs lo hi)))
theorem sl_tup : SlR X (rSlT X.K) := by
  intro pins s σ H x v vl vu lo hi sl Q I rx hs pl pu h
  obtain ⟨a, xs, rfl, hx, hw, q⟩ := h
  cases rx
  obtain ⟨its, r, ht, hz⟩ := I.tuple hx
  have hlen : its.toArray.size = xs.length := by rw [List.size_toArray]; exact r.length.symm
  refine ⟨"tuple", _, PyProof.Rows.slot_tuple_getitem.lookup, ht.typeIs, ?_⟩
  refine HT.getItem_tuple_cut ht hs pl pu (by rw [hlen]; exact hw) ?_ (by rw [hlen]; exact hz)
  rw [hlen]
  refine ⟨.ref s.heap.objs.size, _, I.laid (t' := s.toks) (o := .tup (cutV xs lo hi)) (fun b ob q => Heap.get?_push_of_some _ q) (Nat.le_refl _) ?_, rfl, q _ (I.hok.fresh (Nat.le_refl _))⟩
  exact ⟨Nat.le_trans (cutV_length xs lo hi) hz, _, (r.drop (HT.sIx xs.length 0 lo)).take (HT.sIx xs.length xs.length hi - HT.sIx xs.length 0 lo), IsTup.new _ _⟩

/-! ### t < u, t + u -/
def rLtT (K : PySem.W.Frag) : R2 := fun x y H Q => ∃ a b ns ms, x = .ref a ∧ y = .ref b ∧ SqT K H a (ns.map V.int) ∧ SqT K H b (ms.map V.int) ∧ Q (.bl (HT.lexLt ns ms)) H
theorem op_ltT (hu : X.A.units < cLine) : OpR X (compareOp .Lt) (rLtT X.K) := by
  intro pins s σ H x y v u Q I rx ry h
  obtain ⟨a, b, ns, ms, rfl, rfl, ha, hb, q⟩ := h
  cases rx
  cases ry
  obtain ⟨its, r1, p1, _⟩ := I.tuple ha
  obtain ⟨its2, r2, p2, _⟩ := I.tuple hb
  have i1 : IntsAre its.toArray.toList ns := intsAre_of r1
  have i2 : IntsAre its2.toArray.toList ms := intsAre_of r2
  exact HT.lt_tupInts p1 p2 i1 i2 hu ⟨.bl (HT.lexLt ns ms), H, I, rfl, q⟩
/-- t + u, t not empty: u empty gives t itself -/
def rCatT (K : PySem.W.Frag) : R2 := fun x y H Q => ∃ a b xs ys, x = .ref a ∧ y = .ref b ∧ SqT K H a xs ∧ SqT K H b ys ∧ xs ≠ [] ∧ xs.length + ys.length ≤ sizeLine ∧
  (ys = [] → Q (.ref a) H) ∧ (ys ≠ [] → ∀ p, H p = none → Q (.ref p) (upd H p (.tup (xs ++ ys))))
theorem Vals.nil_iff {xs : List V} {us : List Value} (r : Vals xs us) : us = [] ↔ xs = [] := by
  cases r with
  | nil => simp
  | cons _ _ => simp
theorem op_catT : OpR X (binaryOp .Add) (rCatT X.K) := by
  intro pins s σ H x y v u Q I rx ry h
  obtain ⟨a, b, xs, ys, rfl, rfl, ha, hb, hx, hz, q1, q2⟩ := h
  cases rx
  cases ry
  obtain ⟨its, r1, p1, _⟩ := I.tuple ha
  obtain ⟨its2, r2, p2, _⟩ := I.tuple hb
  refine HT.cat_tup p1 p2 (fun z => hx (r1.nil_iff.mp z)) (fun z => ⟨.ref a, H, I, rfl, q1 (r2.nil_iff.mp z)⟩) (fun z => ?_) (by rw [← r1.length, ← r2.length]; exact hz)
  refine ⟨.ref s.heap.objs.size, _, I.laid (t' := s.toks) (o := .tup (xs ++ ys)) (fun b ob q => Heap.get?_push_of_some _ q) (Nat.le_refl _) ?_, rfl, q2 (fun w => z (r2.nil_iff.mpr w)) _ (I.hok.fresh (Nat.le_refl _))⟩
  exact ⟨by rw [List.length_append]; exact hz, _, r1.append r2, IsTup.new _ _⟩
/-- tuple(t) -/
theorem call_tupleT : CallR X (.type "tuple") (fun xs H Q => ∃ a ys, xs = [.ref a] ∧ SqT X.K H a ys ∧ Q (.ref a) H) := by
  intro pins s σ H xs us Q I r h
  obtain ⟨a, ys, rfl, ha, q⟩ := h
  obtain ⟨u, rfl, ru⟩ := vals1 r
  cases ru
  obtain ⟨its, _, p1, _⟩ := I.tuple ha
  exact call_tuple_same (items := its.toArray) p1 ⟨.ref a, H, I, rfl, q⟩
end
end L2

namespace L2
open PySem PySem.Spec PyProof.Rows

/-! ### places -/
/-- the place that an index of any sign means -/
def ixN (n : Nat) (i : Int) : Option Nat := if 0 ≤ i then (if i < n then some i.toNat else none) else if -(n : Int) ≤ i then some (i + n).toNat else none
def atI {α : Type} (xs : List α) (i : Int) : Option α := (ixN xs.length i).bind fun j => xs[j]?
theorem ixN_seq {n : Nat} {i : Int} {j : Nat} (h : ixN n i = some j) : seqIndex? i n = some j ∧ j < n ∧ -(n : Int) ≤ i ∧ i < n := by
  unfold ixN at h
  by_cases h0 : 0 ≤ i
  · rw [if_pos h0] at h
    by_cases h1 : i < n
    · rw [if_pos h1] at h
      have e : i.toNat = j := Option.some.inj h
      exact ⟨by rw [seqIndex_of h0 h1, e], by omega, by omega, h1⟩
    · rw [if_neg h1] at h; cases h
  · rw [if_neg h0] at h
    by_cases h1 : -(n : Int) ≤ i
    · rw [if_pos h1] at h
      have e : (i + n).toNat = j := Option.some.inj h
      exact ⟨by rw [seqIndex_neg (by omega) h1, e], by omega, h1, by omega⟩
    · rw [if_neg h1] at h; cases h
theorem atI_get {α : Type} {xs : List α} {i : Int} {v : α} (h : atI xs i = some v) : ∃ j, seqIndex? i xs.length = some j ∧ xs[j]? = some v ∧ j < xs.length ∧ -(xs.length : Int) ≤ i ∧ i < xs.length := by
  unfold atI at h
  cases e : ixN xs.length i with
  | none => rw [e] at h; cases h
  | some j =>
    rw [e] at h
    obtain ⟨h1, h2, h3, h4⟩ := ixN_seq e
    exact ⟨j, h1, h, h2, h3, h4⟩
theorem atI_nat {α : Type} {xs : List α} {j : Nat} {v : α} (h : xs[j]? = some v) : atI xs (j : Int) = some v := by
  have hj : j < xs.length := (List.getElem?_eq_some_iff.mp h).1
  have e : ixN xs.length (j : Int) = some j := by
    unfold ixN
    rw [if_pos (by omega), if_pos (by omega)]; simp
  unfold atI; rw [e]; exact h
theorem atI_last {α : Type} (xs : List α) (v : α) : atI (xs ++ [v]) (-1) = some v := by
  have hl : (xs ++ [v]).length = xs.length + 1 := by simp
  have e : ixN (xs ++ [v]).length (-1) = some xs.length := by
    unfold ixN
    rw [hl, if_neg (by decide), if_pos (by omega)]
    congr 1
    omega
  unfold atI
  rw [e]
  show (xs ++ [v])[xs.length]? = some v
  simp

/-! ### what may be subscripted -/
/-- what stands as an index of a plain subscript -/
def PlainIx (b : Expr) : Prop := ∀ o i, subscripted b false o i = operate [o, i] (getItem o i)
/-- a subscript by values -/
def IxR (X : Cx) (r : R2) : Prop :=
  ∀ (value slice : Expr) (pins : List (Addr × Obj)) (s : Shared) (σ : St) (H : Hp) (x y : V) (v u : Value) (Q : VK), Inv X pins σ H s → RelV x v → RelV y u → r x y H Q →
    subscripted slice false v u = operate [v, u] (getItem v u) → wpAny (model X.prog X.w) X.A (subscriptTail value slice v u) (EP X pins σ Q) X.xe s
/-- a call of a builtin's method by values: the receiver, the arguments -/
def MtR (X : Cx) (id : String) (r : V → List V → Hp → VK → Prop) : Prop :=
  ∀ (pins : List (Addr × Obj)) (s : Shared) (σ : St) (H : Hp) (x : V) (xs : List V) (v : Value) (us : List Value) (Q : VK), Inv X pins σ H s → RelV x v → Vals xs us → r x xs H Q →
    wpAny (model X.prog X.w) X.A (call (.builtin id) (v :: us)) (EP X pins σ Q) X.xe s
section
variable {X : Cx} {a b : Expr} {ta tb : TE} {pos : Pos}
theorem IxR.or {r r' : R2} (h : IxR X r) (h' : IxR X r') : IxR X (fun x y H Q => r x y H Q ∨ r' x y H Q) := by
  intro value slice pins s σ H x y v u Q I rx ry q hs
  rcases q with q | q
  · exact h value slice pins s σ H x y v u Q I rx ry q hs
  · exact h' value slice pins s σ H x y v u Q I rx ry q hs
theorem MtR.or {id : String} {r r' : V → List V → Hp → VK → Prop} (h : MtR X id r) (h' : MtR X id r') : MtR X id (fun x xs H Q => r x xs H Q ∨ r' x xs H Q) := by
  intro pins s σ H x xs v us Q I rx rs q
  rcases q with q | q
  · exact h pins s σ H x xs v us Q I rx rs q
  · exact h' pins s σ H x xs v us Q I rx rs q
/-- a[b] -/
theorem pe_ix {r : R2} (hr : IxR X r) (ha : PE X a ta) (hb : PE X b tb) (hs : PlainIx b) : PE X (.Subscript a b pos) (tOp r ta tb) := by
  intro pins s σ H Q I h
  exact Subscript_ (binT ha hb I h fun v u s2 x y H2 I2 rx ry q => hr a b pins s2 σ H2 x y v u Q I2 rx ry q (hs _ _))

def rIxL (K : PySem.W.Frag) : R2 := fun x y H Q => ∃ p xs i v, x = .ref p ∧ y = .int i ∧ SqL K H p xs ∧ atI xs i = some v ∧ Q v H
def rIxT (K : PySem.W.Frag) : R2 := fun x y H Q => ∃ p xs i v, x = .ref p ∧ y = .int i ∧ SqT K H p xs ∧ atI xs i = some v ∧ Q v H
def rIxS : R2 := fun x y H Q => ∃ z i c, x = .str z ∧ y = .int i ∧ z.length ≤ sizeLine ∧ atI z.cps.toList i = some c ∧ Q (.str ⟨#[c]⟩) H
theorem ix_list : IxR X (rIxL X.K) := by
  intro value slice pins s σ H x y v u Q I rx ry h hs
  obtain ⟨p, xs, i, z, rfl, rfl, hq, he, q⟩ := h
  cases rx
  obtain ⟨t, rfl⟩ := ry
  obtain ⟨its, r, pl, hz⟩ := I.list hq
  obtain ⟨j, h1, h2, h3, h4, h5⟩ := atI_get he
  obtain ⟨w, ew, rw'⟩ := r.get h2
  have hl := r.length
  have hn := line63
  have fin : EP X pins σ Q w s := ⟨z, H, I, rw', q⟩
  by_cases h0 : 0 ≤ i
  · have hj : i.toNat = j := by
      rw [seqIndex_of h0 h5] at h1
      exact Option.some.inj h1
    exact item_listR pl.isList h0 (by omega) (by rw [hj]; simpa using ew) fin hs
  · have hj : (i + (its.toArray.size : Int)).toNat = j := by
      rw [seqIndex_neg (by omega) h4] at h1
      rw [List.size_toArray, ← hl]
      exact Option.some.inj h1
    exact subscriptTail_builtinR (x := w) pl.isList.typeIs slot_list_getitem.lookup
      (wpAny_getItem_list_neg (Q := fun r s' => r = w ∧ EP X pins σ Q r s') pl.isList (by omega) (by rw [List.size_toArray] <;> omega) (by omega) (by rw [hj]; simpa using ew) ⟨rfl, fin⟩) hs
theorem ix_tup : IxR X (rIxT X.K) := by
  intro value slice pins s σ H x y v u Q I rx ry h hs
  obtain ⟨p, xs, i, z, rfl, rfl, hq, he, q⟩ := h
  cases rx
  obtain ⟨t, rfl⟩ := ry
  obtain ⟨its, r, pl, hz⟩ := I.tuple hq
  obtain ⟨j, h1, h2, h3, h4, h5⟩ := atI_get he
  obtain ⟨w, ew, rw'⟩ := r.get h2
  have hl := r.length
  have hn := line63
  have fin : EP X pins σ Q w s := ⟨z, H, I, rw', q⟩
  exact subscriptTail_builtinR (x := w) pl.typeIs slot_tuple_getitem.lookup
    (getItem_tuple (j := j) (Q := fun r s' => r = w ∧ EP X pins σ Q r s') pl (by omega) (by omega) (by rw [List.size_toArray, ← hl]; exact h1) (by simpa using ew) ⟨rfl, fin⟩) hs
theorem ix_str : IxR X rIxS := by
  intro value slice pins s σ H x y v u Q I rx ry h hs
  obtain ⟨z, i, c, rfl, rfl, hz, he, q⟩ := h
  obtain ⟨t, rfl⟩ := rx
  obtain ⟨t', rfl⟩ := ry
  obtain ⟨j, h1, h2, h3, h4, h5⟩ := atI_get he
  have hl : z.cps.toList.length = z.length := by simp [Str.length]
  rw [hl] at h1 h4 h5
  have hn := line63
  exact tail_any (typeIs_str s z t) slot_str_getitem.lookup (getItem_str (c := c) (by
    have e1 : decide (i < -(2 ^ 63 : Int)) = false := decide_eq_false (by omega)
    have e2 : decide (i ≥ 2 ^ 63) = false := decide_eq_false (by omega)
    rw [e1, e2, Bool.or_false]) (by rw [h1]; simpa using h2) ⟨.str ⟨#[c]⟩, H, I.tok _, ⟨_, rfl⟩, q⟩) hs
/-- list, tuple or str -/
def rIx (K : PySem.W.Frag) : R2 := fun x y H Q => rIxL K x y H Q ∨ rIxT K x y H Q ∨ rIxS x y H Q
theorem ix_seq : IxR X (rIx X.K) := ix_list.or (ix_tup.or ix_str)

/-! ### xs[i] = v, any sign -/
/-- the list's object behind a store -/
theorem mapSeq_set (its : List Value) (n j : Nat) (u : Value) : Obj.mapSeq (·.setIfInBounds j u) { cls := .type "list", data := .seq its.toArray n } = { cls := .type "list", data := .seq (its.set j u).toArray n } := by
  simp [Obj.mapSeq]
theorem Inv.lst {pins : List (Addr × Obj)} {σ : St} {H : Hp} {s : Shared} {p : Addr} {xs : List V} (I : Inv X pins σ H s) (h : H p = some (.lst xs)) :
    ∃ (its : List Value) (n : Nat), Vals xs its ∧ s.heap.get? p = some { cls := .type "list", data := .seq its.toArray n } ∧ xs.length ≤ sizeLine := by
  obtain ⟨z, its, n, r, e⟩ := I.hok p _ h
  exact ⟨its, n, r, e, z⟩
/-- the list at p is written by an update of its object -/
theorem Inv.lstUpd {pins : List (Addr × Obj)} {σ : St} {H : Hp} {s : Shared} {p : Addr} {xs ys : List V} {its its' : List Value} {n n' : Nat} {f : Obj → Obj} (I : Inv X pins σ H s) (h : H p = some (.lst xs))
    (ho : s.heap.get? p = some { cls := .type "list", data := .seq its.toArray n }) (hf : f { cls := .type "list", data := .seq its.toArray n } = { cls := .type "list", data := .seq its'.toArray n' }) (r : Vals ys its') (hz : ys.length ≤ sizeLine) (t : Nat) :
    Inv X pins σ (upd H p (.lst ys)) { s with heap := s.heap.update p f, toks := t } := by
  have e : (s.heap.update p f).get? p = some { cls := .type "list", data := .seq its'.toArray n' } := by
    rw [Heap.get?_update_self f ho (by rw [hf] <;> rfl), hf]
  refine I.write (x := p) (e := p) (by rw [h]; trivial) (.inl rfl) (fun b u hb q => (Heap.get?_update_other _ _ (Ne.symm hb)).trans q) ⟨_, e⟩ ?_
  exact ⟨hz, its', n', r, e⟩
def rSetL : V → V → V → Hp → (Hp → Prop) → Prop := fun o i v H Q => ∃ p xs k j, o = .ref p ∧ i = .int k ∧ H p = some (.lst xs) ∧ ixN xs.length k = some j ∧ Q (upd H p (.lst (xs.set j v)))
theorem set_list : PSet X rSetL := by
  intro pins s σ H o i v ov iv u Q I ro ri rv h
  obtain ⟨p, xs, k, j, rfl, rfl, hp, hj, q⟩ := h
  cases ro
  obtain ⟨t, rfl⟩ := ri
  obtain ⟨its, n, r, ho, hz⟩ := I.lst hp
  obtain ⟨h1, h2, h3, h4⟩ := ixN_seq hj
  have hl := r.length
  have hn := line63
  have I' : Inv X pins σ (upd H p (.lst (xs.set j v))) { s with heap := s.heap.update p (Obj.mapSeq (·.setIfInBounds j u)) } :=
    I.lstUpd hp ho (mapSeq_set its n j u) (r.set rv j) (by rw [List.length_set]; exact hz) s.toks
  by_cases h0 : 0 ≤ k
  · have hk : k.toNat = j := by
      rw [seqIndex_of h0 h4] at h1
      exact Option.some.inj h1
    exact PySem.W.ki_setAt ho h0 (by omega) (by rw [List.size_toArray, ← hl]; exact h4) (by rw [hk]; exact ⟨_, I', q⟩)
  · have hk : (k + (its.toArray.size : Int)).toNat = j := by
      rw [seqIndex_neg (by omega) h3] at h1
      rw [List.size_toArray, ← hl]
      exact Option.some.inj h1
    exact PySem.W.ki_setBack ho (by omega) (by rw [List.size_toArray, ← hl]; exact h3) (by omega) (by rw [hk]; exact ⟨_, I', q⟩)

/-! ### slices -/
theorem slice_bounds (lo hi : Option Int) (n : Nat) : (sliceBounds lo hi none n).1 = ((HT.sIx n 0 lo : Nat) : Int) ∧ (sliceBounds lo hi none n).2.1 = ((HT.sIx n n hi : Nat) : Int) ∧ (sliceBounds lo hi none n).2.2 = 1 := by
  refine ⟨?_, ?_, rfl⟩
  · cases lo with
    | none => simp [sliceBounds, HT.sIx]
    | some i =>
      simp only [sliceBounds, HT.sIx, Option.getD_none, show (1 : Int) > 0 by decide, if_true]
      by_cases h : i < 0
      · simp only [h, if_true] <;> omega
      · simp only [h, if_false] <;> omega
  · cases hi with
    | none => simp [sliceBounds, HT.sIx]
    | some i =>
      simp only [sliceBounds, HT.sIx, Option.getD_none, show (1 : Int) > 0 by decide, if_true]
      by_cases h : i < 0
      · simp only [h, if_true] <;> omega
      · simp only [h, if_false] <;> omega
theorem slicePick_cut (its : List Value) (lo hi : Option Int) : slicePick its.toArray lo hi none = ((its.drop (HT.sIx its.length 0 lo)).take (HT.sIx its.length its.length hi - HT.sIx its.length 0 lo)).toArray := by
  obtain ⟨h1, h2, h3⟩ := slice_bounds lo hi its.toArray.size
  unfold slicePick
  rw [h1, h2, h3]
  simp only [sliceRange_one, pick_run, List.size_toArray] <;> rfl
/-- xs[lo:hi] of a list: a new list -/
def rSlL (K : PySem.W.Frag) : V → Option Int → Option Int → Hp → VK → Prop := fun x lo hi H Q => ∃ a xs, x = .ref a ∧ SqL K H a xs ∧ ∀ p, H p = none → Q (.ref p) (upd H p (.lst (cutV xs lo hi)))
theorem sl_list : SlR X (rSlL X.K) := by
  intro pins s σ H x v vl vu lo hi sl Q I rx hs pl pu h
  obtain ⟨a, xs, rfl, hx, q⟩ := h
  cases rx
  obtain ⟨its, r, ht, hz⟩ := I.list hx
  have hlen := r.length
  refine ⟨"list", _, slot_list_getitem.lookup, ht.isList.typeIs, ?_⟩
  refine wpAny_getItem_list_slice ht.isList hs pl pu .none (by simp) ?_ (by rw [List.size_toArray] <;> omega)
  rw [slicePick_cut, ← hlen]
  refine ⟨.ref s.heap.objs.size, _, I.laid (t' := s.toks) (o := .lst (cutV xs lo hi)) (fun b ob q => Heap.get?_push_of_some _ q) (Nat.le_refl _) ?_, rfl, q _ (I.hok.fresh (Nat.le_refl _))⟩
  exact ⟨Nat.le_trans (cutV_length xs lo hi) hz, _, 0, (r.drop (HT.sIx xs.length 0 lo)).take (HT.sIx xs.length xs.length hi - HT.sIx xs.length 0 lo), Heap.get?_push_size _ rfl⟩

/-! ### in, not in: flat items -/
def flatV : V → Bool
  | .non => true
  | .bl _ => true
  | .int _ => true
  | .str _ => true
  | _ => false
/-- == of flat values -/
def eqV : V → V → Bool
  | .non, .non => true
  | .bl a, .bl b => a == b
  | .bl a, .int b => (if a then 1 else 0) == b
  | .int a, .bl b => a == (if b then 1 else 0)
  | .int a, .int b => a == b
  | .str a, .str b => a == b
  | _, _ => false
theorem eqAt_V {A : Around} {s : Shared} {y x : V} {u v : Value} (ry : RelV y u) (rx : RelV x v) (fy : flatV y = true) (fx : flatV x = true) : SeqAt.EqAt A s u v (eqV y x) := by
  cases y with
  | non =>
    cases ry
    cases x with
    | non => cases rx; exact SeqAt.EqAt.same _
    | bl b => cases rx; exact SeqAt.EqAt.none_bool b
    | int b => obtain ⟨t, rfl⟩ := rx; exact SeqAt.EqAt.none_int b t
    | str b => obtain ⟨t, rfl⟩ := rx; exact SeqAt.EqAt.none_str b t
    | _ => exact absurd (show false = true from fx) Bool.false_ne_true
  | bl a =>
    cases ry
    cases x with
    | non => cases rx; exact SeqAt.EqAt.bool_none a
    | bl b => cases rx; exact SeqAt.EqAt.bool_bool a b
    | int b => obtain ⟨t, rfl⟩ := rx; exact SeqAt.EqAt.bool_int a b t
    | str b => obtain ⟨t, rfl⟩ := rx; exact SeqAt.EqAt.bool_str a b t
    | _ => exact absurd (show false = true from fx) Bool.false_ne_true
  | int a =>
    obtain ⟨t', rfl⟩ := ry
    cases x with
    | non => cases rx; exact SeqAt.EqAt.int_none a t'
    | bl b => cases rx; exact SeqAt.EqAt.int_bool a t' b
    | int b => obtain ⟨t, rfl⟩ := rx; exact SeqAt.EqAt.int_int a t' b t
    | str b => obtain ⟨t, rfl⟩ := rx; exact SeqAt.EqAt.int_str a t' b t
    | _ => exact absurd (show false = true from fx) Bool.false_ne_true
  | str a =>
    obtain ⟨t', rfl⟩ := ry
    cases x with
    | non => cases rx; exact SeqAt.EqAt.str_none a t'
    | bl b => cases rx; exact SeqAt.EqAt.str_bool a t' b
    | int b => obtain ⟨t, rfl⟩ := rx; exact SeqAt.EqAt.str_int a t' b t
    | str b => obtain ⟨t, rfl⟩ := rx; exact SeqAt.EqAt.str_str a t' b t
    | _ => exact absurd (show false = true from fx) Bool.false_ne_true
  | _ => exact absurd (show false = true from fy) Bool.false_ne_true
/-- the items' answers, read off the values (a value's own answer does not lean on its token) -/
def eqU (x : V) (u : Value) : Bool := match u with
  | .none => eqV .non x
  | .bool b => eqV (.bl b) x
  | .int i _ => eqV (.int i) x
  | .str z _ => eqV (.str z) x
  | _ => false
theorem eqU_of {x y : V} {u : Value} (r : RelV y u) (f : flatV y = true) : eqU x u = eqV y x := by
  cases y with
  | non => cases r; rfl
  | bl b => cases r; rfl
  | int i => obtain ⟨t, rfl⟩ := r; rfl
  | str z => obtain ⟨t, rfl⟩ := r; rfl
  | _ => exact absurd (show false = true from f) Bool.false_ne_true
theorem any_eqU {x : V} : ∀ {xs : List V} {us : List Value}, Vals xs us → xs.all flatV = true → us.any (eqU x) = xs.any fun y => eqV y x
  | _, _, .nil, _ => rfl
  | y :: xs, u :: us, .cons r t, f => by
    rw [List.all_cons, Bool.and_eq_true] at f
    rw [List.any_cons, List.any_cons, eqU_of r f.1, any_eqU t f.2]
theorem mem_eqAt {A : Around} {s : Shared} {x : V} {v : Value} (rx : RelV x v) (fx : flatV x = true) : ∀ {xs : List V} {us : List Value}, Vals xs us → xs.all flatV = true → ∀ u ∈ us, SeqAt.EqAt A s u v (eqU x u)
  | _, _, .nil, _ => fun u hu => by cases hu
  | y :: xs, u :: us, .cons r t, f => fun u' hu => by
    rw [List.all_cons, Bool.and_eq_true] at f
    rcases List.mem_cons.mp hu with rfl | hu
    · rw [eqU_of r f.1]; exact eqAt_V r rx f.1 fx
    · exact mem_eqAt rx fx t f.2 u' hu
def inV (x : V) (xs : List V) : Bool := xs.any fun y => eqV y x
/-- x in a list or tuple of flat items -/
def rIn (K : PySem.W.Frag) (neg : Bool) : R2 := fun x y H Q => ∃ p xs, y = .ref p ∧ (SqL K H p xs ∨ SqT K H p xs) ∧ flatV x = true ∧ xs.all flatV = true ∧ Q (.bl (if neg then !inV x xs else inV x xs)) H
theorem op_in_seq : OpR X (compareOp .In) (rIn X.K false) := by
  intro pins s σ H x y v u Q I rx ry h
  obtain ⟨p, xs, rfl, hq, fx, fs, q⟩ := h
  cases ry
  rcases hq with hq | hq
  · obtain ⟨its, r, pl, hz⟩ := I.list hq
    refine SeqAt.in_listAt (eqU x) pl.isList (fun w hw => mem_eqAt rx fx r fs w (by simpa using hw)) ⟨.bl _, H, I, rfl, ?_⟩
    rw [show its.toArray.any (eqU x) = its.any (eqU x) by simp, any_eqU r fs]
    exact q
  · obtain ⟨its, r, pl, hz⟩ := I.tuple hq
    refine SeqAt.in_tupleAt (eqU x) pl (fun w hw => mem_eqAt rx fx r fs w (by simpa using hw)) ⟨.bl _, H, I, rfl, ?_⟩
    rw [show its.toArray.any (eqU x) = its.any (eqU x) by simp, any_eqU r fs]
    exact q
theorem op_notIn_seq : OpR X (compareOp .NotIn) (rIn X.K true) := by
  intro pins s σ H x y v u Q I rx ry h
  obtain ⟨p, xs, rfl, hq, fx, fs, q⟩ := h
  cases ry
  rcases hq with hq | hq
  · obtain ⟨its, r, pl, hz⟩ := I.list hq
    refine SeqAt.notIn_listAt (eqU x) pl.isList (fun w hw => mem_eqAt rx fx r fs w (by simpa using hw)) ⟨.bl _, H, I, rfl, ?_⟩
    rw [show its.toArray.any (eqU x) = its.any (eqU x) by simp, any_eqU r fs]
    exact q
  · obtain ⟨its, r, pl, hz⟩ := I.tuple hq
    refine SeqAt.notIn_tupleAt (eqU x) pl (fun w hw => mem_eqAt rx fx r fs w (by simpa using hw)) ⟨.bl _, H, I, rfl, ?_⟩
    rw [show its.toArray.any (eqU x) = its.any (eqU x) by simp, any_eqU r fs]
    exact q
theorem op_notIn_str : OpR X (compareOp .NotIn) (fun x y H Q => ∃ i j, x = .str i ∧ y = .str j ∧ Q (.bl (!(!(Builtin.Str.occurrences j i 0 j.length 1).isEmpty))) H) := by
  intro pins s σ H x y v u Q I rx ry h
  obtain ⟨i, j, rfl, rfl, q⟩ := h
  obtain ⟨t, rfl⟩ := rx
  obtain ⟨t', rfl⟩ := ry
  exact notIn_str ⟨.bl _, H, I, rfl, q⟩

/-! ### len, list(x), tuple(x) of any list or tuple that is read -/
theorem call_len_seq : CallR X (.builtin "len") (fun xs H Q => ∃ p ys, xs = [.ref p] ∧ (SqL X.K H p ys ∨ SqT X.K H p ys) ∧ Q (.int ys.length) H) := by
  intro pins s σ H xs us Q I r h
  obtain ⟨p, ys, rfl, hq, q⟩ := h
  obtain ⟨u, rfl, rx⟩ := vals1 r
  cases rx
  have hn := line63
  rcases hq with hq | hq
  · obtain ⟨its, r', pl, hz⟩ := I.list hq
    have hlen := r'.length
    exact Calls.call_len_list pl.isList (by simp only [List.size_toArray] <;> omega) ⟨.int ys.length, H, I.tok _, ⟨s.toks + 1, by rw [List.size_toArray, hlen]⟩, q⟩
  · obtain ⟨its, r', pl, hz⟩ := I.tuple hq
    have hlen := r'.length
    exact len_tuple pl (by simp only [List.size_toArray] <;> omega) ⟨.int ys.length, H, I.tok _, ⟨s.toks + 1, by rw [List.size_toArray, hlen]⟩, q⟩
theorem call_len_str : CallR X (.builtin "len") (fun xs H Q => ∃ z, xs = [.str z] ∧ z.length ≤ sizeLine ∧ Q (.int z.length) H) := by
  intro pins s σ H xs us Q I r h
  obtain ⟨z, rfl, hz, q⟩ := h
  obtain ⟨u, rfl, t, rfl⟩ := vals1 r
  have hn := line63
  exact len_str (by omega) ⟨.int z.length, H, I.tok _, ⟨_, rfl⟩, q⟩
theorem CallR.or {f : Value} {r r' : List V → Hp → VK → Prop} (h : CallR X f r) (h' : CallR X f r') : CallR X f (fun xs H Q => r xs H Q ∨ r' xs H Q) := by
  intro pins s σ H xs us Q I rs q
  rcases q with q | q
  · exact h pins s σ H xs us Q I rs q
  · exact h' pins s σ H xs us Q I rs q
theorem call_list_of : CallR X (.type "list") (fun xs H Q => ∃ p ys, xs = [.ref p] ∧ (SqL X.K H p ys ∨ SqT X.K H p ys) ∧ ∀ l, H l = none → Q (.ref l) (upd H l (.lst ys))) := by
  intro pins s σ H xs us Q I r h
  obtain ⟨p, ys, rfl, hq, q⟩ := h
  obtain ⟨u, rfl, rx⟩ := vals1 r
  cases rx
  have fin : ∀ (its : List Value), Vals ys its → ys.length ≤ sizeLine → ∀ (h' : Heap) (c' : Nat), (∀ b o', s.heap.get? b = some o' → h'.get? b = some o') →
      h'.get? s.heap.objs.size = some { cls := .type "list", dict := none, data := .seq its.toArray c', slots := #[] } → EP X pins σ Q (.ref s.heap.objs.size) { s with heap := h' } := fun its r' hz h' c' kp e =>
    ⟨.ref s.heap.objs.size, _, I.laid (t' := s.toks) kp (Nat.le_refl _) (show ObjOk X.prog X.w _ h' _ (.lst ys) from ⟨hz, its, c', r', e⟩), rfl, q _ (I.hok.fresh (Nat.le_refl _))⟩
  rcases hq with hq | hq
  · obtain ⟨its, r', pl, hz⟩ := I.list hq
    have hlen := r'.length
    obtain ⟨o, ho, hc, n, hd⟩ := pl.isList
    exact call_list_seq p (.inl rfl) ho hc hd (fun h' c' kp e => fin its r' hz h' c' kp e) (by simp only [List.size_toArray] <;> omega)
  · obtain ⟨its, r', pl, hz⟩ := I.tuple hq
    have hlen := r'.length
    obtain ⟨o, ho, hc, n, hd⟩ := pl
    exact call_list_seq p (.inr rfl) ho hc hd (fun h' c' kp e => fin its r' hz h' c' kp e) (by simp only [List.size_toArray] <;> omega)
theorem call_tuple_of : CallR X (.type "tuple") (fun xs H Q => ∃ p ys, xs = [.ref p] ∧ ((SqL X.K H p ys ∧ ∀ l, H l = none → Q (.ref l) (upd H l (.tup ys))) ∨ (SqT X.K H p ys ∧ Q (.ref p) H))) := by
  intro pins s σ H xs us Q I r h
  obtain ⟨p, ys, rfl, h⟩ := h
  obtain ⟨u, rfl, rx⟩ := vals1 r
  cases rx
  rcases h with ⟨hq, q⟩ | ⟨hq, q⟩
  · obtain ⟨its, r', pl, hz⟩ := I.list hq
    have hlen := r'.length
    refine call_tuple_list pl.isList (fun h' kp => ?_) (by simp only [List.size_toArray] <;> omega)
    have I1 : Inv X pins σ H { s with heap := h' } := I.kept (t' := s.toks) kp
    have I2 : Inv X pins σ (upd H h'.objs.size (.tup ys)) { s with heap := h'.push { cls := .type "tuple", data := .seq its.toArray } } :=
      I1.laid (t' := s.toks) (fun b o e => Heap.get?_push_of_some _ e) (Nat.le_refl _) (show ObjOk X.prog X.w _ _ _ (.tup ys) from ⟨hz, its, r', IsTup.new _ _⟩)
    exact ⟨.ref h'.objs.size, _, I2, rfl, q _ (I1.hok.fresh (Nat.le_refl _))⟩
  · obtain ⟨its, r', pl, hz⟩ := I.tuple hq
    exact call_tuple_same pl ⟨.ref p, H, I, rfl, q⟩

/-! ### the call of a builtin's method: o.m(..) -/
/-- the value is of that builtin type -/
def tyV (K : PySem.W.Frag) (T : String) (x : V) (H : Hp) : Prop := match x with
  | .str _ => T = "str"
  | .int _ => T = "int"
  | .ref p => (T = "list" ∧ ∃ xs, SqL K H p xs) ∨ (T = "tuple" ∧ ∃ o, K.lookup p = some o ∧ o.cls = .type "tuple" ∧ o.dict = none) ∨
      (T = "dict" ∧ ((∃ kvs, H p = some (.dK kvs)) ∨ ∃ kvs, H p = some (.dT kvs))) ∨ (T = "set" ∧ ∃ S n, H p = some (.set S n))
  | _ => False
theorem tyV_is {pins : List (Addr × Obj)} {σ : St} {H : Hp} {s : Shared} {T : String} {x : V} {v : Value} (I : Inv X pins σ H s) (r : RelV x v) (ty : tyV X.K T x H) :
    s.TypeIs v T ∧ ∀ a, v = .ref a → ∃ ob, s.heap.get? a = some ob ∧ ob.dict = none := by
  cases x with
  | str z =>
    obtain ⟨t, rfl⟩ := r
    cases (show T = "str" from ty)
    exact ⟨typeIs_str s z t, fun _ e => nomatch e⟩
  | int i =>
    obtain ⟨t, rfl⟩ := r
    cases (show T = "int" from ty)
    exact ⟨typeIs_int s i t, fun _ e => nomatch e⟩
  | ref p =>
    cases r
    rcases ty with ⟨rfl, xs, hq⟩ | ⟨rfl, o, hk, hc, hd⟩ | ⟨rfl, hk⟩ | ⟨rfl, S, n, hk⟩
    · obtain ⟨its, _, pl, _⟩ := I.list hq
      refine ⟨pl.isList.typeIs, fun a e => ?_⟩
      cases e
      obtain ⟨o, n, e, c, hd, _⟩ := pl
      exact ⟨o, e, hd⟩
    · refine ⟨⟨o, I.kIn p o hk, hc⟩, fun a e => ?_⟩
      cases e
      exact ⟨o, I.kIn _ o hk, hd⟩
    · have z : ∃ o, s.heap.get? p = some o ∧ o.ExactDict := by
        rcases hk with ⟨kvs, hk⟩ | ⟨kvs, hk⟩
        · obtain ⟨_, _, _, _, o, _, _, e, ex, _⟩ := I.hok p _ hk
          exact ⟨o, e, ex⟩
        · obtain ⟨_, _, _, _, o, _, _, e, ex, _⟩ := I.hok p _ hk
          exact ⟨o, e, ex⟩
      obtain ⟨o, e, ex⟩ := z
      refine ⟨⟨o, e, ex.1⟩, fun a e2 => ?_⟩
      cases e2
      exact ⟨o, e, ex.2.1⟩
    · obtain ⟨o, _, _, _, e, ex, _⟩ := I.hok p _ hk
      refine ⟨⟨o, e, ex.1⟩, fun a e2 => ?_⟩
      cases e2
      exact ⟨o, e, ex.2.1⟩
  | _ => exact False.elim ty
def tBM0 (K : PySem.W.Frag) (T : String) (r : V → List V → Hp → VK → Prop) (to : TE) : TE := fun σ H Q => to σ H fun x H1 => tyV K T x H1 ∧ r x [] H1 Q
def tBM (K : PySem.W.Frag) (T : String) (r : V → List V → Hp → VK → Prop) (to : TE) (t : TA) : TE := fun σ H Q => to σ H fun x H1 => tyV K T x H1 ∧ t σ H1 fun xs H2 => r x xs H2 Q
variable {o e : Expr} {es : List Expr} {to : TE} {t : TA} {name : Str} {apos cpos : Pos} {T id : String} {r : V → List V → Hp → VK → Prop}
theorem pe_bm0 (pa : PlainAttrs T) (slot : Slot T name id) (hty : typeOf (.builtin id) = pure (.type "method_descriptor")) (hm : MtR X id r) (ho : PE X o to)
    (hbase : attributeBase o name X.env (eval o X.env) = eval o X.env := by rfl) (hline : (apos.endLine == cpos.line) = true := by rfl) : PE X (.Call (.Attribute o name apos) [] [] cpos) (tBM0 X.K T r to) := by
  intro pins s σ H Q I h
  refine wpAny_Call_method0_late hbase hline (thn (ho pins s σ H _ I h) fun v s1 ⟨x, H1, I1, r1, ty, q1⟩ => ?_)
  obtain ⟨h1, h2⟩ := tyV_is I1 r1 ty
  exact ⟨T, id, pa, slot, hty, h1, h2, Calls.callWith_builtin rfl (PySem.evalArgs_none (hm pins s1 σ H1 x [] v [] Q I1 r1 .nil q1))⟩
theorem pe_bm (pa : PlainAttrs T) (slot : Slot T name id) (hty : typeOf (.builtin id) = pure (.type "method_descriptor")) (hm : MtR X id r) (ho : PE X o to) (ha : PA X (e :: es) t)
    (hbase : attributeBase o name X.env (eval o X.env) = eval o X.env := by rfl)
    (hfew : ((backTo cpos (starEach (e :: es) X.env)).all (fun x => !x.1) && (backToKw cpos (keywordEach [] X.env)).all (fun x => x.1.isSome)
      && decide ((e :: es).length + ([] : List Keyword).length + (if ([] : List Keyword).isEmpty then 0 else 1) < 30)) = true := by rfl)
    (hline : (apos.endLine == cpos.line) = true := by rfl) (hs : starEach (e :: es) X.env = (false, eval e X.env) :: starEach es X.env := by rfl) (hplain : (backTo cpos (starEach es X.env)).any (·.1) = false := by rfl) :
    PE X (.Call (.Attribute o name apos) (e :: es) [] cpos) (tBM X.K T r to t) := by
  intro pins s σ H Q I h
  refine wpAny_Call_method_late hbase hfew hline rfl (thn (ho pins s σ H _ I h) fun v s1 ⟨x, H1, I1, r1, ty, q1⟩ => ?_)
  obtain ⟨h1, h2⟩ := tyV_is I1 r1 ty
  refine ⟨T, id, pa, slot, hty, h1, h2, ?_⟩
  have hA := ha cpos pins s1 σ H1 _ I1 q1
  rw [hs] at hA ⊢
  refine Calls.callWith_builtin (by show (false || (backTo cpos (starEach es X.env)).any (·.1)) = false; rw [hplain] <;> rfl) (Calls.evalArgs_plain ?_)
  exact thn hA fun us s2 ⟨vs, H2, I2, r2, q2⟩ => hm pins s2 σ H2 x vs v us Q I2 r1 r2 q2
/- xs.append(e), list.index on a module's tuple .. are MtR facts of 06m -/
end
end L2

namespace L2
open PySem PySem.Spec PyProof.Rows

def MtM (X : Cx) (id : String) (r : V → List V → Hp → VK → Prop) : Prop :=
  ∀ (pins : List (Addr × Obj)) (s : Shared) (σ : St) (H : Hp) (x : V) (xs : List V) (v : Value) (us : List Value) (Q : VK), Inv X pins σ H s → RelV x v → Vals xs us → r x xs H Q →
    wpAny (model X.prog X.w) X.A (call (.builtin id) (v :: us)) (EP X pins σ Q) X.xe s

/-! ### lists of values -/
theorem Vals.one : ∀ {x : V} {us : List Value}, Vals [x] us → ∃ u, us = [u] ∧ RelV x u
  | _, _, .cons r .nil => ⟨_, rfl, r⟩
theorem Vals.two : ∀ {x y : V} {us : List Value}, Vals [x, y] us → ∃ u v, us = [u, v] ∧ RelV x u ∧ RelV y v
  | _, _, _, .cons r (.cons q .nil) => ⟨_, _, rfl, r, q⟩
theorem Vals.zero : ∀ {us : List Value}, Vals [] us → us = []
  | _, .nil => rfl
theorem Vals.dropLast {xs : List V} {us : List Value} (h : Vals xs us) : Vals xs.dropLast us.dropLast := by
  induction h with
  | nil => exact .nil
  | cons r t ih =>
    cases t with
    | nil => exact .nil
    | cons q t' => exact .cons r ih
theorem Vals.eraseIdx : ∀ {xs : List V} {us : List Value} (i : Nat), Vals xs us → Vals (xs.eraseIdx i) (us.eraseIdx i)
  | _, _, _, .nil => .nil
  | _, _, 0, .cons _ t => t
  | _, _, i + 1, .cons r t => .cons r (Vals.eraseIdx i t)
theorem Vals.reverse {xs : List V} {us : List Value} (h : Vals xs us) : Vals xs.reverse us.reverse := by
  induction h with
  | nil => exact .nil
  | cons r t ih => rw [List.reverse_cons, List.reverse_cons]; exact Vals.append ih (.cons r .nil)
theorem Vals.rep {xs : List V} {us : List Value} (h : Vals xs us) : ∀ k : Nat, Vals (List.replicate k xs).flatten (List.replicate k us).flatten
  | 0 => .nil
  | k + 1 => by
    rw [List.replicate_succ, List.replicate_succ, List.flatten_cons, List.flatten_cons]
    exact Vals.append h (Vals.rep h k)
theorem erase_last {α : Type} (l : List α) : l.eraseIdx (l.length - 1) = l.dropLast := by
  induction l with
  | nil => rfl
  | cons a r ih =>
    cases r with
    | nil => rfl
    | cons b r =>
      have e : (a :: b :: r).length - 1 = ((b :: r).length - 1) + 1 := by
        have h1 : (a :: b :: r).length = r.length + 2 := rfl
        have h2 : (b :: r).length = r.length + 1 := rfl
        omega
      rw [e, List.eraseIdx_cons_succ, ih]
      all_goals rfl
theorem len_erase {α : Type} : ∀ (l : List α) (i : Nat), (l.eraseIdx i).length ≤ l.length
  | [], _ => Nat.le_refl _
  | _ :: _, 0 => Nat.le_succ _
  | _ :: r, i + 1 => Nat.succ_le_succ (len_erase r i)
theorem foldl_rep (its : List Value) : ∀ (k : Nat) (acc : List Value),
    List.foldl (fun x1 x2 => x1 ++ x2) acc.toArray (List.replicate k its.toArray) = (acc ++ (List.replicate k its).flatten).toArray
  | 0, acc => by simp
  | k + 1, acc => by
    have e : acc.toArray ++ its.toArray = (acc ++ its).toArray := by simp
    have e2 : (acc ++ its) ++ (List.replicate k its).flatten = acc ++ (List.replicate (k + 1) its).flatten := by
      rw [List.replicate_succ, List.flatten_cons, List.append_assoc]
    rw [← e2, ← foldl_rep its k (acc ++ its), ← e, List.replicate_succ, List.foldl_cons]

section
variable {X : Cx} {pins : List (Addr × Obj)} {σ : St} {H : Hp} {s : Shared} {l b : Addr} {xs ys zs : List V}

/-! ### the two steps: a tracked list is rewritten, a new list is laid -/
theorem Inv.lset {its its' : List Value} {n : Nat} {f : Array Value → Array Value} {t' : Nat} (I : Inv X pins σ H s) (hH : H l = some (.lst xs))
    (e : s.heap.get? l = some { cls := .type "list", data := .seq its.toArray n }) (hf : f its.toArray = its'.toArray) (hv : Vals ys its') (hz : ys.length ≤ sizeLine) :
    Inv X pins σ (upd H l (.lst ys)) { s with heap := s.heap.update l (Obj.mapSeq f), toks := t' } := by
  have q := PySem.IsL.update e f
  rw [hf] at q
  refine I.write (x := l) (e := l) (by rw [hH]; exact trivial) (.inl rfl) (fun b' u hb hu => (Heap.get?_update_other s.heap (Obj.mapSeq f) (Ne.symm hb)).trans hu) ⟨_, q⟩ ?_
  exact ⟨hz, its', _, hv, q⟩
theorem Inv.lnew {its : List Value} {t' : Nat} (I : Inv X pins σ H s) (hv : Vals ys its) (hz : ys.length ≤ sizeLine) :
    Inv X pins σ (upd H s.heap.objs.size (.lst ys)) { s with heap := s.heap.push { cls := .type "list", data := .seq its.toArray }, toks := t' } :=
  I.laid (fun _ _ q => Heap.get?_push_of_some _ q) (Nat.le_refl _) ⟨hz, its, 0, hv, Heap.get?_push_size _ rfl⟩
theorem Inv.fresh (I : Inv X pins σ H s) : H s.heap.objs.size = none := I.hok.fresh (Nat.le_refl _)
theorem Inv.lstM (I : Inv X pins σ H s) (hH : H l = some (.lst xs)) : xs.length ≤ sizeLine ∧ ∃ (its : List Value) (n : Nat), Vals xs its ∧ xs.length = its.length ∧ s.heap.get? l = some { cls := .type "list", data := .seq its.toArray n } := by
  obtain ⟨z, its, n, r, e⟩ := I.hok l _ hH
  exact ⟨z, its, n, r, r.length, e⟩

theorem notLongL {n : Nat} (h : n ≤ sizeLine) : Builtin.List.listTooLong n = false := by
  unfold Builtin.List.listTooLong
  exact decide_eq_false (by omega)
end

section
variable {X : Cx}

/-! ### methods -/
def rAppend : V → List V → Hp → VK → Prop := fun x vs H Q => ∃ l xs y, x = .ref l ∧ vs = [y] ∧ H l = some (.lst xs) ∧ xs.length < sizeLine ∧ Q .non (upd H l (.lst (xs ++ [y])))
theorem mt_append : MtM X "list.append" rAppend := by
  intro pins s σ H x vs v us Q I rx rv h
  obtain ⟨l, xs, y, rfl, rfl, hH, hz, q⟩ := h
  cases rx
  obtain ⟨u, rfl, ru⟩ := rv.one
  obtain ⟨z, its, n, r, hl, e⟩ := I.lstM hH
  refine call_meets F.slot_list_append ⟨_, e, rfl⟩ F.entry_list_append (F.args_list_append_2 _ _) (PySem.list_append l its.toArray n u (by rw [List.size_toArray]; omega)) ⟨e, ?_⟩
  refine ⟨.non, _, I.lset (its' := its ++ [u]) hH e (by simp) (r.append (.cons ru .nil)) ?_, rfl, q⟩
  rw [List.length_append, List.length_singleton]
  omega

def rExtend : V → List V → Hp → VK → Prop := fun x vs H Q => ∃ l b xs zs, x = .ref l ∧ vs = [.ref b] ∧ H l = some (.lst xs) ∧ H b = some (.lst zs) ∧ xs.length + zs.length ≤ sizeLine ∧ Q .non (upd H l (.lst (xs ++ zs)))
theorem mt_extend : MtM X "list.extend" rExtend := by
  intro pins s σ H x vs v us Q I rx rv h
  obtain ⟨l, b, xs, zs, rfl, rfl, hH, hB, hz, q⟩ := h
  cases rx
  obtain ⟨u, rfl, ru⟩ := rv.one
  cases ru
  obtain ⟨z, its, n, r, hl, e⟩ := I.lstM hH
  obtain ⟨z2, its2, n2, r2, hl2, e2⟩ := I.lstM hB
  have hsz : its.toArray.size + its2.toArray.size ≤ sizeLine := by rw [List.size_toArray, List.size_toArray]; omega
  have hlong : ¬ (!its.toArray.isEmpty && Builtin.List.listTooLong (its.toArray.size + its2.toArray.size)) = true := by
    rw [notLongL hsz, Bool.and_false]
    exact Bool.false_ne_true
  refine call_meets F.slot_list_extend ⟨_, e, rfl⟩ F.entry_list_extend (F.args_list_extend_2 _ _)
    (AutoSeq1.list_extend_list_list_0 l its.toArray n b its2.toArray n2 hlong (by rw [List.size_toArray]; omega) (by omega)) ⟨e, e2, ?_⟩
  refine ⟨.non, _, I.lset (its' := its ++ its2) hH e (by simp) (r.append r2) ?_, rfl, q⟩
  rw [List.length_append]
  omega

def rPop : V → List V → Hp → VK → Prop := fun x vs H Q => ∃ l xs y, x = .ref l ∧ vs = [] ∧ H l = some (.lst xs) ∧ xs[xs.length - 1]? = some y ∧ Q y (upd H l (.lst xs.dropLast))
theorem mt_pop : MtM X "list.pop" rPop := by
  intro pins s σ H x vs v us Q I rx rv h
  obtain ⟨l, xs, y, rfl, rfl, hH, hy, q⟩ := h
  cases rx
  have hus := rv.zero
  subst hus
  obtain ⟨z, its, n, r, hl, e⟩ := I.lstM hH
  obtain ⟨u, hu, ru⟩ := r.get hy
  have hy' : its.toArray[its.toArray.size - 1]? = some u := by
    show its.toArray[its.length - 1]? = some u
    rw [← Array.getElem?_toList, ← hl]
    exact hu
  refine call_meets F.slot_list_pop ⟨_, e, rfl⟩ F.entry_list_pop (F.args_list_pop_1 _) (MeetsSeq.list_pop_last l its.toArray n u hy' (by rw [List.size_toArray]; omega)) ⟨e, ?_⟩
  refine ⟨y, _, I.lset (its' := its.dropLast) hH e ?_ r.dropLast ?_, ru, q⟩
  · show its.toArray.eraseIdxIfInBounds (its.toArray.size - 1) = its.dropLast.toArray
    rw [List.size_toArray, List.eraseIdxIfInBounds_toArray, erase_last]
  · rw [List.length_dropLast]
    omega

def rPopAt : V → List V → Hp → VK → Prop := fun x vs H Q => ∃ l xs i k y, x = .ref l ∧ vs = [.int i] ∧ H l = some (.lst xs) ∧ -(2 ^ 63) ≤ i ∧ i < 2 ^ 63 ∧ seqIndex? i xs.length = some k ∧ xs[k]? = some y ∧ Q y (upd H l (.lst (xs.eraseIdx k)))
theorem mt_popAt : MtM X "list.pop" rPopAt := by
  intro pins s σ H x vs v us Q I rx rv h
  obtain ⟨l, xs, i, k, y, rfl, rfl, hH, h1, h2, hk, hy, q⟩ := h
  cases rx
  obtain ⟨u, rfl, ru⟩ := rv.one
  obtain ⟨t, rfl⟩ := ru
  obtain ⟨z, its, n, r, hl, e⟩ := I.lstM hH
  obtain ⟨w, hw, rw'⟩ := r.get hy
  refine call_meets F.slot_list_pop ⟨_, e, rfl⟩ F.entry_list_pop (F.args_list_pop_2 _ _)
    (MeetsSeq.list_pop_at l its.toArray n i t k w (fitsIndex_both h1 h2) (by rw [List.size_toArray, ← hl]; exact hk) (by rw [← Array.getElem?_toList]; exact hw) (by rw [List.size_toArray]; omega)) ⟨e, ?_⟩
  refine ⟨y, _, I.lset (its' := its.eraseIdx k) hH e ?_ (r.eraseIdx k) ?_, rw', q⟩
  · show its.toArray.eraseIdxIfInBounds k = (its.eraseIdx k).toArray
    rw [List.eraseIdxIfInBounds_toArray]
  · have := len_erase xs k
    omega

def rReverse : V → List V → Hp → VK → Prop := fun x vs H Q => ∃ l xs, x = .ref l ∧ vs = [] ∧ H l = some (.lst xs) ∧ Q .non (upd H l (.lst xs.reverse))
theorem mt_reverse : MtM X "list.reverse" rReverse := by
  intro pins s σ H x vs v us Q I rx rv h
  obtain ⟨l, xs, rfl, rfl, hH, q⟩ := h
  cases rx
  have hus := rv.zero
  subst hus
  obtain ⟨z, its, n, r, hl, e⟩ := I.lstM hH
  refine call_meets F.slot_list_reverse ⟨_, e, rfl⟩ F.entry_list_reverse (F.args_list_reverse_1 _) (AutoSeq1.list_reverse_list_0 l its.toArray n (by rw [List.size_toArray]; omega)) ⟨e, ?_⟩
  refine ⟨.non, _, I.lset (its' := its.reverse) hH e (by simp) r.reverse ?_, rfl, q⟩
  rw [List.length_reverse]
  omega

def rClear : V → List V → Hp → VK → Prop := fun x vs H Q => ∃ l xs, x = .ref l ∧ vs = [] ∧ H l = some (.lst xs) ∧ Q .non (upd H l (.lst []))
theorem mt_clear : MtM X "list.clear" rClear := by
  intro pins s σ H x vs v us Q I rx rv h
  obtain ⟨l, xs, rfl, rfl, hH, q⟩ := h
  cases rx
  have hus := rv.zero
  subst hus
  obtain ⟨z, its, n, r, hl, e⟩ := I.lstM hH
  refine call_meets F.slot_list_clear ⟨_, e, rfl⟩ F.entry_list_clear (F.args_list_clear_1 _) (AutoSeq1.list_clear_list_0 l its.toArray n (by rw [List.size_toArray]; omega)) ⟨e, ?_⟩
  exact ⟨.non, _, I.lset (its' := []) (ys := []) hH e rfl .nil (Nat.zero_le _), rfl, q⟩

/-! ### list + list, list += list, list * int -/
def rCat : R2 := fun x y H Q => ∃ l b xs zs, x = .ref l ∧ y = .ref b ∧ H l = some (.lst xs) ∧ H b = some (.lst zs) ∧ xs.length + zs.length ≤ sizeLine ∧ ∀ p, H p = none → Q (.ref p) (upd H p (.lst (xs ++ zs)))
theorem op_cat : OpR X (binaryOp .Add) rCat := by
  intro pins s σ H x y v u Q I rx ry h
  obtain ⟨l, b, xs, zs, rfl, rfl, hH, hB, hz, q⟩ := h
  cases rx
  cases ry
  obtain ⟨z, its, n, r, hl, e⟩ := I.lstM hH
  obtain ⟨z2, its2, n2, r2, hl2, e2⟩ := I.lstM hB
  refine PySem.P.add_list e e2 ?_ (by rw [List.size_toArray, List.size_toArray]; omega)
  have ea : its.toArray ++ its2.toArray = (its ++ its2).toArray := by simp
  rw [ea]
  exact ⟨.ref _, _, I.lnew (t' := s.toks) (r.append r2) (by rw [List.length_append]; omega), rfl, q _ I.fresh⟩
/-- a list times an int (a negative one is nothing) -/
def rRep : R2 := fun x y H Q => ∃ l k xs, x = .ref l ∧ y = .int k ∧ H l = some (.lst xs) ∧ -(2 ^ 63) ≤ k ∧ k < 2 ^ 63 ∧ xs.length * k.toNat ≤ sizeLine ∧
  ∀ p, H p = none → Q (.ref p) (upd H p (.lst (List.replicate k.toNat xs).flatten))
theorem len_rep {α : Type} (xs : List α) (k : Nat) : (List.replicate k xs).flatten.length = k * xs.length := by
  induction k with
  | zero => simp
  | succ k ih => rw [List.replicate_succ, List.flatten_cons, List.length_append, ih, Nat.succ_mul, Nat.add_comm]
theorem op_rep : OpR X (binaryOp .Mult) rRep := by
  intro pins s σ H x y v u Q I rx ry h
  obtain ⟨l, k, xs, rfl, rfl, hH, h1, h2, hz, q⟩ := h
  cases rx
  obtain ⟨t, rfl⟩ := ry
  obtain ⟨z, its, n, r, hl, e⟩ := I.lstM hH
  have hlen : its.toArray.size * k.toNat ≤ sizeLine := by rw [List.size_toArray, ← hl]; exact hz
  have hcap : ¬ its.toArray.size * k.toNat > (2 ^ 63 - 1) / 8 := by
    have : (sizeLine : Nat) ≤ (2 ^ 63 - 1) / 8 := by decide
    omega
  have hfit : ¬ (!Builtin.List.listFitsIndex k) = true := by
    rw [fitsIndex_both h1 h2]
    exact Bool.false_ne_true
  have hlong : ¬ Builtin.List.listTooLong (its.toArray.size * k.toNat) = true := by
    rw [notLongL hlen]
    exact Bool.false_ne_true
  have hnew : List.foldl (fun x1 x2 => x1 ++ x2) #[] (List.replicate (if its.toArray.isEmpty = true then 0 else k.toNat) its.toArray) = (List.replicate k.toNat its).flatten.toArray := by
    have f0 : ∀ m : Nat, List.foldl (fun x1 x2 => x1 ++ x2) #[] (List.replicate m its.toArray) = (List.replicate m its).flatten.toArray := fun m => by
      have := foldl_rep its m []
      rw [List.nil_append] at this
      exact this
    rw [f0]
    cases its with
    | nil => simp
    | cons a r' => rw [if_neg (by simp)]
  refine wpAny_binaryOp_repeat_ref (T := "list") (U := "int") (by decide) ⟨_, e, rfl⟩ (fun s' => typeIs_int s' k t) noFill_list_mul F.fills_int_mul F.slot_int_rmul repeat_list F.slot_int_index.lookup
    (call_meets F.slot_int_rmul (typeIs_int s k t) F.entry_int_rmul (F.args_int_rmul_2 _ _) (int___rmul___int_list k t l its.toArray n)
      ⟨e, rfl, ⟨_, e, rfl⟩, call_meets F.slot_list_mul ⟨_, e, rfl⟩ F.entry_list_mul (F.args_list_mul_2 _ _) (AutoListH.list___mul___list_int_3 l its.toArray n k t hfit hcap hlong) ⟨e, ?_⟩⟩)
  rw [hnew]
  exact ⟨.ref _, _, I.lnew (t' := s.toks) (r.rep k.toNat) (by rw [len_rep, Nat.mul_comm]; exact hz), rfl, q _ I.fresh⟩

/-! ### del xs[i] -/
theorem del_list {pins : List (Addr × Obj)} {s : Shared} {σ : St} {H : Hp} {l : Addr} {xs : List V} {i : Int} {t : Tok} {k : Nat} {Q : Unit → Shared → Prop} (I : Inv X pins σ H s) (hH : H l = some (.lst xs))
    (h1 : -(2 ^ 63) ≤ i) (h2 : i < 2 ^ 63) (hk : seqIndex? i xs.length = some k) (h : ∀ s', Inv X pins σ (upd H l (.lst (xs.eraseIdx k))) s' → Q () s') :
    wpAny (model X.prog X.w) X.A (delItem (.ref l) (.int i t)) Q X.xe s := by
  obtain ⟨z, its, n, r, hl, e⟩ := I.lstM hH
  refine PySem.P.delItem_list (k := k) e (fitsIndex_both h1 h2) (by rw [List.size_toArray, ← hl]; exact hk) (h _ ?_) (by rw [List.size_toArray]; omega)
  refine I.lset (its' := its.eraseIdx k) (t' := s.toks) hH e ?_ (r.eraseIdx k) ?_
  · show its.toArray.eraseIdxIfInBounds k = (its.eraseIdx k).toArray
    rw [List.eraseIdxIfInBounds_toArray]
  · have := len_erase xs k
    omega
end

/-! ### xs[a:b] = ys -/
section
variable {prog : Program} {w : World} {A : Around} {E : Value → Shared → Prop} {s : Shared}
theorem splice_eq (its its2 : List Value) (a c : Nat) : its.toArray.extract 0 a ++ its2.toArray ++ its.toArray.extract c its.toArray.size = (its.take a ++ its2 ++ its.drop c).toArray := by
  apply Array.toList_inj.mp
  first
    | (simp
       exact List.take_of_length_le (by simp))
    | simp [List.take_of_length_le]
    | simp
theorem bounds_run {a c n : Nat} (hac : a ≤ c) (hc : c ≤ n) : sliceBounds (some (a : Int)) (some (c : Int)) none n = ((a : Int), (c : Int), 1) := by
  simp only [sliceBounds, Option.getD_none]
  have h1 : ¬ ((a : Int) < 0) := by omega
  have h2 : ¬ ((c : Int) < 0) := by omega
  simp only [h1, h2, if_false, show (1 : Int) > 0 by decide, if_true]
  congr 1
  · omega
  · congr 1; omega
set_option maxRecDepth 100000 in
/-- list.__setitem__ with a slice of step one and another list -/
theorem setItem_slice {l b sl : Addr} {items new : Array Value} {n n2 : Nat} {vl vu : Value} {a c : Nat} {Q : Unit → Shared → Prop}
    (e : s.heap.get? l = some { cls := .type "list", data := .seq items n }) (e2 : s.heap.get? b = some { cls := .type "list", data := .seq new n2 }) (hne : l ≠ b)
    (hs : s.heap.IsSliceOf sl vl vu .none) (pl : IsPart vl (some (a : Int))) (pu : IsPart vu (some (c : Int))) (hac : a ≤ c) (hc : c ≤ items.size)
    (hsz : items.size + new.size ≤ sizeLine) (h : Q () { s with heap := s.heap.update l (Obj.mapSeq fun xs => xs.extract 0 a ++ new ++ xs.extract c xs.size) }) :
    wpAny (model prog w) A (setItem (.ref l) (.ref sl) (.ref b)) Q E s := by
  have hl : s.heap.IsList l items := PySem.IsL.isList e
  have hb : s.heap.IsList b new := PySem.IsL.isList e2
  obtain ⟨os, hos, hcs, hds⟩ := id hs
  have hTs : s.TypeIs (.ref sl) "slice" := ⟨os, hos, hcs⟩
  have hstep : ¬ ((rawPart none == rawInt 0) = true) := Bool.false_ne_true
  have hsame : Builtin.List.listSameRef (.ref l) (.ref b) = false := by
    unfold Builtin.List.listSameRef
    exact beq_eq_false_iff_ne.mpr hne
  have hmax : (max (a : Int) (c : Int)).toNat = c := by omega
  have hz' : ((fun xs : Array Value => xs.extract 0 a ++ new ++ xs.extract c xs.size) items).size ≤ sizeLine + 1 := by
    simp only [Array.size_append, Array.size_extract]
    omega
  unfold setItem
  try with_reducible refine wpAny_holding ?_
  first | refine wpAny_bind (wpAny_pure ?_) | skip
  refine wpAny_bind (wpAny_sequenceKey hl.typeIs (by decide) ?_)
  refine wpAny_bind (wpAny_callSpecial?_slot (name := Str.ofString "__setitem__") hl.typeIs slot_list_setitem
    (wpAny_call_entry slot_list_setitem hl.typeIs entry_list_setitem ?_ (args_list_setitem _ _ _)))
  show wpAny _ _ (Builtin.List.listSubscript? (.ref sl) >>= _) _ _ s
  refine wpAny_bind ?_
  unfold Builtin.List.listSubscript?
  refine wpAny_bind (wpAny_specialOf hTs slice_no_index ?_)
  simp only [Option.isNone_none, if_true]
  refine wpAny_pure ?_
  show wpAny _ _ (typeOf (.ref sl) >>= _) _ _ s
  refine wpAny_bind (wpAny_typeOf hTs ?_)
  first
    | rw [if_neg (by decide)]
    | refine PySem.W.KFB.if_not (by decide) ?_
  rw [listSliceParts_eq]
  refine wpAny_bind (wpAny_bind (wpAny_field hos hds (x := .none) rfl (wpAny_bind (wpAny_listPart .none ?_))))
  rw [if_neg hstep]
  refine wpAny_bind (wpAny_field hos hds (x := vl) rfl (wpAny_bind (wpAny_listPart pl ?_)))
  refine wpAny_bind (wpAny_field hos hds (x := vu) rfl (wpAny_bind (wpAny_listPart pu (wpAny_pure ?_))))
  first
    | simp only [hsame, Bool.false_eq_true, if_false]
    | refine PySem.W.KFB.if_not hsame ?_
    | (dsimp only
       rw [if_neg (by rw [hsame]; exact Bool.false_ne_true)])
  refine wpAny_bind (m := Builtin.List.listAllItems (.ref b) "must assign iterable to extended slice") ?_
  unfold Builtin.List.listAllItems
  refine wpAny_bind (wpAny_typeOf hb.typeIs ?_)
  first
    | refine PySem.W.KFB.if_so (by decide) ?_
    | rw [if_pos (by decide)]
    | simp only [beq_self_eq_true, Bool.true_or, if_true]
  unfold Builtin.List.listItems
  refine wpAny_bind (wpAny_seqItems e2 rfl (wpAny_pure ?_))
  refine wpAny_bind (wpAny_bind (wpAny_seqItems e rfl (wpAny_pure ?_)))
  refine wpAny_bind (wpAny_of_eq ((sliceIndices_raw (some (a : Int)) (some (c : Int)) none items.size (by simp)).trans (congrArg (pure : Int × Int × Int → Sem (Int × Int × Int)) (bounds_run hac hc))) ?_)
  show wpAny _ _ (if ((1 : Int) == 1) = true then _ else _) _ _ s
  rw [if_pos (by decide)]
  refine wpAny_bind (wpAny_rule ?_)
  first
    | simp only [notLongL hsz, Bool.false_eq_true, if_false]
    | refine PySem.W.KFB.if_not (notLongL hsz) ?_
  first | refine wpAny_bind (wpAny_pure ?_) | skip
  show wpAny _ _ (updateSeq l (fun xs => xs.extract 0 ((a : Int)).toNat ++ new ++ xs.extract (max (a : Int) (c : Int)).toNat xs.size) >>= _) _ _ s
  rw [hmax, Int.toNat_natCast]
  refine wpAny_bind (wpAny_updateSeq (hz := Nat.le_trans (Nat.le_add_right _ _) hsz) (_hz' := hz') e rfl ?_)
  refine wpAny_bind (wpAny_letGo ?_)
  first
    | exact wpAny_bind (wpAny_pure (wpAny_pure ⟨.none, rfl, wpAny_pure h⟩))
    | exact wpAny_pure ⟨.none, rfl, wpAny_pure h⟩
end

section
variable {X : Cx}
/-- xs[a:c] = ys of another list, at the value level: sl is the slice object that was just made -/
theorem set_slice {pins : List (Addr × Obj)} {s : Shared} {σ : St} {H : Hp} {l b sl : Addr} {xs ys : List V} {a c : Int} {vl vu : Value} {Q : Unit → Shared → Prop} (I : Inv X pins σ H s)
    (hH : H l = some (.lst xs)) (hB : H b = some (.lst ys)) (hne : l ≠ b) (hs : s.heap.IsSliceOf sl vl vu .none) (ra : RelV (.int a) vl) (rc : RelV (.int c) vu) (h0 : 0 ≤ a) (hac : a ≤ c) (hc : c ≤ xs.length)
    (hz : xs.length + ys.length ≤ sizeLine) (h : ∀ s', Inv X pins σ (upd H l (.lst (xs.take a.toNat ++ ys ++ xs.drop c.toNat))) s' → Q () s') :
    wpAny (model X.prog X.w) X.A (setItem (.ref l) (.ref sl) (.ref b)) Q X.xe s := by
  obtain ⟨ta, rfl⟩ := ra
  obtain ⟨tc, rfl⟩ := rc
  obtain ⟨z, its, n, r, hl, e⟩ := I.lstM hH
  obtain ⟨z2, its2, n2, r2, hl2, e2⟩ := I.lstM hB
  obtain ⟨a', rfl⟩ := Int.eq_ofNat_of_zero_le h0
  obtain ⟨c', rfl⟩ := Int.eq_ofNat_of_zero_le (Int.le_trans h0 hac)
  simp only [Int.toNat_natCast] at h
  refine setItem_slice (a := a') (c := c') e e2 hne hs (.int _ _) (.int _ _) (by omega) (by rw [List.size_toArray]; omega) (by rw [List.size_toArray, List.size_toArray]; omega) (h _ ?_)
  refine I.lset (its' := its.take a' ++ its2 ++ its.drop c') (t' := s.toks) hH e ?_ (Vals.append (Vals.append (r.take _) r2) (r.drop _)) ?_
  · exact splice_eq its its2 a' c'
  · rw [List.length_append, List.length_append, List.length_take, List.length_drop]
    omega
end
end L2

namespace Att
open PySem PySem.W PySem.Calls PyProof.Rows

/-! ### the script -/
theorem ints_of_wellAll {P : Params} {h : Heap} : ∀ (ns : List Int) (vs : List Value), WellAll P h vs (ns.map WData.int) → IntsAre vs ns := by
  intro ns
  induction ns with
  | nil =>
    intro vs w
    rw [List.map_nil] at w
    cases w
    exact .nil
  | cons n ns ih =>
    intro vs w
    rw [List.map_cons] at w
    cases w with
    | cons a b =>
      cases a
      exact .cons _ _ (ih _ b)

theorem script_of {l : OpenLaw} {n : Nat} (hn : l.most = some n) {P : Params} {h : Heap} {args : List WData} {vals : List Value}
    (hpre : l.row.toRowW.claim.pre args = true) (hwl : WellAll P h vals args) :
    ∃ a vs ns, vals = [Value.ref a] ∧ args = [WData.list (ns.map WData.int)] ∧ h.get? a = some { cls := .type "list", data := .seq vs.toArray } ∧ IntsAre vs ns ∧ ns.length ≤ n := by
  have hsh : WShape.hasAll [] args [.list .int] = true := (pre_splitW hpre).1
  have hc : l.pre.holds [] { args := args } = true := (pre_splitW hpre).2
  obtain ⟨d, r, rfl, h1, h2⟩ := hasAllW_cons hsh
  obtain rfl := hasAllW_nil h2
  obtain ⟨xs, rfl, h3⟩ := hasW_list h1
  obtain ⟨ns, rfl⟩ := items_int h3
  have hlen : ns.length ≤ n := by
    unfold OpenLaw.pre at hc
    have h4 : (WTm.not (.lt (.lit (.int (n : Int))) (.len (.arg 0)))).holds [] { args := [.list (ns.map .int)] } = true := by
      have h4 := (holds_andW hc).1
      rw [hn] at h4
      exact h4
    have h5 := condW_of h4 (w_not (w_lt w_lit (w_len_list (w_arg rfl))))
    rw [List.length_map] at h5
    refine Nat.le_of_not_lt fun q => ?_
    have q' : (n : Int) < ((ns.length : Nat) : Int) := by omega
    first
      | (rw [decide_eq_true q'] at h5; exact absurd h5 (by decide))
      | (simp at h5; omega)
  cases hwl with
  | cons w1 w2 =>
    cases w2
    cases w1 with
    | list ho hall => exact ⟨_, _, ns, rfl, rfl, ho, ints_of_wellAll ns _ hall, hlen⟩

theorem post_true (l : OpenLaw) (args : List WData) : l.row.toRowW.claim.post args (.bool true) args = true :=
  postW_of (r := l.row.toRowW) (X := (true == true))
    (show WShape.has [] (.bool true) .bool = true by first | rfl | decide | simp [WShape.has, WShape.arms, WShape.armsAll])
    (show (WTm.eq .res (.lit (.bool true))).value [] { args := args, res := some (.bool true), after := args } = some (.bool (true == true)) from w_eq_bool (w_res rfl) w_lit) rfl

/-! ### the attachment: holds_open's last premise (the goal 'hc' behind k_head) from a wpAny of the law's body -/
theorem attach {l : OpenLaw} {n : Nat} {q : Program} {loose : List Str} {XP : (Str → Option Value) → Heap → Prop} {YP : World → Heap → Prop} {d : DefRec} {x : Str}
    (hn : l.most = some n) (hdf : d.params.defaults = [])
    (hbind : ∀ pm cd doc v : Value, bindArgs (docDef d.name d.params d.body d.scope pm cd doc) ⟨[v], []⟩ = pure [(x, v)])
    (hx : d.scope.names.lookup x = some .local ∨ d.scope.names.lookup x = some .cell)
    (hk : d.scope.kind = .function) (hco : d.scope.isCoroutine = false) (hgen : d.scope.isGenerator = false)
    (body : ∀ (w : World) (s₀ s₁ s : Shared) (mg mb : Str → Option Value) (fa : Addr) (o : Obj) (pm cd doc : Value) (a : Addr) (vs : List Value) (ns : List Int),
      Ground q loose [] XP w s₀ mg mb s₁.heap → YP w s₁.heap →
      s₁.heap.get? fa = some o → o.data = .func (docDef d.name d.params d.body d.scope pm cd doc) → s₁.heap.CodeRec cd d.name → mg d.name = some (.ref fa) →
      s₁.heap.get? a = some { cls := .type "list", data := .seq vs.toArray } → IntsAre vs ns → ns.length ≤ n →
      s.gens = #[] → s.os = s₁.os →
      Fr s₁.heap s₁.heap.objs.size s.heap (bindL (envOfC d.name d.scope s₁.heap.objs.size fa cd).kindOf [(x, .ref a)] fun _ => none) →
      Cl s₁.heap.objs.size (cellsFrom (s₁.heap.objs.size + 1) d.scope.names []) s.heap (bindC (envOfC d.name d.scope s₁.heap.objs.size fa cd).kindOf [(x, .ref a)] fun _ => none) →
      wpAny (model l.prog w) (callerA.deeper (envOfC d.name d.scope s₁.heap.objs.size fa cd)) (execs d.body (envOfC d.name d.scope s₁.heap.objs.size fa cd))
        (fun f s' => f = .ret (.bool true) ∧ OldK s₁.heap s'.heap ∧ s'.os = s₁.os ∧ AllBare s'.gens) (fun _ _ => False) s) :
    WalkO q loose XP YP l.row.toRowW d [] (fun f vs => PySem.call f vs) := by
  intro w s₀ s₁ mg mb G Y fa o pm cd doc dV kV ho hd hcd hD hmg hg args vals as hpre hlay hrd hwl hlo
  obtain rfl : dV = .none := Dflts.none hD hdf
  obtain rfl : kV = .none := Dflts.noKw hD
  obtain ⟨a, vs, ns, rfl, rfl, hobj, hints, hlen⟩ := script_of hn hpre hwl
  refine enter_call ?_
  refine call_cells_ret (o := o) (by rw [depth_caller]; decide) ho (fd_plain hd) G.T.nolimit hcd (hbind pm cd doc (.ref a)) (fun y hy => ?_) (fun h₁ tk F X => ?_) hco hgen hk
  · obtain rfl : y = (x, Value.ref a) := List.mem_singleton.mp hy
    rcases hx with e | e
    · exact .inl e
    · exact .inr ⟨e, cellsFrom_some _ _ _ (.inl e)⟩
  · refine wpAny_mono (body w s₀ s₁ { s₁ with heap := h₁, toks := tk } mg mb fa o pm cd doc a vs ns G Y ho (fd_plain hd) hcd hmg hobj hints hlen hg rfl F X) (fun f s' hq => ?_) (fun _ _ hq => hq)
    obtain ⟨rfl, h2, h3, h4⟩ := hq
    exact ⟨.inl ⟨.bool true, .bool true, [], rfl, fun _ => rfl, .bool true, post_true l _, fun _ => ⟨List.Pairwise.nil, fun _ hm => (nomatch hm)⟩⟩, h2, h3, h4⟩

/-- the same from a codeAny of the CALL (for a layer whose function contracts speak of calls) -/
theorem attach_call {l : OpenLaw} {n : Nat} {q : Program} {loose : List Str} {XP : (Str → Option Value) → Heap → Prop} {YP : World → Heap → Prop} {d : DefRec}
    (hn : l.most = some n) (hdf : d.params.defaults = [])
    (call : ∀ (w : World) (s₀ s₁ : Shared) (mg mb : Str → Option Value) (fa : Addr) (o : Obj) (pm cd doc : Value) (a : Addr) (vs : List Value) (ns : List Int),
      Ground q loose [] XP w s₀ mg mb s₁.heap → YP w s₁.heap →
      s₁.heap.get? fa = some o → o.data = .func (docDef d.name d.params d.body d.scope pm cd doc) → s₁.heap.CodeRec cd d.name → mg d.name = some (.ref fa) →
      s₁.heap.get? a = some { cls := .type "list", data := .seq vs.toArray } → IntsAre vs ns → ns.length ≤ n → s₁.gens = #[] →
      codeAny (model l.prog w) callerA (.call (.ref fa) ⟨[.ref a], []⟩) (fun r s' => r = .ok (.ret (.bool true)) ∧ OldK s₁.heap s'.heap ∧ s'.os = s₁.os ∧ AllBare s'.gens) s₁) :
    WalkO q loose XP YP l.row.toRowW d [] (fun f vs => PySem.call f vs) := by
  intro w s₀ s₁ mg mb G Y fa o pm cd doc dV kV ho hd hcd hD hmg hg args vals as hpre hlay hrd hwl hlo
  obtain rfl : dV = .none := Dflts.none hD hdf
  obtain rfl : kV = .none := Dflts.noKw hD
  obtain ⟨a, vs, ns, rfl, rfl, hobj, hints, hlen⟩ := script_of hn hpre hwl
  refine enter_call (codeAny_mono (call w s₀ s₁ mg mb fa o pm cd doc a vs ns G Y ho (fd_plain hd) hcd hmg hobj hints hlen hg) fun r s' hq => ?_)
  obtain ⟨rfl, h2, h3, h4⟩ := hq
  exact ⟨.inl ⟨.bool true, .bool true, [], rfl, fun _ => rfl, .bool true, post_true l _, fun _ => ⟨List.Pairwise.nil, fun _ hm => (nomatch hm)⟩⟩, h2, h3, h4⟩

/-- the same where the top left finished generators (o_head chose holds_openN): nothing may have changed at all and no generator may be left -/
theorem attachN {l : OpenLaw} {n : Nat} {q : Program} {loose : List Str} {XP : (Str → Option Value) → Heap → Prop} {YP : World → Heap → Prop} {d : DefRec} {x : Str}
    (hn : l.most = some n) (hdf : d.params.defaults = [])
    (hbind : ∀ pm cd doc v : Value, bindArgs (docDef d.name d.params d.body d.scope pm cd doc) ⟨[v], []⟩ = pure [(x, v)])
    (hx : d.scope.names.lookup x = some .local ∨ d.scope.names.lookup x = some .cell)
    (hk : d.scope.kind = .function) (hco : d.scope.isCoroutine = false) (hgen : d.scope.isGenerator = false)
    (body : ∀ (w : World) (s₀ s₁ s : Shared) (mg mb : Str → Option Value) (fa : Addr) (o : Obj) (pm cd doc : Value) (a : Addr) (vs : List Value) (ns : List Int),
      Ground q loose [] XP w s₀ mg mb s₁.heap → YP w s₁.heap →
      s₁.heap.get? fa = some o → o.data = .func (docDef d.name d.params d.body d.scope pm cd doc) → s₁.heap.CodeRec cd d.name → mg d.name = some (.ref fa) →
      s₁.heap.get? a = some { cls := .type "list", data := .seq vs.toArray } → IntsAre vs ns → ns.length ≤ n →
      s.gens = #[] → s.os = s₁.os →
      Fr s₁.heap s₁.heap.objs.size s.heap (bindL (envOfC d.name d.scope s₁.heap.objs.size fa cd).kindOf [(x, .ref a)] fun _ => none) →
      Cl s₁.heap.objs.size (cellsFrom (s₁.heap.objs.size + 1) d.scope.names []) s.heap (bindC (envOfC d.name d.scope s₁.heap.objs.size fa cd).kindOf [(x, .ref a)] fun _ => none) →
      wpAny (model l.prog w) (callerA.deeper (envOfC d.name d.scope s₁.heap.objs.size fa cd)) (execs d.body (envOfC d.name d.scope s₁.heap.objs.size fa cd))
        (fun f s' => f = .ret (.bool true) ∧ (∀ b o, s₁.heap.get? b = some o → s'.heap.get? b = some o) ∧ s'.os = s₁.os ∧ s'.gens = #[]) (fun _ _ => False) s) :
    WalkN q loose XP YP l.row.toRowW d [] (fun f vs => PySem.call f vs) := by
  intro w s₀ s₁ mg mb G Y fa o pm cd doc dV kV ho hd hcd hD hmg hg args vals as hpre hlay hrd hwl hlo
  obtain rfl : dV = .none := Dflts.none hD hdf
  obtain rfl : kV = .none := Dflts.noKw hD
  obtain ⟨a, vs, ns, rfl, rfl, hobj, hints, hlen⟩ := script_of hn hpre hwl
  refine enter_callW ?_
  refine call_cells_ret (o := o) (by rw [depth_caller]; decide) ho (fd_plain hd) G.T.nolimit hcd (hbind pm cd doc (.ref a)) (fun y hy => ?_) (fun h₁ tk F X => ?_) hco hgen hk
  · obtain rfl : y = (x, Value.ref a) := List.mem_singleton.mp hy
    rcases hx with e | e
    · exact .inl e
    · exact .inr ⟨e, cellsFrom_some _ _ _ (.inl e)⟩
  · refine wpAny_mono (body w s₀ s₁ { s₁ with heap := h₁, toks := tk } mg mb fa o pm cd doc a vs ns G Y ho (fd_plain hd) hcd hmg hobj hints hlen hg rfl F X) (fun f s' hq => ?_) (fun _ _ hq => hq)
    obtain ⟨rfl, h2, h3, h4⟩ := hq
    exact ⟨.inl ⟨.bool true, .bool true, [], rfl, fun _ => rfl, .bool true, post_true l _, fun _ => ⟨List.Pairwise.nil, fun _ hm => (nomatch hm)⟩⟩, h2, h3, h4⟩

/-! ### rules over ANY heap (no ledger) from facts about the written part K: the library's own take a ledger (News) for what they write -/
section
variable {prog : Program} {w : World} {A : Around} {E : Value → Shared → Prop} {s : Shared} {K : Frag}

/-- a def of the module, or a method (qual 'C.m'), entered: the frame is the next address; cells behind it -/
theorem call_fn {R : Result → Shared → Prop} {name qual : Str} {params : Arguments} {body : List Stmt} {scope : Scope} {dV kV doc pm cdv ct oc : Value} {an od : Option Addr} {osl : Array (Option Value)} {f : Addr} {args : Args} {binds : List (Str × Value)}
    (X : K.In s.heap) (hlim : s.heap.NoLimit) (ho : K.lookup f = some ⟨oc, od, .func (fnOf name qual params body scope dV kV doc pm an cdv ct), osl⟩) (hcd : codeIn K cdv qual = true) (hroom : A.depth < recursionLimit)
    (hbind : BindsTo s (fnOf name qual params body scope dV kV doc pm an cdv ct) args binds)
    (hkind : (binds.all fun y => scope.names.lookup y.1 == some .local || scope.names.lookup y.1 == some .cell) = true)
    (h : ∀ s₁, InCallC s s.heap.objs.size (bindL (envOfC qual scope s.heap.objs.size f cdv).kindOf binds fun _ => none) (cellsFrom (s.heap.objs.size + 1) scope.names [])
        (bindC (envOfC qual scope s.heap.objs.size f cdv).kindOf binds fun _ => none) s₁ →
      wpAny (model prog w) (A.deeper (envOfC qual scope s.heap.objs.size f cdv)) (execs body (envOfC qual scope s.heap.objs.size f cdv))
        (fun fl s' => R (.ok (.ret (match fl with | .ret v => v | _ => .none))) s')
        (fun e s' => wpAny (model prog w) (A.deeper (envOfC qual scope s.heap.objs.size f cdv)) (leaving (envOfC qual scope s.heap.objs.size f cdv) e) (fun _ s'' => R (.error e) s'') (fun e' s'' => R (.error e') s'') s') s₁)
    (hco : scope.isCoroutine = false) (hgen : scope.isGenerator = false) (hk : scope.kind = .function) : codeAny (model prog w) A (.call (.ref f) args) R s := by
  refine codeAny_call_function hroom (X _ _ ho) rfl hco hgen rfl (codeRec_of X hcd) (hbind _ _ _ _ ?_)
  refine wpAny_newFunctionEnv_cells hk (kindsX hkind _) fun env he s₁ x => ?_
  subst he
  exact ⟨hlim.keeps x.toInCall.keep, codeAny_func (h s₁ x)⟩

/-- C(..): dict at size, instance at size + 1, then __init__ -/
theorem make_obj {R : Result → Shared → Prop} {C fI : Addr} {rest : List Value} {kw : List (Str × Value)}
    (X : K.In s.heap) (hm : makesIn K C = true) (hi : findIn K (.ref C) "__init__" = some (some (.ref fI))) (hf : isFn K (.ref fI) = true)
    (h : codeAny (model prog w) (A.under (.builtin "type.__call__" ⟨.ref C :: rest, kw⟩)) (.call (.ref fI) ⟨.ref (s.heap.objs.size + 1) :: rest, kw⟩) (InitBack (s.heap.objs.size + 1) R)
      { s with heap := (s.heap.push emptyDict).push (instObj C s.heap.objs.size) }) : codeAny (model prog w) A (.call (.ref C) ⟨rest, kw⟩) R s := by
  obtain ⟨hh, g, d, t, os⟩ := s
  exact make_core (makes_of X hm) (looks_findIn X hi) (fun self => bind_fn X self (beq_iff_eq.mp hf)) (.inl rfl) h

/-- x.name where the instance's dict holds the name and the class does not -/
theorem get_field {x C : Addr} {ox : Obj} {es : List DictEntry} {n : Nat} {name : Str} {expr : Bool} {v : Value} {Q : Value → Shared → Prop}
    (X : K.In s.heap) (I : PySem.W.InstAt s.heap x ox C (some (dictOf es n))) (hg : plainGet K C name = true) (hh : hasDictIn K C = true) (ha : findIn K (.ref C) name = some none)
    (hl : getL name es = some (some v)) (hv : handedIn v = true) (h : Q v { s with toks := s.toks + 1 }) : wpAny (model prog w) A (getAttr (.ref x) name expr) Q E s :=
  get_value X I (plainGet_of hg).1 (findObj_own hh ha rfl hl) hv h

/-- x.m(..): the method found in the class -/
theorem get_method {x C f : Addr} {ox : Obj} {es : List DictEntry} {n : Nat} {name : Str} {pl : Sem Bool} {Q : Value × List Value → Shared → Prop}
    (X : K.In s.heap) (I : PySem.W.InstAt s.heap x ox C (some (dictOf es n))) (hg : plainGet K C name = true) (hf : findIn K (.ref C) name = some (some (.ref f))) (ht : isFn K (.ref f) = true)
    (hl : getL name es = some none) (h : Q (.ref f, [.ref x]) s) : wpAny (model prog w) A (getMethod (.ref x) name pl) Q E s :=
  method_fn X I (plainGet_of hg).1 (plainGet_of hg).2 hf (beq_iff_eq.mp ht) (by show (lookIn name (dictOf es n)).map _ = _; rw [lookIn_dict, hl]; rfl) h

/-! the whole heap as the ledger: makes every rule that writes through a ledger a rule over any heap -/
def noObjs (h : Heap) : Heap := { h with objs := #[] }
theorem noObjs_get (h : Heap) (b : Addr) : (noObjs h).get? b = none := by
  cases e : (noObjs h).get? b with
  | none => rfl
  | some o => exact absurd (Heap.lt_size e) (Nat.not_lt_zero _)
def ledger (h : Heap) (L d : Addr) : List (Addr × Obj) := (List.range h.objs.size).filterMap fun a => if a = L ∨ a = d then none else (h.get? a).map fun o => (a, o)
theorem mem_ledger {h : Heap} {L d a : Addr} {o : Obj} : (a, o) ∈ ledger h L d ↔ a ≠ L ∧ a ≠ d ∧ h.get? a = some o := by
  unfold ledger
  rw [List.mem_filterMap]
  constructor
  · rintro ⟨b, _, e⟩
    split at e
    · cases e
    · rename_i hb
      obtain ⟨o', ho, e'⟩ := Option.map_eq_some_iff.mp e
      cases e'
      exact ⟨fun q => hb (.inl q), fun q => hb (.inr q), ho⟩
  · rintro ⟨n1, n2, ho⟩
    refine ⟨a, List.mem_range.mpr (Heap.lt_size ho), ?_⟩
    rw [if_neg (show ¬ (a = L ∨ a = d) from fun q => q.elim n1 n2), ho] <;> rfl
theorem news_ledger {h : Heap} {L d : Addr} {od : Obj} (hne : d ≠ L) (ho : h.get? d = some od) : News (noObjs h) L h ([] ++ (d, od) :: ledger h L d) := by
  rintro ⟨a, o⟩ hp
  rcases List.mem_cons.mp hp with e | hp
  · cases e
    exact ⟨ho, hne, noObjs_get _ _⟩
  · obtain ⟨n1, n2, e⟩ := mem_ledger.mp hp
    exact ⟨e, n1, noObjs_get _ _⟩
theorem fr_all {h : Heap} {L : Addr} {m : Str → Option Value} (n : h.Ns L m) : Fr (noObjs h) L h m :=
  ⟨n, fun b o e => (by rw [noObjs_get] at e; cases e), Nat.zero_le _⟩
/-- Upd of the head entry (for append_K, setItem_K ..) -/
theorem upd_ledger {h : Heap} {L d : Addr} {o o' : Obj} : Upd d o o' ((d, o) :: ledger h L d) ((d, o') :: ledger h L d) :=
  .head fun ⟨_, _⟩ hp => (mem_ledger.mp hp).2.1

/-- x.name = v over any heap: L is any namespace of the heap (the frame's, say): its map stays, its object is not told; all else but the dict stays -/
theorem set_field {x C dx L : Addr} {ox : Obj} {m : Str → Option Value} {es es' : List DictEntry} {n n' : Nat} {name : Str} {v : Value} {Q : Unit → Shared → Prop}
    (X : K.In s.heap) (I : PySem.W.InstAt s.heap x ox C (some (dictOf es n))) (hd : ox.dict = some dx) (hL : s.heap.Ns L m) (hne : dx ≠ L)
    (hs : findIn K (.ref C) "__setattr__" = some (some (.builtin "object.__setattr__"))) (hp : plainOver K C = true) (ht : takerIn K C name = some none) (hh : hasDictIn K C = true) (hl : (getL name es).isSome = true)
    (e : (putL name (PyData.keyHash w.params name) (.str name (s.toks + 1)) v es, putN name es n) = (es', n')) (hz : es'.length ≤ 1000)
    (h : ∀ h' : Heap, h'.Ns L m → h'.get? dx = some (dictOf es' n') → (∀ b o, b ≠ dx → b ≠ L → s.heap.get? b = some o → h'.get? b = some o) → Q () { s with heap := h', toks := s.toks + 2 }) :
    wpAny (model prog w) A (setAttr (.ref x) name v) Q E s := by
  obtain ⟨e1, e2⟩ := Prod.mk.inj e
  have hdx : s.heap.get? dx = some (dictOf es n) := by
    have := I.dict
    rw [hd] at this
    exact this
  refine set_plain X I hs (osa_dict (s := { s with toks := s.toks + 1 }) (h₀ := noObjs s.heap) (L := L) (m := m) (od := dictOf es n) (od' := dictOf es' n') (es := es') (n := n') (pre := []) (post := ledger s.heap L dx)
    (fr_all hL) (news_ledger hne hdx) X I hd hp ht hh hl (fun _ q => nomatch q) (fun ⟨_, _⟩ q => (mem_ledger.mp q).2.1) (by rw [putName_dict, e1, e2]) rfl hz fun h' F' N' => ?_)
  exact h h' F'.ns (N'.get (List.Mem.head _)) fun b o n1 n2 ho => N'.get (List.Mem.tail _ (mem_ledger.mpr ⟨n2, n1, ho⟩))
end
end Att

namespace L2
open PySem PySem.Spec PyProof.Rows

theorem vals_ints : ∀ {vs : List Value} {ns : List Int}, IntsAre vs ns → Vals (ns.map V.int) vs
  | _, _, .nil => .nil
  | _, _, .cons n t h => .cons ⟨t, rfl⟩ (vals_ints h)

/-- nothing is tracked but the script, known to the object (or it is an object of the module) -/
def Only (H : Hp) : Prop := ∀ b, H b = none ∨ ∃ o xs, H b = some (.frz o (.lst xs))

/-- THE HEAD: the law's promise, at the heap behind the top. F, the promise of the law's def, may use that base is part of the heap (so K.In base, base.Ns mainGlobals mg stand in Mod) -/
theorem law_call {P : Program} {w : World} {K : PySem.W.Frag} {mg mb : Str → Option Value} {CX : CXT} {k : Nat} {fa a : Addr} {fd : FuncData} {x : Str} {sp : Sp} {s₁ : Shared} {vs : List Value} {ns : List Int}
    (KX : K.In s₁.heap) (hns : s₁.heap.Ns mainGlobals mg) (hb : s₁.heap.Ns builtinsNs mb) (hbb : ∀ x : Str, x ≠ "__name__" → mb x = bootBuiltins x) (hlim : s₁.heap.NoLimit) (hg : s₁.gens = #[])
    (ha : s₁.heap.get? a = some { cls := .type "list", data := .seq vs.toArray }) (hi : IntsAre vs ns) (hl : ns.length ≤ sizeLine) (hr : Room k callerA)
    (F : ∀ base : Heap, K.In base → base.Ns mainGlobals mg → FnOk P w K mg base CX k fa fd [x] sp) (hbind : ∀ (s : Shared) (u : Value), BindsTo s fd ⟨[u], []⟩ [(x, u)])
    (hsp : ∀ H : Hp, Only H → SqL K H a (ns.map V.int) → sp [.ref a] H (fun v _ => v = .bl true) fun _ _ _ => False)
    (hCX : ∀ H e s', CX [] H s₁ (fun _ _ _ => False) e s' → False) :
    codeAny (model P w) callerA (.call (.ref fa) ⟨[.ref a], []⟩) (fun r s' => r = .ok (.ret (.bool true)) ∧ OldK s₁.heap s'.heap ∧ s'.os = s₁.os ∧ AllBare s'.gens) s₁ := by
  have rv := vals_ints hi
  have lenV := hi.length
  -- from an abstract heap in which nothing but the script may be tracked
  have core : ∀ H : Hp, Only H → SqL K H a (ns.map V.int) → HOk P w H s₁.heap → (∀ b, H b ≠ none → b = a) → (H a ≠ none → K.lookup a = none) →
      codeAny (model P w) callerA (.call (.ref fa) ⟨[.ref a], []⟩) (fun r s' => r = .ok (.ret (.bool true)) ∧ OldK s₁.heap s'.heap ∧ s'.os = s₁.os ∧ AllBare s'.gens) s₁ := by
    intro H hO hS hok hA hK
    have base_of : ∀ {b : Addr} {o : Obj}, s₁.heap.get? b = some o → H b = none → (hidT s₁.heap H).get? b = some o := fun e n => hidT_get e n
    have noA : ∀ {b : Addr} {o : Obj} {es : Array DictEntry} {ep : Nat}, s₁.heap.get? b = some o → o.data = .dict es ep → H b = none := fun {b o es ep} e d => by
      cases q : H b with
      | none => rfl
      | some u =>
        have e' : b = a := hA b (by rw [q]; simp)
        subst e'
        rw [ha] at e; cases e
        have d' : Data.seq vs.toArray _ = Data.dict es ep := d
        cases d'
    have nsK : ∀ {b : Addr} {m : Str → Option Value}, s₁.heap.Ns b m → (hidT s₁.heap H).Ns b m := fun {b m} ⟨o, es, ep, e, d, r⟩ => ⟨o, es, ep, base_of e (noA e d), d, r⟩
    have hKb : K.In (hidT s₁.heap H) := fun b o e => base_of (KX b o e) (by
      cases q : H b with
      | none => rfl
      | some u =>
        have e' : b = a := hA b (by rw [q]; simp)
        subst e'
        rw [hK (by rw [q]; simp)] at e; cases e)
    have hM : Mod K mg (hidT s₁.heap H) := ⟨hKb, nsK hns, ⟨mb, nsK hb, hbb⟩, let ⟨mc, h1, h2⟩ := hlim; ⟨mc, nsK h1, h2⟩⟩
    have e0 : Env0 P w K mg (hidT s₁.heap H) callerA [] s₁ H := ⟨rfl, hM, fun b o e => of_hidT e, Nat.le_of_eq (hidT_size _ _), trivial, fun b hb => absurd (show b ∈ ([] : List Addr) from hb) (by simp), hok, .of_eq hg⟩
    refine codeAny_mono ((F _ hKb (nsK hns)).run callerA [] s₁ H ⟨[.ref a], []⟩ [.ref a] [.ref a] _ _ hr e0 (hbind s₁ (.ref a)) (.cons rfl .nil) (hsp H hO hS)) fun r s' h => ?_
    cases r with
    | error e => exact (hCX H e s' h).elim
    | ok fl =>
      cases fl with
      | next => exact False.elim h
      | brk => exact False.elim h
      | cont => exact False.elim h
      | ret u =>
        obtain ⟨v, H', os, bare, un, hok', r', q⟩ := h
        have q' : v = .bl true := q
        subst q'
        obtain rfl : u = Value.bool true := r'
        refine ⟨rfl, OldK.of_keep fun b o e => ?_, os, bare⟩
        cases q : H b with
        | none => exact un.keep b o e q (by intro z; exact absurd (show b ∈ ([] : List Addr) from z) (by simp)) (by simp)
        | some u =>
          rcases hO b with z | ⟨ob, xs, z⟩
          · rw [q] at z; cases z
          · have z2 := un.frzs b ob _ z
            obtain ⟨e1, _⟩ := hok b _ z
            obtain ⟨e2, _⟩ := hok' b _ z2
            rw [e] at e1; cases e1
            exact e2
  cases hk : K.lookup a with
  | some o =>
    -- the script is one of the module's own objects
    have e := KX a o hk
    rw [ha] at e
    cases e
    refine core (fun _ => none) (fun _ => .inl rfl) (.inr ⟨_, vs.toArray, _, hk, rfl, rfl, rfl, by rw [List.size_toArray, lenV]; exact hl, by simpa using rv⟩) (fun b u z => by have z' : (none : Option HO) = some u := z; cases z') (fun b z => absurd rfl z) fun z => absurd rfl z
  | none =>
    refine core (fun b => if b = a then some (.frz { cls := .type "list", data := .seq vs.toArray } (.lst (ns.map V.int))) else none) (fun b => ?_) (.inl (.inr ⟨{ cls := .type "list", data := .seq vs.toArray }, if_pos rfl⟩)) (fun b u z => ?_) (fun b z => ?_) fun _ => hk
    · by_cases hb : b = a
      · exact .inr ⟨_, _, if_pos hb⟩
      · exact .inl (if_neg hb)
    · by_cases hb : b = a
      · have z' := (if_pos hb).symm.trans z
        cases z'
        subst hb
        exact ⟨ha, by rw [List.length_map]; exact hl, vs, _, rv, ha⟩
      · have z' := (if_neg hb).symm.trans z
        cases z'
    · by_cases hb : b = a
      · exact hb
      · exact absurd (if_neg hb) z
end L2

namespace L2
open PySem PySem.Spec PyProof.Rows

abbrev KOf {K : PySem.W.Frag} {h : Heap} (_ : K.In h) : PySem.W.Frag := K

/-- the goal that k_head leaves (case hc), from the law's promise. F gives the function object fd (K's own) once, then the promise over every base -/
theorem walk_of {l : PySem.W.OpenLaw} {n k : Nat} {q : Program} {loose : List Str} {XP : (Str → Option Value) → Heap → Prop} {YP : World → Heap → Prop} {d : DefRec} {K : Params → PySem.W.Frag} {CX : World → CXT} {sp : World → Sp} {x : Str}
    (hn : l.most = some n) (hn2 : n ≤ sizeLine) (hdf : d.params.defaults = []) (hr : Room k callerA)
    (hY : ∀ (w : World) (h : Heap), YP w h → (K w.params).In h)
    (F : ∀ (w : World) (mg : Str → Option Value) (fa : Addr) (h : Heap), (K w.params).In h → h.Ns mainGlobals mg → mg d.name = some (.ref fa) →
      ∃ fd : FuncData, (∀ (s : Shared) (u : Value), BindsTo s fd ⟨[u], []⟩ [(x, u)]) ∧
        ∀ base : Heap, (K w.params).In base → base.Ns mainGlobals mg → FnOk l.prog w (K w.params) mg base (CX w) k fa fd [x] (sp w))
    (hsp : ∀ (w : World) (H : Hp) (a : Addr) (ns : List Int), ns.length ≤ n → Only H → SqL (K w.params) H a (ns.map V.int) → sp w [.ref a] H (fun v _ => v = .bl true) fun _ _ _ => False)
    (hCX : ∀ (w : World) (H : Hp) (s : Shared) (e : Value) (s' : Shared), CX w [] H s (fun _ _ _ => False) e s' → False) :
    PySem.W.WalkO q loose XP YP l.row.toRowW d [] (fun f vs => PySem.call f vs) := by
  refine Att.attach_call hn hdf fun w s₀ s₁ mg mb fa o pm cd doc a vs ns G Y ho hd hcd hmg hobj hints hlen hg => ?_
  have KX := hY w _ Y
  obtain ⟨fd, hb, hF⟩ := F w mg fa _ KX G.T.g hmg
  exact law_call KX G.T.g G.T.b G.T.builtins G.T.nolimit hg hobj hints (Nat.le_trans hlen hn2) hr hF hb (fun H hO hS => hsp w H a ns hlen hO hS) fun H e s' => hCX w H s₁ e s'
/-- the same where the promise hangs on the written part alone: (sp := My.sp_law), no hole under a binder -/
theorem walk_ofK {l : PySem.W.OpenLaw} {n k : Nat} {q : Program} {loose : List Str} {XP : (Str → Option Value) → Heap → Prop} {YP : World → Heap → Prop} {d : DefRec} {K : Params → PySem.W.Frag} {CX : CXT} {sp : PySem.W.Frag → Sp} {x : Str}
    (hn : l.most = some n) (hn2 : n ≤ sizeLine) (hdf : d.params.defaults = []) (hr : Room k callerA)
    (hY : ∀ (w : World) (h : Heap), YP w h → (K w.params).In h)
    (F : ∀ (w : World) (mg : Str → Option Value) (fa : Addr) (h : Heap), (K w.params).In h → h.Ns mainGlobals mg → mg d.name = some (.ref fa) →
      ∃ fd : FuncData, (∀ (s : Shared) (u : Value), BindsTo s fd ⟨[u], []⟩ [(x, u)]) ∧
        ∀ base : Heap, (K w.params).In base → base.Ns mainGlobals mg → FnOk l.prog w (K w.params) mg base CX k fa fd [x] (sp (K w.params)))
    (hsp : ∀ (K : PySem.W.Frag) (H : Hp) (a : Addr) (ns : List Int), ns.length ≤ n → Only H → SqL K H a (ns.map V.int) → sp K [.ref a] H (fun v _ => v = .bl true) fun _ _ _ => False)
    (hCX : ∀ (H : Hp) (s : Shared) (e : Value) (s' : Shared), CX [] H s (fun _ _ _ => False) e s' → False) :
    PySem.W.WalkO q loose XP YP l.row.toRowW d [] (fun f vs => PySem.call f vs) :=
  walk_of (K := K) (CX := fun _ => CX) (sp := fun w => sp (K w.params)) hn hn2 hdf hr hY F (fun w H a ns h1 h2 h3 => hsp (K w.params) H a ns h1 h2 h3) fun _ H s e s' => hCX H s e s'
end L2

/- THE LAST THEOREM (shape; LID, My.* are yours):
   My.Adr: a structure of the addresses that your layer names (classes, functions); My.Txt K t: a structure (Prop) of the equations over K;
   My.txt_mk : {K} {implicit addresses ..} (e1 : nsIn K mainGlobals "law" = some (some (.ref f))) (e2 : K.lookup f = some ⟨oc, od, .func (fnOf "law" "law" params body scope dV kV doc pm an cdv ct), sl⟩) (e3 : codeIn K cdv "law" = true) .. : ∃ t, My.Txt K t

set_option maxRecDepth 100000 in
set_option maxHeartbeats 0 in
theorem PySem.Challenge.cw_LID_holds : PySem.Challenge.rw_LID.Holds := by
  w_on; o_law; k_head; (case hw => w_witness2)
  k_fill
  refine L2.walk_of (l := PySem.Challenge.rw_LID) (n := 63) (k := 40) (x := "script") (CX := fun w => ..) (sp := fun _ => My.sp_law) rfl (by decide) rfl ⟨rfl, by decide, by decide⟩ (fun w h Y => PySem.W.kIn_of Y) ?F ?S ?C
  case F =>
    intro w mg fa h KX G hmg
    have T : ∃ t, My.Txt (L2.KOf KX) t := by
      dsimp only [L2.KOf]                          -- K must stand as «<heap const> w.params» for k_is
      refine' My.txt_mk ?e1 ?e2 ?e3 ..
      (case e1 => PySem.W.k_is)                    -- in the order: a name -> its address -> its object -> its parts
      (case e2 => PySem.W.k_is)
      ..
    obtain ⟨t, T⟩ := T
    have e0 := hmg.symm.trans (PySem.W.mg_of KX G T.law)
    cases e0                                       -- fa is the law's own address
    exact ⟨_, fun s u => .of_eq rfl, fun base kb nb => My.law_fn T kb nb⟩     -- if «.of_eq rfl» comes too early: refine' ⟨_, ?b, fun base kb nb => My.law_fn T kb nb⟩; exact fun s u => .of_eq rfl
  case S => exact fun w H a ns hl hO hS => ..
  case C => exact ..
(the tactic k_is has no namespace: write k_is) -/

/-! SHORT WORDS over the layer: a def of the text, its body, what a loop and a test want. -/
namespace L2
open PySem PySem.Spec PyProof.Rows

/-! ### the text by places -/
/-- the j-th statement of a class's body -/
def inClass (s : Stmt) (j : Nat) : Stmt := match s with
  | .ClassDef _ _ _ body _ _ _ _ _ _ _ => body.getD j (.Pass ⟨0, 0, 0, 0⟩)
  | _ => .Pass ⟨0, 0, 0, 0⟩
def defArgs (s : Stmt) : Arguments := match s with
  | .FunctionDef _ a _ _ _ _ _ _ _ _ => a
  | _ => { posonlyargs := [], args := [], vararg := none, kwonlyargs := [], kw_defaults := [], kwarg := none, defaults := [] }
def defBody (s : Stmt) : List Stmt := match s with
  | .FunctionDef _ _ b _ _ _ _ _ _ _ => b
  | _ => []
def defScope (s : Stmt) : Scope := match s with
  | .FunctionDef _ _ _ _ _ _ sc _ _ _ => sc
  | _ => { kind := .function, names := [], isGenerator := false, isCoroutine := false }

/-! ### no exception leaves a def -/
abbrev CX0 : CXT := fun _ _ _ _ _ _ => False
abbrev E0 : XK := fun _ _ _ => False
theorem pass0 {X : Cx} : Passes CX0 X E0 := fun _ _ _ _ _ _ _ h => h.elim

/-! ### a def (or method) of the text as it stands behind the top -/
structure Fun (K : PySem.W.Frag) (x qual : Str) (st : Stmt) (f : Addr) (fd : FuncData) : Prop where
  ex : ∃ (oc : Value) (od : Option Addr) (kV doc pm : Value) (an : Option Addr) (cdv ct : Value) (osl : Array (Option Value)),
    fd = PySem.W.fnOf x qual (defArgs st) (defBody st) (defScope st) .none kV doc pm an cdv ct ∧ K.lookup f = some ⟨oc, od, .func fd, osl⟩ ∧ PySem.W.codeIn K cdv qual = true
  kp : PySem.W.keepIn K (.ref f) = true
section
variable {P : Program} {w : World} {K : PySem.W.Frag} {mg : Str → Option Value} {base : Heap}
/-- THE RULE for a def: its body as a term of rules, and the reading of that term -/
theorem Fun.ok {x qual : Str} {st : Stmt} {f : Addr} {fd : FuncData} {N ps : List Str} {k : Nat} {sp : Sp} (F : Fun K x qual st f fd) (S : FnScope N ps (defScope st)) (len : ∀ vs H Q E, sp vs H Q E → vs.length = ps.length)
    (hbody : ∀ (cdv : Value) (A : Around) (outer : List Env) (s : Shared) (H : Hp) (vs : List V) (Q : VK) (E : XK), Room k (A.deeper (envOfC qual (defScope st) s.heap.objs.size f cdv)) → sp vs H Q E →
      ∃ t, PSs (cxOf CX0 P w K mg base N qual (defScope st) f cdv A outer s H E).nox (defBody st) t ∧ t { nx := fun _ H' => Q .non H', rt := Q } (start N vs) H) : FnOk P w K mg base CX0 (k + 1) f fd ps sp := by
  obtain ⟨oc, od, kV, doc, pm, an, cdv, ct, osl, rfl, lk, hcd⟩ := F.ex
  refine fn_of lk hcd S len fun A outer s H vs Q E hr hsp => ?_
  obtain ⟨t, h, q⟩ := hbody cdv A outer s H vs Q E hr hsp
  exact ⟨t, h.nox, q⟩
/-- how its arguments bind (no defaults): h is «fun _ _ _ _ _ _ us hl => match us, hl with | [_, _], _ => rfl», one _ a parameter -/
theorem Fun.binds {x qual : Str} {st : Stmt} {f : Addr} {fd : FuncData} {ps : List Str} (F : Fun K x qual st f fd)
    (h : ∀ (kV doc pm : Value) (an : Option Addr) (cdv ct : Value) (us : List Value), us.length = ps.length → bindArgs (PySem.W.fnOf x qual (defArgs st) (defBody st) (defScope st) .none kV doc pm an cdv ct) ⟨us, []⟩ = pure (ps.zip us)) : Binds K fd ps [] := by
  obtain ⟨oc, od, kV, doc, pm, an, cdv, ct, osl, rfl, lk, hcd⟩ := F.ex
  exact .all (h kV doc pm an cdv ct)
theorem fun_mk {x qual : Str} {st : Stmt} {f : Addr} {oc : Value} {od an : Option Addr} {osl : Array (Option Value)} {kV doc pm cdv ct : Value} (l : K.lookup f = some ⟨oc, od, .func (PySem.W.fnOf x qual (defArgs st) (defBody st) (defScope st) .none kV doc pm an cdv ct), osl⟩)
    (c : PySem.W.codeIn K cdv qual = true) (k : PySem.W.keepIn K (.ref f) = true) : Fun K x qual st f (PySem.W.fnOf x qual (defArgs st) (defBody st) (defScope st) .none kV doc pm an cdv ct) := ⟨⟨oc, od, kV, doc, pm, an, cdv, ct, osl, rfl, l, c⟩, k⟩
end
theorem hu_of {A : Around} {k : Nat} (hr : Room k A) : A.units + 1 < cLine := Nat.lt_of_le_of_lt (Nat.add_le_add_left (by decide : 1 ≤ 64) _) hr.units
theorem small1000 {n : Nat} (h : n ≤ 1000) : n < sizeLine := Nat.lt_of_le_of_lt h (by decide)

/-! ### expressions in short: the name that stands in the i-th slot -/
section
variable {X : Cx}
theorem pv (i : Nat) {x : Str} {pos : Pos} (hN : X.N[i]? = some x := by rfl) (hv : Vis X.env.scope x := by first | exact Or.inl rfl | exact Or.inr (Or.inl rfl) | exact Or.inr (Or.inr rfl)) (hd : (x == ("__debug__" : Str)) = false := by decide)
    (hcd : (x == ("__classdict__" : Str)) = false := by decide) : PE X (.Name x pos) (tVar i) := pe_var hN hv hd hcd
end

/-! ### tests -/
theorem iteF {A B : Prop} (h : B) : if false = true then A else B := by
  rw [if_neg Bool.false_ne_true]
  exact h
theorem iteT {A B : Prop} (h : A) : if true = true then A else B := by
  rw [if_pos rfl]
  exact h
theorem ite2 {c A B : Prop} [Decidable c] (h1 : c → A) (h2 : ¬ c → B) : if c then A else B := by
  by_cases h : c
  · rw [if_pos h]
    exact h1 h
  · rw [if_neg h]
    exact h2 h
theorem iteNS {c A B : Prop} [Decidable c] (hc : c) (h : B) : if (!decide c) = true then A else B := by
  rw [decide_eq_true hc]
  exact iteF h

/-! ### heaps -/
/-- all that was tracked is as it was -/
def Same (H H' : Hp) : Prop := ∀ b o, H b = some o → H' b = some o
theorem Same.refl (H : Hp) : Same H H := fun _ _ h => h
theorem Same.trans {H H1 H2 : Hp} (a : Same H H1) (b : Same H1 H2) : Same H H2 := fun c o h => b c o (a c o h)
theorem Same.free {H H' : Hp} (e : Same H H') {l : Addr} (h : H' l = Option.none) : H l = Option.none := by
  cases q : H l with
  | none => rfl
  | some o =>
    rw [e l o q] at h
    cases h
theorem Same.seq {K : PySem.W.Frag} {H H' : Hp} {a : Addr} {xs : List V} (e : Same H H') (h : SqL K H a xs) : SqL K H' a xs := by
  rcases h with (h | ⟨o, h⟩) | h
  · exact .inl (.inl (e _ _ h))
  · exact .inl (.inr ⟨o, e _ _ h⟩)
  · exact .inr h

end L2

set_option maxHeartbeats 4000000
namespace L2
open PySem PySem.Spec PyProof.Rows

/-! ### a comprehension's block -/
/-- what a block's free names hold at its start -/
def cSt (src : List (Option Nat)) (σ : St) : St := src.map fun o => match o with | some j => σ.getD j none | none => none
theorem cSt_get {src : List (Option Nat)} {σ : St} {i : Nat} {v : V} (h : (cSt src σ)[i]? = some (some v)) : ∃ j, src[i]? = some (some j) ∧ σ[j]? = some (some v) := by
  unfold cSt at h
  rw [List.getElem?_map] at h
  cases e : src[i]? with
  | none => rw [e] at h; cases h
  | some o =>
    rw [e] at h
    cases o with
    | none => cases h
    | some j =>
      refine ⟨j, rfl, ?_⟩
      have h' : σ.getD j none = some v := Option.some.inj h
      rw [List.getD_eq_getElem?_getD] at h'
      cases e2 : σ[j]? with
      | none => rw [e2] at h'; cases h'
      | some o => rw [e2] at h'; rw [show o = some v from h']
/-- the block's names against the scope and the names around -/
structure BlkScope (NB : List Str) (src : List (Option Nat)) (scope : Scope) (X : Cx) : Prop where
  kind : scope.kind = .function
  nd : NB.Nodup
  len : src.length = NB.length
  nocell : ∀ y ∈ scope.names, y.2 ≠ .cell
  names : ∀ y ∈ scope.names, y.2 = .local → scope.names.lookup y.1 = some .local
  free : ∀ y ∈ scope.names, y.2 = .free → X.env.scope.names.lookup y.1 = some .cell ∨ X.env.scope.names.lookup y.1 = some .free
  src : ∀ (i : Nat) (x : Str) (j : Nat), NB[i]? = some x → src[i]? = some (some j) → X.N[j]? = some x ∧ scope.names.lookup x = some .free

def blk (X : Cx) (NB : List Str) (scope : Scope) (cl : List (Str × Addr)) (C : Addr) (s₃ : Shared) (H₃ : Hp) (fp : List Addr) : Cx :=
  { X with N := NB, s₀ := s₃, H₀ := H₃, env := compEnvC scope cl C X.env, outer := X.stack, stack := X.stack, ex := fp, fn := fun _ => false, pn := [], xe := fun _ _ => False }

theorem closure_go {env : Env} : ∀ (names : List (Str × NameKind)) (acc : List (Str × Addr)), (∀ y ∈ names, y.2 = NameKind.free → ∃ c, env.cells.lookup y.1 = some c) → (∀ x c, acc.lookup x = some c → env.cells.lookup x = some c) →
    ∃ cl, (forIn names acc fun x r => (if (x.2 == NameKind.free) = true then (do let a ← cellOf env x.1; pure (ForInStep.yield ((x.1, a) :: r))) else pure (ForInStep.yield r) : Sem (ForInStep (List (Str × Addr))))) = (pure cl : Sem (List (Str × Addr))) ∧
      (∀ x c, cl.lookup x = some c → env.cells.lookup x = some c) ∧ (∀ x c, acc.lookup x = some c → ∃ c', cl.lookup x = some c') ∧ ∀ x, (x, NameKind.free) ∈ names → ∃ c, cl.lookup x = some c
  | [], acc, _, ha => ⟨acc, by rw [List.forIn_nil], ha, fun x c h => ⟨c, h⟩, fun x h => nomatch h⟩
  | (n, k) :: r, acc, hf, ha => by
    by_cases hk : k = NameKind.free
    · subst hk
      obtain ⟨c, hc⟩ := hf (n, NameKind.free) List.mem_cons_self rfl
      have ha' : ∀ x c', ((n, c) :: acc).lookup x = some c' → env.cells.lookup x = some c' := fun x c' h => by
        rw [List.lookup_cons] at h
        cases hx : x == n with
        | true =>
          rw [hx] at h
          cases h
          have : x = n := by simpa using hx
          rw [this]; exact hc
        | false => rw [hx] at h; exact ha x c' h
      obtain ⟨cl, e1, e2, e3, e4⟩ := closure_go r ((n, c) :: acc) (fun y hy => hf y (List.mem_cons_of_mem _ hy)) ha'
      refine ⟨cl, ?_, e2, fun x c' h => ?_, fun x h => ?_⟩
      · rw [List.forIn_cons]
        have ec : cellOf env n = pure c := by unfold cellOf; rw [hc]
        have e0 : (if ((n, NameKind.free).2 == NameKind.free) = true then (do let a ← cellOf env (n, NameKind.free).1; pure (ForInStep.yield (((n, NameKind.free).1, a) :: acc))) else pure (ForInStep.yield acc) : Sem (ForInStep (List (Str × Addr)))) = pure (ForInStep.yield ((n, c) :: acc)) := by
          rw [if_pos (show (NameKind.free == NameKind.free) = true by decide)]
          show cellOf env n >>= _ = _
          rw [ec]; rfl
        rw [e0]
        exact e1
      · cases hx : x == n with
        | true => exact e3 x c (by rw [List.lookup_cons, hx])
        | false => exact e3 x c' (by rw [List.lookup_cons, hx]; exact h)
      · rcases List.mem_cons.mp h with h | h
        · cases h
          exact e3 n c (by rw [List.lookup_cons]; simp)
        · exact e4 x h
    · obtain ⟨cl, e1, e2, e3, e4⟩ := closure_go r acc (fun y hy => hf y (List.mem_cons_of_mem _ hy)) ha
      refine ⟨cl, ?_, e2, e3, fun x h => ?_⟩
      · rw [List.forIn_cons]
        have hb : (k == NameKind.free) = false := by simpa using hk
        have e0 : (if ((n, k).2 == NameKind.free) = true then (do let a ← cellOf env (n, k).1; pure (ForInStep.yield (((n, k).1, a) :: acc))) else pure (ForInStep.yield acc) : Sem (ForInStep (List (Str × Addr)))) = pure (ForInStep.yield acc) := by
          rw [if_neg (by show ¬ (k == NameKind.free) = true; rw [hb]; decide)]
        rw [e0]
        exact e1
      · rcases List.mem_cons.mp h with h | h
        · cases h; exact absurd rfl hk
        · exact e4 x h
theorem closure_ex {X : Cx} (ok : X.Ok) {NB : List Str} {src : List (Option Nat)} {scope : Scope} (S : BlkScope NB src scope X) :
    ∃ cl, closureFor scope X.env = pure cl ∧ (∀ x c, cl.lookup x = some c → X.env.cells.lookup x = some c) ∧ ∀ x, (x, NameKind.free) ∈ scope.names → ∃ c, cl.lookup x = some c := by
  obtain ⟨cl, e1, e2, _, e4⟩ := closure_go (env := X.env) scope.names [] (fun y hy hk => ok.has y.1 (S.free y hy hk)) (fun x c h => nomatch h)
  refine ⟨cl, ?_, e2, e4⟩
  unfold closureFor
  simp only [bind_pure]
  exact e1

theorem relabel_free {scope : Scope} {env : Env} {x : Str} (h : scope.names.lookup x = some .free) : (relabel scope env).names.lookup x = some .cell ∨ (relabel scope env).names.lookup x = some .free := by
  have go : ∀ names : List (Str × NameKind), names.lookup x = some .free →
      (names.map fun (n, k) => if (k == NameKind.free && env.scope.kind == .function && env.kindOf n == some .cell) then (n, NameKind.cell) else (n, k)).lookup x = some .cell ∨
      (names.map fun (n, k) => if (k == NameKind.free && env.scope.kind == .function && env.kindOf n == some .cell) then (n, NameKind.cell) else (n, k)).lookup x = some .free := by
    intro names
    induction names with
    | nil => intro h; simp at h
    | cons y r ih =>
      intro h
      obtain ⟨n, k⟩ := y
      rw [List.lookup_cons] at h
      rw [List.map_cons]
      cases hx : x == n with
      | true =>
        rw [hx] at h
        cases h
        by_cases hc : (NameKind.free == NameKind.free && env.scope.kind == .function && env.kindOf n == some .cell) = true
        · left; show List.lookup x ((if _ then _ else _) :: _) = _; rw [if_pos hc, List.lookup_cons, hx]
        · right; show List.lookup x ((if _ then _ else _) :: _) = _; rw [if_neg hc, List.lookup_cons, hx]
      | false =>
        rw [hx] at h
        by_cases hc : (k == NameKind.free && env.scope.kind == .function && env.kindOf n == some .cell) = true
        · show List.lookup x ((if _ then _ else _) :: _) = _ ∨ List.lookup x ((if _ then _ else _) :: _) = _
          rw [if_pos hc, List.lookup_cons, hx]; exact ih h
        · show List.lookup x ((if _ then _ else _) :: _) = _ ∨ List.lookup x ((if _ then _ else _) :: _) = _
          rw [if_neg hc, List.lookup_cons, hx]; exact ih h
  exact go scope.names h
/-- where the relabelled scope says cell or free, the scope says free -/
theorem relabel_back {scope : Scope} {env : Env} {x : Str} {k : NameKind} (hc : ∀ y ∈ scope.names, y.2 ≠ .cell) (h : (relabel scope env).names.lookup x = some k) (hk : k = .cell ∨ k = .free) : (x, NameKind.free) ∈ scope.names := by
  have m := PySem.mem_of_lookup h
  obtain ⟨⟨n, k'⟩, hm, e⟩ := List.mem_map.mp m
  by_cases q : (k' == NameKind.free && env.scope.kind == .function && env.kindOf n == some .cell) = true
  · have e' : (n, NameKind.cell) = (x, k) := by simpa [q] using e
    have k1 : k' = NameKind.free := by
      simp only [Bool.and_eq_true, beq_iff_eq] at q
      exact q.1.1
    cases e'
    rw [← k1]; exact hm
  · have e' : (n, k') = (x, k) := by simpa [q] using e
    cases e'
    rcases hk with z | z
    · subst z; exact absurd rfl (hc _ hm)
    · subst z; exact hm

section
variable {X : Cx} {pins : List (Addr × Obj)} {σ : St} {H : Hp} {s : Shared} {NB : List Str} {src : List (Option Nat)} {scope : Scope} {cl : List (Str × Addr)} {fp : List Addr} {h₁ : Heap} {t₁ : Nat}
theorem inv_blk (I : Inv X pins σ H s) (S : BlkScope NB src scope X) (c1 : ∀ x c, cl.lookup x = some c → X.env.cells.lookup x = some c) (c2 : ∀ x, (x, NameKind.free) ∈ scope.names → ∃ c, cl.lookup x = some c)
    (hf : ∀ b ∈ fp, FpOk X pins H b) (hfo : ∀ b ∈ fp, b < s.heap.objs.size) {m : Str → Option Value} (hn : h₁.Ns s.heap.objs.size m) (hk : ∀ b o, s.heap.get? b = some o → h₁.get? b = some o) :
    Inv (blk X NB scope cl s.heap.objs.size s H fp) [] (cSt src σ) H { s with heap := h₁, toks := t₁ } := by
  have stk : ∀ b ∈ frs X.stack, b ∈ X.env.locals :: X.fs := I.stkSub
  have cellOk : ∀ x c, cl.lookup x = some c → ∃ v, s.heap.IsCell c v := fun x c e => I.cell x c (c1 x c e)
  refine ⟨⟨I.ok.mod, S.kind, I.ok.glob, I.ok.blt, Nat.le_refl _, fun x y c e1 e2 => I.ok.inj x y c (c1 x c e1) (c1 y c e2), fun x hx => ?_, fun x c z => absurd z (by show ¬ (false = true); decide), I.ok.hd, I.ok.frames, .inl rfl, fun b hb => ⟨?_, fun x c e => ?_⟩, I.bs, Nat.le_trans I.ok.bsz I.sz, fun b o e hb => ?_, fun b hb => ?_, I.stack, I.stkFree⟩,
    rfl, I.bare, Un.kept hk, ⟨m, hn, fun i x v e1 e2 e3 => ?_⟩, fun x c e => ?_, I.hok.fresh (Nat.le_refl _), fun x c e => I.freeC x c (c1 x c e), fun p hp => absurd (show p ∈ ([] : List (Addr × Obj)) from hp) (by simp), I.hok.kept hk, ?_⟩
  · rcases hx with hx | hx
    · exact c2 x (relabel_back S.nocell hx (.inl rfl))
    · exact c2 x (relabel_back S.nocell hx (.inr rfl))
  · exact Nat.ne_of_lt (hfo b hb)
  · exact (hf b hb).2.2.2.2.1 x c (c1 x c e)
  · rcases (hf b hb).2.2.2.1 with z | z
    · exact I.ok.noex b o e z
    · exact absurd (Nat.lt_of_lt_of_le (Heap.lt_size e) (Nat.le_trans I.ok.bsz z)) (Nat.lt_irrefl _)
  · intro z
    rcases List.mem_cons.mp (stk b z) with e | e
    · exact (hf b hb).2.1 e
    · exact (hf b hb).2.2.1 e
  · obtain ⟨j, hj, hv⟩ := cSt_get e2
    obtain ⟨hN, hF⟩ := S.src i x j e1 hj
    obtain ⟨m0, hn0, hl0⟩ := I.loc
    have hmem := PySem.mem_of_lookup hF
    have kx := S.free _ hmem rfl
    have vis : Vis X.env.scope x := by
      rcases kx with z | z
      · exact .inr (.inl z)
      · exact .inr (.inr z)
    obtain ⟨u, r, l⟩ := hl0 j x v hN hv vis
    refine ⟨u, r, .inr ⟨relabel_free hF, ?_⟩⟩
    obtain ⟨c, hc⟩ := c2 x hmem
    refine ⟨c, hc, ?_⟩
    rcases l with ⟨hk', _⟩ | ⟨_, c', e, z⟩
    · have hk'' : X.env.scope.names.lookup x = some .local := hk'
      rcases kx with z | z <;> (rw [z] at hk''; cases hk'')
    · rw [c1 x c hc] at e
      cases e
      obtain ⟨o, ho, hd⟩ := z
      exact ⟨o, hk _ _ ho, hd⟩
  · obtain ⟨v, o, ho, hd⟩ := cellOk x c e
    exact ⟨v, o, hk _ _ ho, hd⟩
  · show (cSt src σ).length = NB.length
    unfold cSt
    rw [List.length_map]
    exact S.len
/-- behind the block -/
theorem Inv.unblk {C : Addr} {σB : St} {H' : Hp} {s' : Shared} (I : Inv X pins σ H s) (J : Inv (blk X NB scope cl C s H fp) [] σB H' s') (hf : ∀ b ∈ fp, FpOk X pins H b) : Inv X pins σ H' s' := by
  refine I.call' (ch := fp) J.os J.base J.hok J.bare fun b hb => ?_
  obtain ⟨_, f1, _, f3, f4, f5⟩ := hf b hb
  exact ⟨f3, f1, f4, f5⟩
end

/-! ### the tests of a clause -/
def PTs (X : Cx) (ifs : List Expr) (t : TT) : Prop :=
  ∀ (pins : List (Addr × Obj)) (s : Shared) (σ : St) (H : Hp) (Q : Bool → Hp → Prop), Inv X pins σ H s → t σ H Q →
    wpAny (model X.prog X.w) X.A (forIn ifs true fun c r => if r = true then do let ok ← isTrue c X.env (eval c X.env); pure (ForInStep.yield ok) else pure (ForInStep.yield r)) (TP X pins σ Q) X.xe s
def tYes : TT := fun _ H Q => Q true H
theorem pts_nil {X : Cx} : PTs X [] tYes := fun _ _ _ H _ I h => wpAny_tests_nil ⟨H, I, h⟩
theorem pts_one {X : Cx} {c : Expr} {t : TT} (h : PT X c t) : PTs X [c] t := fun pins s σ H Q I q => wpAny_tests_one (h pins s σ H Q I q)

/-- the walk of a clause: W by turn and measure, D the list that grows -/
def CompW (J : It) (g : TG) (tt : TT) (te : TE) (D : Addr) (fin : Hp → Prop) (σB : St) (H1 : Hp) : Prop :=
  ∃ W : Nat → Nat → St → Hp → Prop, (∃ m, W 0 m σB H1) ∧ ∀ i m σ H, W i m σ H → (J.stop i H ∧ fin H) ∨ (J.go i H ∧ ∀ x H', J.yld i H x H' → g x σ H' fun σ2 H2 => tt σ2 H2 fun b H3 =>
    if b = true then te σ2 H3 fun v H4 => ∃ ys, H4 D = some (.lst ys) ∧ ys.length < sizeLine ∧ ∃ m', m' < m ∧ W (i + 1) m' σ2 (upd H4 D (.lst (ys ++ [v]))) else ∃ m', m' < m ∧ W (i + 1) m' σ2 H3)

theorem comp_loop {B : Cx} {elt tg iter : Expr} {ifs : List Expr} {scope : Scope} {pos : Pos} {J : It} {g : TG} {tt : TT} {te : TE} {D it : Addr} {fp : List Addr} {tn : Nat → Heap → Prop} {fin : Hp → Prop} {R : Result → Shared → Prop} {s : Shared} {σB : St} {H1 : Hp}
    (hx : B.xe = fun _ _ => False) (hc : B.calm = true) (T : Turn B.prog B.w B.K tg J fp it tn) (hg : PG B tg g) (ht : PTs B ifs tt) (he : PE B elt te) (I : Inv B [] σB H1 s) (st : tn 0 s.heap) (hf : ∀ b ∈ fp, FpOk B [] H1 b)
    (hw : CompW J g tt te D fin σB H1) (hR : ∀ σ' H' s', Inv B [] σ' H' s' → fin H' → R (.ok .next) s') :
    codeAny (model B.prog B.w) B.A (.compLoop (.ListComp elt [⟨tg, iter, ifs, 0⟩] scope pos) 0 (.ref it) (.ref D) B.env) R s := by
  obtain ⟨W, ⟨m0, w0⟩, turn⟩ := hw
  have stat : ∀ {H' : Hp}, (∀ b ∈ fp, H' b = none) → ∀ b ∈ fp, FpOk B [] H' b := fun hn b hb => ⟨hn b hb, (hf b hb).2⟩
  refine codeAny_loop rfl (fun n s' => ∃ i σ' H', Inv B [] σ' H' s' ∧ tn i s'.heap ∧ (∀ b ∈ fp, H' b = none) ∧ W i n σ' H') ?_ m0 ⟨0, σB, H1, I, st, fun b hb => (hf b hb).1, w0⟩
  rintro n s3 ⟨i, σ3, H3, I3, st3, fr3, w3⟩
  show wpAny _ B.A ((compTurn (.ListComp elt [⟨tg, iter, ifs, 0⟩] scope pos) 0 (.ref it) (.ref D) B.env).onRaise (fun x => do noteFrame x B.env; theTreesLotGoes x)) _ _ s3
  refine wpAny_noted ?_
  rw [compTurn_list]
  have nx : ∀ {α : Type} {t : Sem α} {Q : α → Shared → Prop} {E' : Value → Shared → Prop} {s : Shared}, wpAny (model B.prog B.w) B.A t Q B.xe s → wpAny (model B.prog B.w) B.A t Q E' s := fun h =>
    wpAny_mono h (fun _ _ q => q) fun _ _ z => by rw [hx] at z; exact z.elim
  rcases turn i n σ3 H3 w3 with ⟨stop, qn⟩ | ⟨go, step⟩
  · refine wpAny_bind (wpAny_standAt (wpAny_bind (thn (T.done B rfl rfl rfl hc i [] s3 σ3 H3 _ I3 (stat fr3) st3 stop) fun r s4 ⟨hr, I4⟩ => ?_)))
    subst hr
    exact wpAny_pure (hR σ3 H3 s4 I4 qn)
  · refine wpAny_bind (wpAny_standAt (wpAny_bind (thn (T.item B rfl rfl rfl hc i [] s3 σ3 H3 _ I3 (stat fr3) st3 go) fun r s4 ⟨u, hr, h4⟩ => ?_)))
    subst hr
    refine wpAny_bind (thn h4 fun _ s5 ⟨x, H5, I5, r5, y5, st5, fr5⟩ => ?_)
    have I5' := I5.pinned (stat fr5) (T.obj _ _ st5)
    refine wpAny_bind (nx (thn (hg _ s5 σ3 H5 x u _ I5' r5 (step x H5 y5)) fun _ s6 ⟨σ6, H6, I6, q6⟩ => ?_))
    have back : ∀ {σ7 : St} {H7 : Hp} {s7 : Shared} {m' : Nat}, Inv B ([] ++ pinsAt fp s5.heap) σ7 H7 s7 → m' < n → W (i + 1) m' σ7 H7 → ∃ m, m < n ∧ ∃ i σ' H', Inv B [] σ' H' s7 ∧ tn i s7.heap ∧ (∀ b ∈ fp, H' b = none) ∧ W i m σ' H' := fun {σ7 H7 s7 m'} I7 hm w7 => by
      refine ⟨m', hm, i + 1, σ7, H7, I7.unpinned, T.keep _ _ _ st5 fun b hb o e => (I7.pin (b, o) (List.mem_append_right _ (List.mem_append_right _ (mem_pinsAt hb e)))).1, fun b hb => ?_, w7⟩
      obtain ⟨o, e, d⟩ := T.obj _ _ st5 b hb
      exact (I7.pin (b, o) (List.mem_append_right _ (List.mem_append_right _ (mem_pinsAt hb e)))).2.1
    refine wpAny_bind (nx (thn (ht _ s6 σ6 H6 _ I6 q6) fun ok s7 ⟨H7, I7, q7⟩ => ?_))
    cases ok with
    | false =>
      rw [if_neg Bool.false_ne_true] at q7
      obtain ⟨m', hm, w7⟩ := q7
      exact wpAny_pure ⟨rfl, back I7 hm w7⟩
    | true =>
      rw [if_pos rfl] at q7
      refine wpAny_bind (wpAny_bind (nx (thn (he _ s7 σ6 H7 _ I7 q7) fun v s8 ⟨y, H8, I8, r8, ys, hD, hl, m', hm, w8⟩ => ?_)))
      refine wpAny_bind (nx (thn (mt_append _ s8 σ6 H8 (.ref D) [y] (.ref D) [v] (fun _ H9 => H9 = upd H8 D (.lst (ys ++ [y]))) I8 rfl (.cons r8 .nil) ⟨D, ys, y, rfl, rfl, hD, hl, rfl⟩) fun _ s9 ⟨_, H9, I9, _, e9⟩ => ?_))
      subst e9
      exact wpAny_pure (wpAny_pure ⟨rfl, back I9 hm w8⟩)
end L2

set_option maxHeartbeats 4000000
namespace L2
open PySem PySem.Spec PyProof.Rows
section
variable {X : Cx} {elt tg iter : Expr} {ifs : List Expr} {scope : Scope} {pos : Pos} {wi : TI} {g : TG} {tt : TT} {te : TE} {NB : List Str} {src : List (Option Nat)}
/-- a list comprehension of one clause: src, where the block's names come from -/
def tComp (src : List (Option Nat)) (wi : TI) (g : TG) (tt : TT) (te : TE) : TE := fun σ H Q => wi σ H fun J H1 => ∀ D, H1 D = none → CompW J g tt te D (fun H' => Q (.ref D) H') (cSt src σ) (upd H1 D (.lst []))
/-- the block from the made iterator on -/
theorem comp_block {pins : List (Addr × Obj)} {σ : St} {H2 : Hp} {s2 : Shared} {J : It} {fp : List Addr} {it : Addr} {tn : Nat → Heap → Prop} {cl : List (Str × Addr)} {fin : Addr → Hp → Prop} {E' : Value → Shared → Prop} {RR : Value → Addr → Result → Shared → Prop}
    (S : BlkScope NB src scope X) (hc : X.calm = true) (c1 : ∀ x c, cl.lookup x = some c → X.env.cells.lookup x = some c) (c2 : ∀ x, (x, NameKind.free) ∈ scope.names → ∃ c, cl.lookup x = some c)
    (hg : ∀ cl C s₃ H₃ fp, PG (blk X NB scope cl C s₃ H₃ fp) tg g) (ht : ∀ cl C s₃ H₃ fp, PTs (blk X NB scope cl C s₃ H₃ fp) ifs tt) (he : ∀ cl C s₃ H₃ fp, PE (blk X NB scope cl C s₃ H₃ fp) elt te)
    (I2 : Inv X pins σ H2 s2) (T : Turn X.prog X.w X.K tg J fp it tn) (st2 : tn 0 s2.heap) (f2 : ∀ b ∈ fp, FpOk X pins H2 b)
    (hw : ∀ D, H2 D = none → CompW J g tt te D (fin D) (cSt src σ) (upd H2 D (.lst [])))
    (hR : ∀ D C H' s', FpOk X pins H' C → Inv X pins σ H' s' → (∃ m, s'.heap.Ns C m) → fin D H' → RR (.ref D) C (.ok .next) s') :
    wpAny (model X.prog X.w) X.A (newList []) (fun acc s₃ => wpAny (model X.prog X.w) X.A (newFunctionEnv scope X.env.globals cl [] X.env.qual none .none (some X.env)) (fun cenv s₄ =>
      codeAny (model X.prog X.w) X.A (.compStart (.ListComp elt [⟨tg, iter, ifs, 0⟩] scope pos) 0 (.ref it) acc { cenv with scope := relabel scope X.env }) (RR acc cenv.locals) s₄) E' s₃) E' s2 := by
  refine wpAny_newObj_type (wpAny_newFunctionEnv S.nocell (by intro y hy; simp at hy) (fun h₁ hns₁ hsb₁ => ?_) S.kind)
  have I3 := I2.lnew (ys := []) (its := []) (t' := s2.toks) .nil (Nat.zero_le _)
  have hD : H2 s2.heap.objs.size = none := I2.fresh
  have fo : ∀ b ∈ fp, b < s2.heap.objs.size := fun b hb => by obtain ⟨o, e, _⟩ := T.obj _ _ st2 b hb; exact Heap.lt_size e
  have up : ∀ {b : Addr}, b ∈ fp → upd H2 s2.heap.objs.size (.lst []) b = H2 b := fun {b} hb => upd_ne (Nat.ne_of_lt (fo b hb))
  have f3 : ∀ b ∈ fp, FpOk X pins (upd H2 s2.heap.objs.size (.lst [])) b := fun b hb => ⟨by rw [up hb]; exact (f2 b hb).1, (f2 b hb).2⟩
  have hsz : (s2.heap.push { cls := .type "list", data := .seq ([] : List Value).toArray }).objs.size = s2.heap.objs.size + 1 := by rw [Heap.size_push]
  generalize hs3 : ({ s2 with heap := s2.heap.push { cls := .type "list", data := .seq ([] : List Value).toArray } } : Shared) = s3 at I3 hns₁ hsb₁ ⊢
  have hh3 : s3.heap = s2.heap.push { cls := .type "list", data := .seq ([] : List Value).toArray } := by rw [← hs3]
  have fo3 : ∀ b ∈ fp, b < s3.heap.objs.size := fun b hb => by rw [hh3, hsz]; exact Nat.lt_succ_of_lt (fo b hb)
  have keep : ∀ b o, s3.heap.get? b = some o → h₁.get? b = some o := fun b o e => hsb₁.extBut b o (Nat.ne_of_lt (Heap.lt_size e)) (Heap.get?_push_of_some _ e)
  have IB : Inv (blk X NB scope cl s3.heap.objs.size s3 (upd H2 s2.heap.objs.size (.lst [])) fp) [] (cSt src σ) (upd H2 s2.heap.objs.size (.lst [])) { s3 with heap := h₁, toks := s3.toks + ([] : List (Str × Value)).length } :=
    inv_blk I3 S c1 c2 f3 fo3 hns₁ keep
  have stB : tn 0 h₁ := T.keep 0 s2.heap h₁ st2 fun b hb o e => keep b o (by rw [hh3]; exact Heap.get?_push_of_some _ e)
  have fB : ∀ b ∈ fp, FpOk (blk X NB scope cl s3.heap.objs.size s3 (upd H2 s2.heap.objs.size (.lst [])) fp) [] (upd H2 s2.heap.objs.size (.lst [])) b := fun b hb => by
    refine ⟨(f3 b hb).1, Nat.ne_of_lt (fo3 b hb), fun z => ?_, .inl hb, fun x c e => (f3 b hb).2.2.2.2.1 x c (c1 x c e), fun p hp => absurd (show p ∈ ([] : List (Addr × Obj)) from hp) (by simp)⟩
    rcases List.mem_cons.mp (I3.stkSub b z) with e | e
    · exact (f3 b hb).2.1 e
    · exact (f3 b hb).2.2.1 e
  have loop : codeAny (model X.prog X.w) X.A (.compLoop (.ListComp elt [⟨tg, iter, ifs, 0⟩] scope pos) 0 (.ref it) (.ref s2.heap.objs.size) (compEnvC scope cl s3.heap.objs.size X.env)) (RR (.ref s2.heap.objs.size) s3.heap.objs.size)
      { s3 with heap := h₁, toks := s3.toks + ([] : List (Str × Value)).length } := by
    refine comp_loop (B := blk X NB scope cl s3.heap.objs.size s3 (upd H2 s2.heap.objs.size (.lst [])) fp) rfl hc T (hg _ _ _ _ _) (ht _ _ _ _ _) (he _ _ _ _ _) IB stB fB (hw _ hD) fun σ' H' s' J' q => ?_
    obtain ⟨m, hm, _⟩ := J'.loc
    exact hR _ _ H' s' (I3.fpOk (Nat.le_refl _) J'.free) (I3.unblk J' f3) ⟨m, hm⟩ q
  exact codeAny_compStart_list loop (T.self _ 0 _ _ _ stB loop)
theorem pe_comp (S : BlkScope NB src scope X) (hc : X.calm = true) (hi : PI X tg iter wi) (hg : ∀ cl C s₃ H₃ fp, PG (blk X NB scope cl C s₃ H₃ fp) tg g) (ht : ∀ cl C s₃ H₃ fp, PTs (blk X NB scope cl C s₃ H₃ fp) ifs tt)
    (he : ∀ cl C s₃ H₃ fp, PE (blk X NB scope cl C s₃ H₃ fp) elt te) (hs : ∀ x, foldedSetIterable iter X.env x = pure x := by intro _; rfl) : PE X (.ListComp elt [⟨tg, iter, ifs, 0⟩] scope pos) (tComp src wi g tt te) := by
  intro pins s σ H Q I h
  obtain ⟨cl, hcl, c1, c2⟩ := closure_ex I.ok S
  rw [eval_ListComp]
  refine wpAny_comprehension_free (use := none) (cl := cl) rfl hs hcl S.kind S.names (thn (hi pins s σ H _ I h) fun v s1 h1 => thn h1 fun itv s2 h2 => ?_)
  obtain ⟨it, fp, tn, J, H2, e, I2, T, st2, f2, hw⟩ := h2
  subst e
  refine comp_block (RR := fun acc C => compPost (model X.prog X.w) X.A X.xe none (EP X pins σ Q) acc C) S hc c1 c2 hg ht he I2 T st2 f2 hw fun D C H' s' fC I' hm q => ?_
  obtain ⟨m, hm⟩ := hm
  refine ⟨m, hm, fun h' sb => ⟨.ref D, H', ?_, rfl, q⟩⟩
  obtain ⟨g0, g1, _, g3, g4, g5⟩ := fC
  exact I'.turned (t' := s'.toks) (fun b o hb e => (sb.2 b hb).trans e) g0 g1 g3 g4 g5
/-- name = [..] of one row, the name a plain local -/
theorem ps_setComp {i : Nat} {y : Str} {py spos : Pos} (S : BlkScope NB src scope X) (hc : X.calm = true) (hi : PI X tg iter wi) (hg : ∀ cl C s₃ H₃ fp, PG (blk X NB scope cl C s₃ H₃ fp) tg g) (ht : ∀ cl C s₃ H₃ fp, PTs (blk X NB scope cl C s₃ H₃ fp) ifs tt)
    (he : ∀ cl C s₃ H₃ fp, PE (blk X NB scope cl C s₃ H₃ fp) elt te) (hN : X.N.Nodup) (hix : X.N[i]? = some y) (hy : X.env.scope.names.lookup y = some .local)
    (hsw : swapsWith (.ListComp elt [⟨tg, iter, ifs, 0⟩] scope pos) (some (.Name y py)) spos.line X.env = pure true) (hs : ∀ x, foldedSetIterable iter X.env x = pure x := by intro _; rfl) :
    PS X (.Assign [.Name y py] (.ListComp elt [⟨tg, iter, ifs, 0⟩] scope pos) spos) (tAsg (tComp src wi g tt te) (gName i)) := by
  intro pins s σ H D0 I h
  obtain ⟨cl, hcl, c1, c2⟩ := closure_ex I.ok S
  rw [exec_Assign_Name_used _ _ _ _ hsw]
  refine wpAny_bind (wpAny_standAt (wpAny_bind ?_))
  show wpAny _ X.A (do let _ ← comprehension (.ListComp elt [⟨tg, iter, ifs, 0⟩] scope pos) scope X.env _ (newList []) false (eval iter X.env) (some (assign (.Name y py) X.env))) _ _ s
  refine wpAny_bind (wpAny_mono (wpAny_comprehension_free (use := some (assign (.Name y py) X.env)) (Q := fun _ s' => SP X pins D0 .next s') (cl := cl) rfl hs hcl S.kind S.names
    (thn (hi pins s σ H _ I h) fun v s1 h1 => thn h1 fun itv s2 h2 => ?_)) (fun _ s' hq => wpAny_pure (wpAny_pure hq)) fun _ _ e => e)
  obtain ⟨it, fp, tn, J, H2, e, I2, T, st2, f2, hw⟩ := h2
  subst e
  refine comp_block (RR := fun acc C => compPost (model X.prog X.w) X.A X.xe (some (assign (.Name y py) X.env)) (fun _ s' => SP X pins D0 .next s') acc C) S hc c1 c2 hg ht he I2 T st2 f2 hw fun D C H' s' fC I' hm q => ?_
  obtain ⟨m, hm⟩ := hm
  obtain ⟨g0, g1, _, g3, g4, g5⟩ := fC
  show wpAny _ X.A (assign (.Name y py) X.env (.ref D)) _ _ _
  refine wpAny_assign_Name (store_ok2 I' hN hix (.inl hy) (v := .ref D) rfl (fun s'' I'' sb => ?_) (.inr hy))
  obtain ⟨a, sb, ha⟩ := sb
  have hne : C ≠ a := by
    rcases ha with z | z
    · rw [z]; exact g1
    · exact fun z' => g4 y a z z'.symm
  refine ⟨m, hm.sameBut sb hne, fun h' sb' => ⟨_, H', I''.turned (t' := s''.toks) (fun b o hb e => (sb'.2 b hb).trans e) g0 g1 g3 g4 g5, q⟩⟩
end
end L2

set_option maxHeartbeats 4000000
namespace L2
open PySem PySem.Spec PyProof.Rows

/-! ### an exception under way: B holds all that stands still -/
structure FlyOk (P : Program) (w : World) (outer : List Env) (H : Hp) (s : Shared) (B : Heap) (p : Addr) (C a0 : Value) (H' : Hp) (s' : Shared) : Prop where
  os : s'.os = s.os
  bare : AllBare s'.gens
  hok : HOk P w H' B
  keep : ∀ b o, s.heap.get? b = some o → H b = none → b ∉ frs outer → B.get? b = some o ∧ H' b = none
  frame : ∀ b o, s.heap.get? b = some o → H b = none → b ∈ frs outer → (∃ sl, s'.heap.get? b = some { o with slots := sl }) ∧ H' b = none
  there : ∀ b o, s.heap.get? b = some o → H b ≠ none → ∃ o', B.get? b = some o'
  tups : ∀ b xs, H b = some (.tup xs) → H' b = some (.tup xs)
  frzs : ∀ b o u, H b = some (.frz o u) → H' b = some (.frz o u)
  tbls : ∀ b ps, H b = some (.tbl ps) → ∃ more, H' b = some (.tbl (ps ++ more))
  fl : Heap.FlyingW B outer p C a0 s'.heap
theorem FlyOk.un {P : Program} {w : World} {outer : List Env} {H : Hp} {s : Shared} {B : Heap} {p : Addr} {C a0 : Value} {H' : Hp} {s' : Shared} (F : FlyOk P w outer H s B p C a0 H' s') : Un (frs outer) [] H H' s.heap s'.heap where
  keep := fun b o e n hb _ => F.fl.1 b o (F.keep b o e n hb).1
  slot := fun b o e n hb _ => (F.frame b o e n hb).1
  free := fun b o e n _ => by
    by_cases hb : b ∈ frs outer
    · exact (F.frame b o e n hb).2
    · exact (F.keep b o e n hb).2
  there := fun b o e _ => by
    cases n : H b with
    | none =>
      by_cases hb : b ∈ frs outer
      · obtain ⟨⟨sl, q⟩, _⟩ := F.frame b o e n hb
        exact ⟨_, q⟩
      · exact ⟨o, F.fl.1 b o (F.keep b o e n hb).1⟩
    | some u =>
      obtain ⟨o', q⟩ := F.there b o e (by rw [n]; intro z; cases z)
      exact ⟨o', F.fl.1 _ _ q⟩
  tups := F.tups
  frzs := F.frzs
  tbls := F.tbls
theorem FlyOk.hok' {P : Program} {w : World} {outer : List Env} {H : Hp} {s : Shared} {B : Heap} {p : Addr} {C a0 : Value} {H' : Hp} {s' : Shared} (F : FlyOk P w outer H s B p C a0 H' s') : HOk P w H' s'.heap := F.hok.kept F.fl.1
/-- how an exception lies behind a call -/
def CXf (P : Program) (w : World) : CXT := fun outer H s E e s' => ∃ p C a0 B H', e = .ref p ∧ FlyOk P w outer H s B p C a0 H' s' ∧ E C none H'

section
variable {P : Program} {w : World} {K : PySem.W.Frag} {mg : Str → Option Value} {base : Heap} {N : List Str} {qual : Str} {scope : Scope} {f : Addr} {cd : Value} {A : Around} {outer : List Env} {s : Shared} {H : Hp} {E : XK}
/-- the frames hidden -/
abbrev hid (h : Heap) (l : List Env) : Heap := PySem.W.hideAll h (frs l)
theorem hok_hid {l : List Env} {H1 : Hp} {h : Heap} (ok : HOk P w H1 h) (nf : ∀ b ∈ frs l, H1 b = none) : HOk P w H1 (hid h l) := fun a o e => by
  refine (ok a o e).stay (fun b u hb q => PySem.W.hideAll_get _ q fun z => ?_) (fun _ q => q) fun _ _ q => q
  have n := nf b z
  rcases hb with rfl | hb
  · rw [n] at e; cases e
  · rw [n] at hb; cases hb
/-- raised here: what is wanted of it -/
theorem raise_xe {pins : List (Addr × Obj)} {σ : St} {H1 : Hp} {s1 : Shared} {h' : Heap} {e : Addr} {C : Value} {vs : List Value}
    (I : Inv (cxOf (CXf P w) P w K mg base N qual scope f cd A outer s H E) pins σ H1 s1) (hx : Heap.MadeExcOf s1.heap h' e C vs) (q : E C none H1) :
    (cxOf (CXf P w) P w K mg base N qual scope f cd A outer s H E).xe (.ref e) { s1 with heap := h' } := by
  have stk : frs (envOfC qual scope s.heap.objs.size f cd :: outer) = s.heap.objs.size :: frs outer := rfl
  have hfun := I.stack
  refine wpAny_leaves_madeW (base := hid s1.heap (envOfC qual scope s.heap.objs.size f cd :: outer)) (h := s1.heap) (L := s.heap.objs.size) I.ok.frames rfl (fun b o z => PySem.W.of_hideAll _ z)
    (PySem.W.funFrames_hide hfun fun env he b hb => List.mem_filterMap.mpr ⟨env, he, hb⟩) hx fun h2 t x1 x2 x3 x4 => ?_
  have inB : ∀ b o, s1.heap.get? b = some o → b ∉ frs outer → b < s.heap.objs.size → (hid s1.heap (envOfC qual scope s.heap.objs.size f cd :: outer)).get? b = some o := fun b o z hb hlt =>
    PySem.W.hideAll_get _ z fun m => by
      rw [stk] at m
      rcases List.mem_cons.mp m with z' | z'
      · exact absurd hlt (by rw [z']; exact Nat.lt_irrefl _)
      · exact hb z'
  refine ⟨e, C, .ref t, _, H1, rfl, ⟨I.os, I.bare, hok_hid I.hok I.stkFree, fun b o z n hb => ⟨inB b o (I.base.keep b o z n hb (by intro m; exact absurd (show b ∈ ([] : List Addr) from m) (by simp))) hb (Heap.lt_size z), I.base.free b o z n (by intro m; exact absurd (show b ∈ ([] : List Addr) from m) (by simp))⟩,
    fun b o z n hb => ⟨?_, I.base.free b o z n (by intro m; exact absurd (show b ∈ ([] : List Addr) from m) (by simp))⟩, fun b o z n => ?_, I.base.tups, I.base.frzs, I.base.tbls, x1⟩, q⟩
  · obtain ⟨sl, z1⟩ := I.base.slot b o z n hb (by intro m; exact absurd (show b ∈ ([] : List Addr) from m) (by simp))
    obtain ⟨_, o', ho', nd⟩ := I.ok.funs.mem hb
    have e' : o' = o := Option.some.inj (ho'.symm.trans z)
    subst e'
    obtain ⟨sl2, z2⟩ := x4 b _ (hx.keeps _ _ z1) nd
    exact ⟨sl2, z2⟩
  · have nfr : b ∉ frs (envOfC qual scope s.heap.objs.size f cd :: outer) := fun m => by
      rw [stk] at m
      rcases List.mem_cons.mp m with z' | z'
      · exact absurd (Heap.lt_size z) (by rw [z']; exact Nat.lt_irrefl _)
      · exact n (I.ok.frf b z')
    obtain ⟨o', z1⟩ := I.base.there b o z (by intro m; exact absurd (show b ∈ ([] : List Addr) from m) (by simp))
    exact ⟨o', PySem.W.hideAll_get _ z1 nfr⟩
/-- a callee's exception goes on through this frame -/
theorem passX {E' : XK} (hE : ∀ C d H', E' C d H' → E C d H') : Passes (CXf P w) (cxOf (CXf P w) P w K mg base N qual scope f cd A outer s H E) E' := by
  intro pins σ H1 s1 e s' I h
  obtain ⟨p, C, a0, B, H', rfl, F, q⟩ := h
  have stk : frs (envOfC qual scope s.heap.objs.size f cd :: outer) = s.heap.objs.size :: frs outer := rfl
  have noex : ∀ b : Addr, b ∉ (cxOf (CXf P w) P w K mg base N qual scope f cd A outer s H E).ex := fun b m => absurd (show b ∈ ([] : List Addr) from m) (by simp)
  have nst : ∀ b o, s.heap.get? b = some o → b ∉ frs outer → b ∉ frs (cxOf (CXf P w) P w K mg base N qual scope f cd A outer s H E).stack := fun b o z hb m => by
    have m' : b ∈ s.heap.objs.size :: frs outer := m
    rcases List.mem_cons.mp m' with z' | z'
    · exact absurd (Heap.lt_size z) (by rw [z']; exact Nat.lt_irrefl _)
    · exact hb z'
  show wpAny _ _ (leaving (envOfC qual scope s.heap.objs.size f cd) (.ref p)) _ _ s'
  refine wpAny_leaves_onW (outer := outer) (L := s.heap.objs.size) I.ok.frames rfl F.fl fun h2 x1 x2 => ?_
  refine ⟨p, C, a0, B, H', rfl, ⟨F.os.trans I.os, F.bare, F.hok, fun b o z n hb => ?_, fun b o z n hb => ?_, fun b o z n => ?_, fun b xs z => F.tups b xs (I.base.tups b xs z), fun b o u z => F.frzs b o u (I.base.frzs b o u z), fun b ps z => ?_, x1⟩, hE _ _ _ q⟩
  · exact F.keep b o (I.base.keep b o z n hb (noex b)) (I.base.free b o z n (noex b)) (nst b o z hb)
  · obtain ⟨sl, z1⟩ := I.base.slot b o z n hb (noex b)
    have hb' : b ∈ frs (cxOf (CXf P w) P w K mg base N qual scope f cd A outer s H E).stack := List.mem_cons_of_mem _ hb
    obtain ⟨⟨sl2, z2⟩, n2⟩ := F.frame b _ z1 (I.base.free b o z n (noex b)) hb'
    obtain ⟨_, o', ho', nd⟩ := I.ok.funs.mem hb
    have e' : o' = o := Option.some.inj (ho'.symm.trans z)
    subst e'
    obtain ⟨sl3, z3⟩ := x2 b _ z2 nd
    exact ⟨⟨sl3, z3⟩, n2⟩
  · obtain ⟨o', z1⟩ := I.base.there b o z (noex b)
    have hno : b ∉ frs outer := fun m => n (I.ok.frf b m)
    cases n1 : H1 b with
    | none => exact ⟨o', (F.keep b o' z1 n1 (nst b o z hno)).1⟩
    | some u => exact F.there b o' z1 (by rw [n1]; intro z'; cases z')
  · obtain ⟨m1, z1⟩ := I.base.tbls b ps z
    obtain ⟨m2, z2⟩ := F.tbls b _ z1
    exact ⟨m1 ++ m2, by rw [z2, Array.append_assoc]⟩
/-- exceptions noted on their way through a loop -/
theorem ownX : PassesOwn (model P w) (cxOf (CXf P w) P w K mg base N qual scope f cd A outer s H E).A (cxOf (CXf P w) P w K mg base N qual scope f cd A outer s H E).env (cxOf (CXf P w) P w K mg base N qual scope f cd A outer s H E).xe := by
  intro e s' h
  exact PassesOwn.leaving (M := model P w) (A := A.deeper (envOfC qual scope s.heap.objs.size f cd)) (env := envOfC qual scope s.heap.objs.size f cd) (Q₁ := fun e s'' => CXf P w outer H s E e s'') (E₁ := fun e' s'' => CXf P w outer H s E e' s'') e s' h
end
/-- no exception: a callee whose promise wants none -/
theorem passN {P : Program} {w : World} {X : Cx} : Passes (CXf P w) X E0 := fun _ _ _ _ _ _ _ h => by
  obtain ⟨_, _, _, _, _, _, _, q⟩ := h
  exact q.elim
end L2

set_option maxHeartbeats 4000000
namespace L2
open PySem PySem.Spec PyProof.Rows PySem.W

abbrev bmV : List Value := [.type "ValueError", .type "Exception", .type "BaseException", .type "object"]
/-- an own exception class under ValueError, as the top has made it -/
structure ECls (K : PySem.W.Frag) (C : Addr) : Prop where
  ex : PySem.W.excIn K C bmV "ValueError.__new__" = true
  kp : PySem.W.keepIn K (.ref C) = true
  ga : PySem.W.findIn K (.ref C) "__getattribute__" = some (some (.builtin "BaseException.__getattribute__"))
  gt : PySem.W.findIn K (.ref C) "__getattr__" = some none
  cl : PySem.W.findIn K (.ref C) "__class__" = some (some (.builtin "object.__class__"))
  mo : PySem.W.mroIn K C (.type "object") = some true
  mb : PySem.W.mroIn K C (.type "BaseException") = some true
  ty : (PySem.W.clsIn K C).isSome = true
theorem ecls_obj {K : PySem.W.Frag} {h : Heap} {C : Addr} {bmB : List Value} {newId : String} (X : K.In h) (q : PySem.W.excIn K C bmB newId = true) :
    ∃ bm N nm qn bs hdct sn sub ab col dd k0 k1 k2 k3 k5 mN, h.get? C = some (excClassObj nm qn C N bs bm hdct sn sub ab col dd k0 k1 k2 k3 k5 newId) ∧ h.Ns N mN ∧ mN "__init__" = none ∧ OwnTail h bmB bm := by
  unfold PySem.W.excIn at q
  split at q
  · rename_i dd cd sl ho
    split at q
    · rename_i C' bm k0 k1 k2 k3 n k5 hm hs
      simp only [Bool.and_eq_true, beq_iff_eq, Bool.not_eq_true'] at q
      obtain ⟨⟨⟨⟨⟨rfl, rfl⟩, hdel⟩, ht⟩, hok⟩, hni⟩ := q
      obtain ⟨nm, bs, mro, ns, qn, hd, sn, sub, ab, col, del⟩ := cd
      dsimp only at hm hdel hok hni
      subst hm hdel
      have hsl : sl = #[k0, k1, k2, k3, some (.builtin n), k5] := by
        obtain ⟨l⟩ := sl
        simp only at hs
        rw [hs]
      subst hsl
      exact ⟨bm, ns, nm, qn, bs, hd, sn, sub, ab, col, dd, k0, k1, k2, k3, k5, _, X _ _ ho, .of_isNs (isNs_of_in X hok), nsMap_none_of_in X hok hni, tail_of_in X ht⟩
    · cases q
  · cases q
/-- an exception of the class at C stands at p -/
def IsX (p : Addr) (C : Value) (h : Heap) : Prop := ∃ o, h.get? p = some o ∧ o.cls = C
abbrev excO (p : Addr) (C : Value) : HO := .ext (IsX p C)
theorem IsX.ok {P : Program} {w : World} {H : Hp} {h : Heap} {p : Addr} {C : Value} (x : IsX p C h) : ObjOk P w H h p (excO p C) :=
  ⟨x, (let ⟨o, e, _⟩ := x; ⟨o, e⟩), fun h1 h2 ⟨o, e, r⟩ k => ⟨o, k o e, r⟩⟩

theorem ObjOk.get {P : Program} {w : World} {H : Hp} {h : Heap} {a : Addr} {o : HO} (x : ObjOk P w H h a o) : ∃ u, h.get? a = some u := by
  cases o with
  | lst xs => obtain ⟨_, _, _, _, e⟩ := x; exact ⟨_, e⟩
  | tup xs => obtain ⟨_, _, _, ob, e, _⟩ := x; exact ⟨_, e⟩
  | dK kvs => obtain ⟨_, _, _, _, o, _, _, e, _⟩ := x; exact ⟨_, e⟩
  | dT kvs => obtain ⟨_, _, _, _, o, _, _, e, _⟩ := x; exact ⟨_, e⟩
  | set S n => obtain ⟨o, _, _, _, e, _⟩ := x; exact ⟨_, e⟩
  | ins C dx fs => obtain ⟨_, _, _, e, _⟩ := x; exact ⟨_, e⟩
  | own y => exact x
  | xd fs => obtain ⟨_, ⟨_, _, _, e, _⟩, _⟩ := x; exact ⟨_, e⟩
  | rng lo hi => obtain ⟨_, _, _, e⟩ := x; exact ⟨_, e⟩
  | frz ob u => obtain ⟨e, _⟩ := x; exact ⟨_, e⟩
  | tbl ps => exact ⟨_, (show h.get? a = some _ from x)⟩
  | met f y => exact ⟨_, (show h.get? a = some _ from x)⟩
  | ext φ => exact x.2.1
theorem HOk.freshN {P : Program} {w : World} {H : Hp} {h : Heap} {a : Addr} (x : HOk P w H h) (e : h.get? a = none) : H a = none := by
  cases q : H a with
  | none => rfl
  | some u => obtain ⟨o, z⟩ := (x a u q).get; rw [e] at z; cases z
theorem Inv.laidN {X : Cx} {pins : List (Addr × Obj)} {σ : St} {H : Hp} {s : Shared} {h' : Heap} {a : Addr} {o : HO} {t' : Nat} (I : Inv X pins σ H s) (k : ∀ b u, s.heap.get? b = some u → h'.get? b = some u) (hp : s.heap.get? a = none) (new : ObjOk X.prog X.w (upd H a o) h' a o) :
    Inv X pins σ (upd H a o) { s with heap := h', toks := t' } := by
  have hn := I.hok.freshN hp
  have ne : ∀ b u, s.heap.get? b = some u → b ≠ a := fun b u e z => by rw [z, hp] at e; cases e
  refine I.un ⟨fun b u e _ _ _ => k b u e, fun b u e _ _ _ => ⟨u.slots, k b u e⟩, fun b u e n _ => by rw [upd_ne (ne b u e)]; exact n, fun b u e _ => ⟨u, k b u e⟩, fun b xs e => by rw [upd_ne (ne_of_none e hn)]; exact e, fun b u v e => by rw [upd_ne (ne_of_none e hn)]; exact e, fun b ps e => ⟨#[], by rw [upd_ne (ne_of_none e hn), e]; simp⟩⟩ fun b u e => ?_
  by_cases hb : b = a
  · subst hb; rw [upd_same] at e; cases e; exact new
  · rw [upd_ne hb] at e
    exact (I.hok b u e).stay (fun c v _ q => k c v q) (fun c q => by rw [upd_ne (ne_of_none q hn)]; exact q) fun c xs q => by rw [upd_ne (ne_of_none q hn)]; exact q
section
variable {prog : Program} {w : World} {A : Around} {E : Value → Shared → Prop} {s : Shared} {K : PySem.W.Frag} {x C : Addr} {ox : Obj}
theorem type_at {M : Model} {h : Heap} (hx : h.get? x = some ox) (hc : ox.cls = .ref C) : PySem.W.Looks M h (typeOf (.ref x)) (.ref C) := hc ▸ (PySem.W.Looks.ld hx).andThen .now
open Builtin Builtin.ObjectAttr Builtin.Getset_descriptor in
theorem class_getX {tp : Value} {R : Result → Shared → Prop} (X : K.In s.heap) (hx : s.heap.get? x = some ox) (hc : ox.cls = .ref C) (hm : PySem.W.mroIn K C (.type "object") = some true)
    (h : R (.ok (.ret (.ref C))) s) : codeAny (model prog w) A (.call (.builtin "getset_descriptor.__get__") ⟨[.builtin "object.__class__", .ref x, tp], []⟩) R s := by
  obtain ⟨hh, g, dr, t, os⟩ := s
  have L0 := type_at (M := model prog w) hx hc
  have L1 := looks_mroIn (M := model prog w) X hm
  refine codeAny_call_builtin KF.slot_gs.plain KF.entry_gs (KF.slot_gs.check _ _ _ _ _ _ _ _ KF.type_class (KF.args_gs _ _ _) ?_)
  unfold Builtin.«getset_descriptor.__get__» descrGet
  rw [dga_obj]
  refine wpAny_bind (wpAny_pure ?_)
  unfold descrGetter descrCheckInstance descrNameAndClass isInstance
  simp only [KF.owner_class]
  repeat lk
  refine ⟨Code.quiet_builtin _ (by decide +kernel), codeAny_builtin KF.entry_class ?_⟩
  unfold Builtin.«object.__class__» shownTypeOf
  repeat lk
  exact h
theorem exc_matches {M : Model} {D : Addr} {b : Bool} {Q : Bool → Shared → Prop} {h : Heap} {g d t os} (X : K.In h) (TD : ECls K D) (hx : h.get? x = some ox) (hc : ox.cls = .ref C) (sub : PySem.W.subIn K (.ref C) (.ref D) = some b) (hq : Q b ⟨h, g, d, t, os⟩) :
    wpAny M A (excMatches (.ref x) (.ref D)) Q E ⟨h, g, d, t, os⟩ := by
  obtain ⟨bm, N, nm, qn, bs, hdct, sn, sub', ab, col, dd, k0, k1, k2, k3, k5, mN, hC, hN, hni, TL⟩ := ecls_obj X TD.ex
  have hcB : (Value.ref D :: bm).contains (.type "BaseException") = true := by rw [List.contains_cons, TL.hasType PySem.F.excBase_ValueError.hasBase, Bool.or_true]
  have L1 := looks_subIn (M := M) X sub
  have f := tc_notTuple
  unfold excMatches
  repeat (first | (with_reducible refine wpAny_loadPart_at hx ?_; rw [hc]) | with_reducible refine wpAny_loadPart_at hC ?_ | with_reducible refine L1.at ?_ | (with_reducible refine wpAny_isSubtype_exc hC ?_; rw [hcB]) | wp_step)
  cases b
  · repeat (first | exact hq | wp_step)
  · repeat (first | exact hq | wp_step)
theorem exc_entry {tk : Tok} {Q : Fin → Shared → Prop} {h : Heap} {g d t os} (T : ECls K C) (X : K.In h) (hx : h.get? x = some ox) (hc : ox.cls = .ref C) (hq : Q (.done (.ret (.ref C))) ⟨h, g, d, t, os⟩) :
    wpAny (model prog w) A (Builtin.«object.__getattribute__» ⟨[.ref x, .str "__class__" tk], []⟩) Q E ⟨h, g, d, t, os⟩ := by
  have f5 := F.typeOf_bexc_args
  have hT5 : (⟨h, g, d, t, os⟩ : Shared).TypeIs (.builtin "object.__class__") "getset_descriptor" := PySem.F.typeOf_object_class
  have f5' := PySem.F.typeOf_object_class
  have f6 := F.slot_gs_get.lookup
  have f7 := F.slot_gs_set.lookup
  have L1 := looks_findIn (M := model prog w) X T.cl
  repeat (any_goals (first | assumption | (with_reducible refine wpAny_loadPart_at hx ?_; rw [hc]) | with_reducible refine L1.at ?_ | wp_step))
  refine class_getX (s := ⟨h, g, d, t, os⟩) X hx hc T.mo ?_
  repeat (any_goals (first | assumption | wp_step))
theorem exc_check {M : Model} {nameV : Value} {Q : Unit → Shared → Prop} {h : Heap} {g d t os} (T : ECls K C) (X : K.In h) (hx : h.get? x = some ox) (hc : ox.cls = .ref C) (hq : Q () ⟨h, g, d, t, os⟩) :
    wpAny M A (checkBuiltinCall "BaseException.__getattribute__" ⟨[.ref x, nameV], []⟩) Q E ⟨h, g, d, t, os⟩ := by
  have hk : builtinKind "BaseException.__getattribute__" = some .slot := by decide +kernel
  have hsplit : splitId "BaseException.__getattribute__" = some ("BaseException", "__getattribute__") := by decide +kernel
  have ha := F.args_bexc_ga (.ref x) nameV
  have L1 := looks_mroIn (M := M) X T.mb
  simp only [checkBuiltinCall, hk, hsplit]
  refine wpAny_bind ?_
  · unfold isInstance
    repeat (first | (with_reducible refine wpAny_loadPart_at hx ?_; rw [hc]) | with_reducible refine L1.at ?_ | wp_step)
    exact hq
theorem exc_by {tk : Tok} {fill expr : Bool} {Q : Value → Shared → Prop} {h : Heap} {g d t os} (T : ECls K C) (X : K.In h) (hx : h.get? x = some ox) (hc : ox.cls = .ref C) (hq : Q (.ref C) ⟨h, g, d, t, os⟩) :
    wpAny (model prog w) A (getAttrBy (.ref x) (.str "__class__" tk) fill expr) Q E ⟨h, g, d, t, os⟩ := by
  have f3 := F.attr_ValueError.ga.bind (.ref x)
  have hx0 : (expr && onTheHeap (Value.builtin "BaseException.__getattribute__")) = false := by cases expr <;> rfl
  have hx2 : (Value.builtin "BaseException.__getattribute__" == Value.builtin "object.__getattribute__") = false := by decide +kernel
  have hx1 : (onTheHeap (Value.ref C) && Value.builtin "BaseException.__getattribute__" == Value.builtin "object.__getattribute__") = false := by rw [hx2]; rfl
  have L1 := looks_findIn (M := model prog w) X T.ga
  have L2 := looks_findIn (M := model prog w) X T.gt
  repeat (any_goals (first | assumption | (with_reducible refine wpAny_loadPart_at hx ?_; rw [hc]) | with_reducible refine L1.at ?_ | with_reducible refine L2.at ?_ | wp_step))
  refine codeAny_call_builtin F.attr_ValueError.ga.plain F.entry_bexc_ga (exc_check T X hx hc (exc_entry T X hx hc ?_))
  repeat (any_goals (first | assumption | wp_step))
theorem exc_attr {Q : Option Value → Shared → Prop} {h : Heap} {g d t os} (T : ECls K C) (X : K.In h) (hx : h.get? x = some ox) (hc : ox.cls = .ref C) (hq : Q (some (.ref C)) ⟨h, g, d, t + 1, os⟩) :
    wpAny (model prog w) A (getAttr? (.ref x) "__class__") Q E ⟨h, g, d, t, os⟩ := by
  unfold getAttr?
  repeat (any_goals (first | assumption | with_reducible apply exc_by T X hx hc | wp_step))
theorem kitx_exc (T : ECls K C) : PySem.W.KitX K (.ref x) (.ref C) (IsX x (.ref C)) where
  ty := fun _ _ _ ⟨o, e, c⟩ => type_at e c
  it := fun _ _ X _ => by
    obtain ⟨cdD, hcD⟩ := Option.isSome_iff_exists.mp T.ty
    unfold clsIn at hcD
    split at hcD
    · rename_i c' d' cd' sl' ho
      intro A' Q' E' s' k q
      unfold isType loadHead
      exact wpAny_bind (wpAny_loadPart (k _ _ (X _ _ ho)) (wpAny_pure q))
    · cases hcD
  ne := fun h tp dd its n sl X htp => by
    obtain ⟨cdD, hcD⟩ := Option.isSome_iff_exists.mp T.ty
    refine Bool.eq_false_iff.mpr fun q => ?_
    have e : C = tp := Value.ref.inj (beq_iff_eq.mp q)
    subst e
    unfold clsIn at hcD
    split at hcD
    · rename_i c' d' cd' sl' ho
      have z := (X _ _ ho).symm.trans htp
      cases z
    · cases hcD
  ca := fun {_ _ _ _ _ s} X ⟨o, e, c⟩ k => by
    obtain ⟨h, g, d, t, os⟩ := s
    exact exc_attr T X e c k
end

/-! ### isinstance of one class -/
section
variable {X : Cx}
/-- the classes' answers for a value: as the layer's, or an exception's -/
inductive TyX (K : PySem.W.Frag) (H : Hp) : V → Value → Prop where
  | of {v : V} {t : Value} (h : TyOf K H v t) : TyX K H v t
  | exc {p C : Addr} (T : ECls K C) (e : H p = some (excO p (.ref C))) : TyX K H (.ref p) (.ref C)
def rIsi (K : PySem.W.Frag) : List V → Hp → VK → Prop := fun xs H Q => ∃ x c cv t b, xs = [x, c] ∧ (c = .ty cv ∧ PySem.W.kitOne K t (.type cv) = some b) ∧ TyX K H x t ∧ Q (.bl b) H
theorem call_isi : CallR X (.builtin "isinstance") (rIsi X.K) := by
  intro pins s σ H xs us Q I r h
  obtain ⟨x, c, cv, t, b, rfl, ⟨rfl, e⟩, ty, q⟩ := h
  obtain ⟨u1, u2, rfl, r1, r2⟩ := r.two
  obtain rfl : u2 = Value.type cv := r2
  cases ty with
  | of ty => exact isinst_ok I r1 ty e fun tk => ⟨.bl b, H, I.tok tk, rfl, q⟩
  | @exc p C T ea =>
    obtain rfl : u1 = Value.ref p := r1
    have p1 : IsX p (.ref C) s.heap := (I.hok p _ ea).1
    exact PySem.W.kia_one (kitx_exc T) I.kIn p1 e (fun z => nomatch z) fun tk => ⟨.bl b, H, I.tok tk, rfl, q⟩
/-- .. of an own class -/
def rIsiC (K : PySem.W.Frag) : List V → Hp → VK → Prop := fun xs H Q => ∃ x c t b, xs = [x, .ref c] ∧ PySem.W.kitOne K t (.ref c) = some b ∧ TyX K H x t ∧ Q (.bl b) H
theorem call_isiC : CallR X (.builtin "isinstance") (rIsiC X.K) := by
  intro pins s σ H xs us Q I r h
  obtain ⟨x, c, t, b, rfl, e, ty, q⟩ := h
  obtain ⟨u1, u2, rfl, r1, r2⟩ := r.two
  obtain rfl : u2 = Value.ref c := r2
  cases ty with
  | of ty => exact isinst_ok I r1 ty e fun tk => ⟨.bl b, H, I.tok tk, rfl, q⟩
  | @exc p C T ea =>
    obtain rfl : u1 = Value.ref p := r1
    have p1 : IsX p (.ref C) s.heap := (I.hok p _ ea).1
    exact PySem.W.kia_one (kitx_exc T) I.kIn p1 e (fun z => nomatch z) fun tk => ⟨.bl b, H, I.tok tk, rfl, q⟩
end

/-! ### an exception is made -/
section
variable {X : Cx} {x : Str} {C : Addr} {np cpos pos : Pos} {e : Expr} {es : List Expr} {t : TA}
theorem made_isX {h h' : Heap} {p : Addr} {C : Value} {vs : List Value} (m : Heap.MadeExcOf h h' p C vs) : IsX p C h' := by
  obtain ⟨t, e, _⟩ := m.there
  exact ⟨_, e, rfl⟩
/-- C(..) as a value -/
def tXMake (C : Addr) (t : TA) : TE := fun σ H Q => t σ H fun vs H1 => vs.length ≤ sizeLine ∧ ∀ p, H1 p = none → Q (.ref p) (upd H1 p (excO p (.ref C)))
theorem run_xmake {pins : List (Addr × Obj)} {σ : St} {H : Hp} {s : Shared} {us : List Value} {Q : VK} (T : ECls X.K C) (I : Inv X pins σ H s) (hl : us.length ≤ sizeLine) (h : ∀ p, H p = none → Q (.ref p) (upd H p (excO p (.ref C)))) :
    wpAny (model X.prog X.w) X.A (call (.ref C) us) (EP X pins σ Q) X.xe s := by
  obtain ⟨bm, N, nm, qn, bs, hdct, sn, sub, ab, col, dd, k0, k1, k2, k3, k5, mN, hC, hN, hni, TL⟩ := ecls_obj I.kIn T.ex
  obtain ⟨hh, g, d, tk, os⟩ := s
  refine wpAny_call_exc_subT (hrest := hl) PySem.F.excBase_ValueError TL hC hN hni fun h' p m => ?_
  have hn : H p = none := I.hok.freshN m.new
  exact ⟨.ref p, upd H p (excO p (.ref C)), I.laidN (t' := tk) (fun b u e => m.keeps b u e) m.new (made_isX m).ok, rfl, h p hn⟩
/-- C(e, ..), C() -/
theorem pe_xmake (T : ECls X.K C) (hg : Gl X x) (hm : X.mg x = some (.ref C)) (ha : PA X (e :: es) t) (hdb : (x == ("__debug__" : Str)) = false := by decide) (he : starEach (e :: es) X.env = (false, eval e X.env) :: starEach es X.env := by rfl) (hpl : (backTo pos (starEach es X.env)).any (·.1) = false := by rfl) :
    PE X (.Call (.Name x np) (e :: es) [] pos) (tXMake C t) := by
  intro pins s σ H Q I h
  refine wpAny_Call_Name_kw (ld_glob I hg hm ?_ hdb)
  refine PySem.W.callWith_K (h₀ := X.base) I.ok.mod.kin T.kp (thn (ha pos pins s σ H _ I h) fun us s1 ⟨vs, H1, I1, r, hl, q⟩ => ⟨I1.kIn, ?_⟩) he hpl
  exact run_xmake (us := us) T I1 (by rw [← r.length]; exact hl) q
theorem pe_xmake0 (T : ECls X.K C) (hg : Gl X x) (hm : X.mg x = some (.ref C)) (hdb : (x == ("__debug__" : Str)) = false := by decide) : PE X (.Call (.Name x np) [] [] pos) (tXMake C tNil) := by
  intro pins s σ H Q I h
  refine wpAny_Call_Name_kw (ld_glob I hg hm ?_ hdb)
  exact PySem.W.callWith_K0 I.kIn T.kp (run_xmake (us := []) T I (Nat.zero_le _) h.2)
/-- raise C(e, ..): q is what is wanted of it -/
def tRaise (q : Hp → Prop) (t : TA) : TS := fun _ σ H => t σ H fun vs H1 => vs.length ≤ sizeLine ∧ q H1
theorem ps_raise {q : Hp → Prop} (hc : X.calm = true) (T : ECls X.K C) (hg : Gl X x) (hm : X.mg x = some (.ref C)) (ha : PA X (e :: es) t)
    (hxe : ∀ (pins : List (Addr × Obj)) (σ : St) (H1 : Hp) (s1 : Shared) (h' : Heap) (p : Addr) (vs : List Value), Inv X pins σ H1 s1 → Heap.MadeExcOf s1.heap h' p (.ref C) vs → q H1 → X.xe (.ref p) { s1 with heap := h' })
    (hdb : (x == ("__debug__" : Str)) = false := by decide) (he : starEach (e :: es) X.env = (false, eval e X.env) :: starEach es X.env := by rfl) (hpl : (backTo cpos (starEach (e :: es) X.env)).any (·.1) = false := by rfl) :
    PS X (.Raise (some (.Call (.Name x np) (e :: es) [] cpos)) none pos) (tRaise q t) := by
  intro pins s σ H D I h
  obtain ⟨bm, N, nm, qn, bs, hdct, sn, sub, ab, col, dd, k0, k1, k2, k3, k5, mN, hC, hN, hni, TL⟩ := ecls_obj I.ok.mod.kin T.ex
  refine wpAny_Raise_call_subT (C := C) (nm := nm) (q := qn) (N := N) (bs := bs) (bm := bm) (hdct := hdct) (sn := sn) (sub := sub) (ab := ab) (col := col) (dd := dd) (k0 := k0) (k1 := k1) (k2 := k2) (k3 := k3) (k5 := k5)
    PySem.F.excBase_ValueError (mN := mN) (TL.hasType PySem.F.excBase_ValueError.hasBase) (I.ok.hd hc) hpl hni (ld_glob I hg hm ⟨rfl, ?_⟩ hdb)
  have h1 := ha cpos pins s σ H _ I h
  rw [he] at h1 ⊢
  exact Calls.evalArgs_plain (wpAny_mono h1 (fun us s2 ⟨vs, H2, I2, r, hl, z⟩ => ⟨rfl, (by show us.length ≤ sizeLine; rw [← r.length]; exact hl), I2.bk _ _ hC, hN.keeps I2.bk, TL.keeps I2.bk, fun h' p m => hxe pins σ H2 s2 h' p us I2 m z⟩) fun _ _ y => y)
end
end L2

set_option maxHeartbeats 4000000
namespace L2
open PySem PySem.Spec PyProof.Rows PySem.W
theorem refs_of : ∀ {as : List Addr} {its : List Value}, Vals (as.map V.ref) its → its = as.map Value.ref
  | [], _, r => by cases r; rfl
  | a :: as, _, r => by
    cases r with
    | cons r rr =>
      obtain rfl := (show _ = Value.ref a from r)
      rw [refs_of rr]; rfl
section
variable {X : Cx}
/-! ### a range as a value, its list -/
theorem call_rangeV : CallR X (.type "range") (fun xs H Q => ∃ n, xs = [.int n] ∧ ∀ p, H p = none → Q (.ref p) (upd H p (.rng 0 n))) := by
  intro pins s σ H xs us Q I r h
  obtain ⟨n, rfl, q⟩ := h
  obtain ⟨u1, rfl, t, rfl⟩ := r.one
  refine call_range_1 ⟨.ref s.heap.objs.size, _, I.laid (o := .rng 0 n) (fun b u e => Heap.get?_push_of_some _ e) (Nat.le_refl _) ⟨_, _, _, Heap.get?_push_size _ rfl⟩, rfl, q _ I.fresh⟩
theorem call_listR (hc : X.calm = true) : CallR X (.type "list") (fun xs H Q => ∃ (p : Addr) (n : Nat), xs = [.ref p] ∧ H p = some (.rng 0 n) ∧ n ≤ 1000 ∧ ∀ l, H l = none → Q (.ref l) (upd H l (.lst ((List.range n).map fun (i : Nat) => V.int i)))) := by
  intro pins s σ H xs us Q I r h
  obtain ⟨p, n, rfl, e, hn, q⟩ := h
  obtain ⟨u1, rfl, r1⟩ := r.one
  obtain rfl : u1 = Value.ref p := r1
  obtain ⟨t, u, v, hp⟩ := (show ObjOk X.prog X.w H s.heap p (.rng 0 n) from I.hok p _ e)
  refine call_list_range (n := n) (I.ok.hd hc) (show IsRange s.heap p 0 n 1 t u v from hp) (small_one (by omega) (by omega) (by omega) (by omega)) (by rw [rangeSize_one]; split <;> omega) (by omega) fun h' tk acc c k g it => ?_
  obtain ⟨i1, i2⟩ := it
  refine ⟨.ref s.heap.objs.size, _, I.laidN (t' := tk) (o := .lst ((List.range n).map fun (i : Nat) => V.int i)) (fun b u e => k b u e) (Heap.get?_none_of_le (Nat.le_refl _)) ⟨?_, acc.toList, c, ?_, by simpa using g⟩, rfl, q _ I.fresh⟩
  · rw [List.length_map, List.length_range]
    exact Nat.le_trans hn (by decide)
  · have go : ∀ (m : Nat) (l : List Value), l.length = m → (∀ (j : Nat) v, l[j]? = some v → ∃ t, v = Value.int (0 + (j : Int) * 1) t) → Vals ((List.range m).map fun (i : Nat) => V.int i) l := by
      intro m
      induction m with
      | zero => intro l hl _; cases l with
        | nil => exact .nil
        | cons _ _ => cases hl
      | succ m ih =>
        intro l hl hv
        have hne : l ≠ [] := by intro z; rw [z] at hl; cases hl
        have el : l = l.dropLast ++ [l.getLast hne] := (List.dropLast_concat_getLast hne).symm
        rw [List.range_succ, List.map_append, el]
        have hdl : l.dropLast.length = m := by rw [List.length_dropLast, hl]; rfl
        refine Vals.append (ih _ hdl fun j v hj => hv j v ?_) (.cons ?_ .nil)
        · rw [el]
          have hj' : j < l.dropLast.length := (List.getElem?_eq_some_iff.mp hj).1
          rw [List.getElem?_append_left hj']
          exact hj
        · obtain ⟨t, ht⟩ := hv m (l.getLast hne) (by
            rw [List.getLast_eq_getElem, List.getElem?_eq_getElem (by omega : m < l.length)]
            simp [hl])
          exact ⟨t, by rw [ht]; simp⟩
    exact go n acc.toList (by simpa using i1) fun j v hj => i2 j v (by simpa using hj)
end
end L2

set_option maxHeartbeats 4000000
namespace L2
open PySem PySem.Spec PyProof.Rows PySem.W
/-! ### == and != of two lists -/
def allEq (e : V → V → Bool) : List V → List V → Bool
  | [], [] => true
  | x :: xs, y :: ys => e x y && allEq e xs ys
  | _, _ => false
theorem allEq_range {e : V → V → Bool} : ∀ {xs ys : List V}, xs.length = ys.length → allEq e xs ys = (List.range xs.length).all fun i => e (xs.getD i .non) (ys.getD i .non)
  | [], [], _ => rfl
  | x :: xs, y :: ys, h => by
    have h' : xs.length = ys.length := by simpa using h
    rw [allEq, allEq_range h', List.length_cons, List.range_succ_eq_map, List.all_cons, List.all_map]
    rfl
  | [], _ :: _, h => by simp at h
  | _ :: _, [], h => by simp at h
theorem allEq_len {e : V → V → Bool} : ∀ {xs ys : List V}, xs.length ≠ ys.length → allEq e xs ys = false
  | [], [], h => absurd rfl h
  | x :: xs, y :: ys, h => by
    have h' : xs.length ≠ ys.length := fun z => h (by simp [z])
    rw [allEq, allEq_len h', Bool.and_false]
  | [], _ :: _, _ => rfl
  | _ :: _, [], _ => rfl
section
variable {X : Cx}
/-- the items' own answers, in this heap -/
def ElEq (X : Cx) (H : Hp) (e : V → V → Bool) (x y : V) : Prop := ∀ (pins : List (Addr × Obj)) (s : Shared) (σ : St) (A : Around) (u v : Value), Inv X pins σ H s → A.units + 1 < cLine → RelV x u → RelV y v → SeqAt.EqAt A s u v (e x y)
theorem elEq_flat {H : Hp} {x y : V} (fx : flatV x = true) (fy : flatV y = true) : ElEq X H eqV x y := fun _ _ _ _ _ _ _ _ rx ry => eqAt_V rx ry fx fy
def rLEq (X : Cx) (neg : Bool) (e : V → V → Bool) : R2 := fun x y H Q => ∃ p q xs ys, x = .ref p ∧ y = .ref q ∧ SqL X.K H p xs ∧ SqL X.K H q ys ∧ (∀ i, i < xs.length → i < ys.length → ElEq X H e (xs.getD i .non) (ys.getD i .non)) ∧ Q (.bl (if neg then !allEq e xs ys else allEq e xs ys)) H
theorem items_eq {pins : List (Addr × Obj)} {s : Shared} {σ : St} {H : Hp} {A : Around} {e : V → V → Bool} {xs ys : List V} {us vs : List Value} (I : Inv X pins σ H s) (hu : A.units + 1 < cLine) (rx : Vals xs us) (ry : Vals ys vs)
    (he : ∀ i, i < xs.length → i < ys.length → ElEq X H e (xs.getD i .non) (ys.getD i .non)) : ∀ j (h1 : j < us.toArray.size) (h2 : j < vs.toArray.size), SeqAt.EqAt A s us.toArray[j] vs.toArray[j] (e (xs.getD j .non) (ys.getD j .non)) := by
  intro j h1 h2
  have j1 : j < xs.length := by rw [rx.length]; simpa using h1
  have j2 : j < ys.length := by rw [ry.length]; simpa using h2
  have e1 : xs[j]? = some (xs.getD j .non) := by rw [List.getD_eq_getElem?_getD, List.getElem?_eq_getElem j1]; rfl
  have e2 : ys[j]? = some (ys.getD j .non) := by rw [List.getD_eq_getElem?_getD, List.getElem?_eq_getElem j2]; rfl
  obtain ⟨u, hu1, ru⟩ := rx.get e1
  obtain ⟨v, hv1, rv⟩ := ry.get e2
  have eu : us.toArray[j] = u := by
    have : us[j]? = some us.toArray[j] := by simp at h1 ⊢
    rw [hu1] at this; exact (Option.some.inj this).symm
  have ev : vs.toArray[j] = v := by
    have : vs[j]? = some vs.toArray[j] := by simp at h2 ⊢
    rw [hv1] at this; exact (Option.some.inj this).symm
  rw [eu, ev]
  exact he j j1 j2 pins s σ A u v I hu ru rv
theorem op_neL {e : V → V → Bool} (hu : X.A.units + 2 < cLine) : OpR X (compareOp .NotEq) (rLEq X true e) := by
  intro pins s σ H x y v u Q I rx ry h
  obtain ⟨p, q, xs, ys, rfl, rfl, hp, hq, he, k⟩ := h
  obtain rfl : v = Value.ref p := rx
  obtain rfl : u = Value.ref q := ry
  obtain ⟨us, r1, p1, _⟩ := I.list hp
  obtain ⟨vs, r2, p2, _⟩ := I.list hq
  by_cases hl : xs.length = ys.length
  · refine SeqAt.RcNeAt.lists (e := fun i => e (xs.getD i .non) (ys.getD i .non)) p1.isList p2.isList (by simp only [List.size_toArray]; rw [← r1.length, ← r2.length]; exact hl) (by omega) (items_eq I (by show X.A.units + 1 + 1 < cLine; omega) r1 r2 he) _ _ _ _ ⟨.bl _, H, I, rfl, ?_⟩
    rw [show us.toArray.size = xs.length by rw [List.size_toArray, r1.length], ← allEq_range hl]
    exact k
  · refine SeqAt.RcNeAt.lists_lengths p1.isList p2.isList (by simp only [List.size_toArray]; rw [← r1.length, ← r2.length]; simpa using hl) (by omega) _ _ _ _ ⟨.bl _, H, I, rfl, ?_⟩
    have k' := k
    rw [allEq_len hl] at k'
    exact k'
theorem op_eqL {e : V → V → Bool} (hu : X.A.units + 2 < cLine) : OpR X (compareOp .Eq) (rLEq X false e) := by
  intro pins s σ H x y v u Q I rx ry h
  obtain ⟨p, q, xs, ys, rfl, rfl, hp, hq, he, k⟩ := h
  obtain rfl : v = Value.ref p := rx
  obtain rfl : u = Value.ref q := ry
  obtain ⟨us, r1, p1, _⟩ := I.list hp
  obtain ⟨vs, r2, p2, _⟩ := I.list hq
  by_cases hl : xs.length = ys.length
  · refine SeqAt.eq_listAt (e := fun i => e (xs.getD i .non) (ys.getD i .non)) p1.isList p2.isList (by simp only [List.size_toArray]; rw [← r1.length, ← r2.length]; exact hl) (by omega) (items_eq I (by show X.A.units + 1 + 1 < cLine; omega) r1 r2 he) ⟨.bl _, H, I, rfl, ?_⟩
    rw [show us.toArray.size = xs.length by rw [List.size_toArray, r1.length], ← allEq_range hl]
    exact k
  · refine SeqAt.eq_list_lengthsAt p1.isList p2.isList (by simp only [List.size_toArray]; rw [← r1.length, ← r2.length]; simpa using hl) (by omega) ⟨.bl _, H, I, rfl, ?_⟩
    have k' := k
    rw [allEq_len hl] at k'
    exact k'
theorem call_anyB (hc : X.calm = true) : CallR X (.builtin "any") (fun xs H Q => ∃ (p : Addr) (bs : List Bool), xs = [.ref p] ∧ SqL X.K H p (bs.map V.bl) ∧ Q (.bl (bs.any id)) H) := by
  intro pins s σ H xs us Q I r h
  obtain ⟨p, bs, rfl, hp, q⟩ := h
  obtain ⟨u1, rfl, r1⟩ := r.one
  obtain rfl : u1 = Value.ref p := r1
  obtain ⟨its, rv, pl, hz⟩ := I.list hp
  have hits : its = bs.map Value.bool := by
    have go : ∀ (bs : List Bool) (its : List Value), Vals (bs.map V.bl) its → its = bs.map Value.bool := by
      intro bs
      induction bs with
      | nil => intro its r; cases r; rfl
      | cons b bs ih =>
        intro its r
        cases r with
        | cons r rr =>
          obtain rfl := (show _ = Value.bool b from r)
          rw [ih _ rr]; rfl
    exact go bs its rv
  subst hits
  obtain ⟨ob, hob, _⟩ := id pl.isList
  have hlt : p < s.heap.objs.size := Heap.lt_size hob
  refine call_any_walk (wpAny_pyIter_list pl.isList ⟨s.heap.objs.size, _, _, _, _, _, fun i => bs.getD i false, rfl, Walks.list (show X.A.in1.handled = none from I.ok.hd hc) _ p (Nat.ne_of_lt hlt) _, ⟨⟨_, Heap.get?_push_size _ rfl, rfl, rfl⟩, pl.isList.push _⟩, fun i v s1 Q' E' hv hq => ?_, fun h' tk k => ?_⟩)
  · have hv' : (bs.map Value.bool)[i]? = some v := by simpa using hv
    rw [List.getElem?_map] at hv'
    cases eb : bs[i]? with
    | none => rw [eb] at hv'; cases hv'
    | some b =>
      rw [eb] at hv'
      obtain rfl : Value.bool b = v := Option.some.inj hv'
      have : bs.getD i false = b := by rw [List.getD_eq_getElem?_getD, eb]; rfl
      have hq' : Q' b s1 := by rw [← this]; exact hq
      exact wpAny_pure hq'
  · have keep : ∀ b o, s.heap.get? b = some o → h'.get? b = some o := fun b o e => k b o (by simpa using Nat.ne_of_lt (Heap.lt_size e)) (Heap.get?_push_of_some _ e)
    refine ⟨.bl (bs.any id), H, I.kept (t' := tk) keep, ?_, q⟩
    show Value.bool _ = Value.bool _
    congr 1
    have go : ∀ (bs : List Bool), ((List.range bs.length).any fun i => bs.getD i false) = bs.any id := by
      intro bs
      induction bs with
      | nil => rfl
      | cons b bs ih =>
        rw [List.length_cons, List.range_succ_eq_map, List.any_cons, List.any_map, List.any_cons, ← ih]
        rfl
    rw [← go bs]
    simp
theorem mt_join : MtR X "str.join" (fun x vs H Q => ∃ (z : Str) (p : Addr) (zs : List Str), x = .str z ∧ vs = [.ref p] ∧ SqL X.K H p (zs.map V.str) ∧ (zs.map (·.length)).sum + zs.length * z.length ≤ 16777216 ∧ Q (.str (Txt.join z zs)) H) := by
  intro pins s σ H x xs v us Q I rx r h
  obtain ⟨z, p, zs, rfl, rfl, hp, hz, q⟩ := h
  obtain ⟨t, rfl⟩ := rx
  obtain ⟨u1, rfl, r1⟩ := r.one
  obtain rfl : u1 = Value.ref p := r1
  obtain ⟨its, rv, pl, _⟩ := I.list hp
  have ss : StrsAre its zs := by
    have go : ∀ (zs : List Str) (its : List Value), Vals (zs.map V.str) its → StrsAre its zs := by
      intro zs
      induction zs with
      | nil => intro its r; cases r; exact .nil
      | cons b bs ih =>
        intro its r
        cases r with
        | cons r rr =>
          obtain ⟨t, rfl⟩ := r
          exact .cons _ _ (ih _ rr)
    exact go zs its rv
  exact join_list pl.isList (by simpa using ss) hz fun t' k => ⟨.str _, H, I.tok k, ⟨_, rfl⟩, q⟩
end
end L2

set_option maxHeartbeats 4000000
namespace L2
open PySem PySem.Spec PyProof.Rows

def blkName (sc scX : Scope) (y : Str × NameKind) : Bool := match y.2 with
  | .cell => false
  | .local => (match sc.names.lookup y.1 with | some .local => true | _ => false)
  | .free => (match scX.names.lookup y.1 with | some .cell => true | some .free => true | _ => false)
  | _ => true
def blkSrc (NB : List Str) (src : List (Option Nat)) (sc : Scope) (N : List Str) (i : Nat) : Bool := match NB[i]?, src[i]? with
  | some x, some (some j) => (N[j]? == some x) && (match sc.names.lookup x with | some .free => true | _ => false)
  | _, _ => true
def blkKind (sc : Scope) : Bool := match sc.kind with | .function => true | _ => false
def blkChk (NB : List Str) (src : List (Option Nat)) (sc scX : Scope) (N : List Str) : Bool :=
  blkKind sc && decide NB.Nodup && (src.length == NB.length) && (sc.names.all (blkName sc scX)) && (List.range NB.length).all (blkSrc NB src sc N)
theorem blk_of {NB : List Str} {src : List (Option Nat)} {sc : Scope} {X : Cx} (h : blkChk NB src sc X.env.scope X.N = true) : BlkScope NB src sc X := by
  unfold blkChk at h
  simp only [Bool.and_eq_true, decide_eq_true_eq, beq_iff_eq, List.all_eq_true] at h
  obtain ⟨⟨⟨⟨h1, h2⟩, h3⟩, h4⟩, h5⟩ := h
  refine ⟨?_, h2, h3, fun y hy z => ?_, fun y hy z => ?_, fun y hy z => ?_, fun i x j e1 e2 => ?_⟩
  · unfold blkKind at h1
    split at h1
    · assumption
    · cases h1
  · have := h4 y hy
    obtain ⟨n, k⟩ := y
    obtain rfl : k = .cell := z
    cases this
  · have := h4 y hy
    obtain ⟨n, k⟩ := y
    obtain rfl : k = .local := z
    dsimp only [blkName] at this ⊢
    split at this
    · assumption
    · cases this
  · have := h4 y hy
    obtain ⟨n, k⟩ := y
    obtain rfl : k = .free := z
    dsimp only [blkName] at this ⊢
    split at this
    · exact .inl (by assumption)
    · exact .inr (by assumption)
    · cases this
  · have hi : i < NB.length := (List.getElem?_eq_some_iff.mp e1).1
    have := h5 i (List.mem_range.mpr hi)
    unfold blkSrc at this
    rw [e1, e2] at this
    simp only [Bool.and_eq_true, beq_iff_eq] at this
    refine ⟨this.1, ?_⟩
    have t2 := this.2
    split at t2
    · assumption
    · cases t2

/-- a comprehension over a list: Pv by turn, the list so far, the block's values, the heap -/
theorem comp_list {K : PySem.W.Frag} {a D : Addr} {xs : List V} {g : TG} {tt : TT} {te : TE} {fin : Hp → Prop} {σB : St} {H0 : Hp} (Pv : Nat → List V → St → Hp → Prop) (h0 : Pv 0 [] σB H0)
    (hl : ∀ i ys σ H, i ≤ xs.length → Pv i ys σ H → SqL K H a xs)
    (hs : ∀ i x ys σ H (Kt : V → St → Hp → Prop) (Kf : St → Hp → Prop), xs[i]? = some x → Pv i ys σ H →
      (∀ v σ2 H4, H4 D = some (.lst ys) → ys.length < sizeLine → Pv (i + 1) (ys ++ [v]) σ2 (upd H4 D (.lst (ys ++ [v]))) → Kt v σ2 H4) → (∀ σ2 H3, Pv (i + 1) ys σ2 H3 → Kf σ2 H3) →
      g x σ H fun σ2 H2 => tt σ2 H2 fun b H3 => if b = true then te σ2 H3 fun v H4 => Kt v σ2 H4 else Kf σ2 H3)
    (hd : ∀ ys σ H, Pv xs.length ys σ H → fin H) : CompW (Itl K a) g tt te D fin σB H0 := by
  refine ⟨fun i m σ H => m = xs.length - i ∧ i ≤ xs.length ∧ ∃ ys, Pv i ys σ H, ⟨xs.length, by simp, Nat.zero_le _, [], h0⟩, ?_⟩
  rintro i m σ H ⟨rfl, hi, ys, p⟩
  have q := hl i ys σ H hi p
  by_cases hlt : i < xs.length
  · refine .inr ⟨⟨xs, xs[i], q, by simp [hlt]⟩, ?_⟩
    rintro x H' ⟨rfl, y⟩
    exact hs i x ys σ _ (fun v σ2 H4 => ∃ ys, H4 D = some (.lst ys) ∧ ys.length < sizeLine ∧ ∃ m', m' < xs.length - i ∧ m' = xs.length - (i + 1) ∧ i + 1 ≤ xs.length ∧ ∃ ys', Pv (i + 1) ys' σ2 (upd H4 D (.lst (ys ++ [v]))))
      (fun σ2 H3 => ∃ m', m' < xs.length - i ∧ m' = xs.length - (i + 1) ∧ i + 1 ≤ xs.length ∧ ∃ ys', Pv (i + 1) ys' σ2 H3) (y xs q) p
      (fun v σ2 H4 z1 z2 z3 => ⟨ys, z1, z2, _, by omega, rfl, hlt, _, z3⟩) (fun σ2 H3 z => ⟨_, by omega, rfl, hlt, _, z⟩)
  · have e : i = xs.length := by omega
    subst e
    exact .inl ⟨⟨xs, q, Nat.le_refl _⟩, hd ys σ H p⟩
/-- .. over a range -/
theorem comp_range {lo : Int} {n : Nat} {D : Addr} {g : TG} {tt : TT} {te : TE} {fin : Hp → Prop} {σB : St} {H0 : Hp} (Pv : Nat → List V → St → Hp → Prop) (h0 : Pv 0 [] σB H0)
    (hs : ∀ i ys σ H (Kt : V → St → Hp → Prop) (Kf : St → Hp → Prop), i < n → Pv i ys σ H →
      (∀ v σ2 H4, H4 D = some (.lst ys) → ys.length < sizeLine → Pv (i + 1) (ys ++ [v]) σ2 (upd H4 D (.lst (ys ++ [v]))) → Kt v σ2 H4) → (∀ σ2 H3, Pv (i + 1) ys σ2 H3 → Kf σ2 H3) →
      g (.int (lo + i)) σ H fun σ2 H2 => tt σ2 H2 fun b H3 => if b = true then te σ2 H3 fun v H4 => Kt v σ2 H4 else Kf σ2 H3)
    (hd : ∀ ys σ H, Pv n ys σ H → fin H) : CompW (Itr lo n) g tt te D fin σB H0 := by
  refine ⟨fun i m σ H => m = n - i ∧ i ≤ n ∧ ∃ ys, Pv i ys σ H, ⟨n, by simp, Nat.zero_le _, [], h0⟩, ?_⟩
  rintro i m σ H ⟨rfl, hi, ys, p⟩
  by_cases hlt : i < n
  · refine .inr ⟨hlt, ?_⟩
    rintro x H' ⟨rfl, rfl⟩
    exact hs i ys σ _ (fun v σ2 H4 => ∃ ys, H4 D = some (.lst ys) ∧ ys.length < sizeLine ∧ ∃ m', m' < n - i ∧ m' = n - (i + 1) ∧ i + 1 ≤ n ∧ ∃ ys', Pv (i + 1) ys' σ2 (upd H4 D (.lst (ys ++ [v]))))
      (fun σ2 H3 => ∃ m', m' < n - i ∧ m' = n - (i + 1) ∧ i + 1 ≤ n ∧ ∃ ys', Pv (i + 1) ys' σ2 H3) hlt p
      (fun v σ2 H4 z1 z2 z3 => ⟨ys, z1, z2, _, by omega, rfl, hlt, _, z3⟩) (fun σ2 H3 z => ⟨_, by omega, rfl, hlt, _, z⟩)
  · have e : i = n := by omega
    subst e
    exact .inl ⟨Nat.le_refl _, hd ys σ H p⟩
end L2

set_option maxHeartbeats 4000000
namespace L2
open PySem PySem.Spec PyProof.Rows

/-! ### lists of pairs as tables -/
section
variable {κ : Type} [DecidableEq κ]
def valV (kvs : List (κ × V)) (k : κ) : Option V := (kvs.find? fun kv => decide (kv.1 = k)).map (·.2)
/-- in its place, or at the end -/
def putK (kvs : List (κ × V)) (k : κ) (v : V) : List (κ × V) :=
  if (kvs.any fun kv => decide (kv.1 = k)) = true then kvs.map (fun kv => if kv.1 = k then (kv.1, v) else kv) else kvs ++ [(k, v)]
def dropK (kvs : List (κ × V)) (k : κ) : List (κ × V) := kvs.filter fun kv => decide (kv.1 ≠ k)

theorem valV_nil {k : κ} : valV ([] : List (κ × V)) k = none := rfl
theorem valV_pos {p : κ × V} {r : List (κ × V)} {k : κ} (e : p.1 = k) : valV (p :: r) k = some p.2 := by simp [valV, List.find?_cons, e]
theorem valV_neg {p : κ × V} {r : List (κ × V)} {k : κ} (e : ¬ p.1 = k) : valV (p :: r) k = valV r k := by simp [valV, List.find?_cons, e]
theorem valV_any (k : κ) : ∀ kvs : List (κ × V), (kvs.any fun kv => decide (kv.1 = k)) = (valV kvs k).isSome
  | [] => rfl
  | p :: r => by
    rw [List.any_cons]
    by_cases e : p.1 = k
    · simp only [valV_pos e, decide_eq_true e, Bool.true_or, Option.isSome_some]
    · rw [valV_neg e, decide_eq_false e, Bool.false_or]; exact valV_any k r
theorem valV_map (k j : κ) (y : V) : ∀ kvs : List (κ × V), valV (kvs.map fun kv => if kv.1 = k then (kv.1, y) else kv) j = (valV kvs j).map fun x => if j = k then y else x
  | [] => rfl
  | p :: r => by
    have ih := valV_map k j y r
    rw [List.map_cons]
    by_cases h : p.1 = k
    · rw [if_pos h]
      by_cases e : p.1 = j
      · rw [valV_pos (p := (p.1, y)) e, valV_pos e, Option.map_some, if_pos (e.symm.trans h)]
      · rw [valV_neg (p := (p.1, y)) e, valV_neg e, ih]
    · rw [if_neg h]
      by_cases e : p.1 = j
      · rw [valV_pos (p := p) e, valV_pos e, Option.map_some, if_neg (fun z => h (e.trans z))]
      · rw [valV_neg (p := p) e, valV_neg e, ih]
theorem valV_snoc (k j : κ) (y : V) : ∀ kvs : List (κ × V), valV kvs k = none → valV (kvs ++ [(k, y)]) j = if j = k then some y else valV kvs j
  | [], _ => by
    by_cases e : k = j
    · rw [if_pos e.symm]; exact valV_pos (p := (k, y)) e
    · rw [if_neg (fun z => e z.symm)]; exact valV_neg (p := (k, y)) e
  | p :: r, hn => by
    rw [List.cons_append]
    have hk : ¬ p.1 = k := fun z => by rw [valV_pos z] at hn; cases hn
    rw [valV_neg hk] at hn
    have ih := valV_snoc k j y r hn
    by_cases e : p.1 = j
    · rw [valV_pos e, valV_pos e, if_neg (fun z => hk (e.trans z))]
    · rw [valV_neg e, valV_neg e, ih]
theorem valV_put (kvs : List (κ × V)) (k j : κ) (y : V) : valV (putK kvs k y) j = if j = k then some y else valV kvs j := by
  unfold putK
  by_cases a : (kvs.any fun kv => decide (kv.1 = k)) = true
  · rw [if_pos a, valV_map]
    rw [valV_any] at a
    by_cases e : j = k
    · obtain ⟨x, hx⟩ := Option.isSome_iff_exists.mp a
      rw [if_pos e, e, hx, Option.map_some, if_pos rfl]
    · rw [if_neg e]
      cases valV kvs j with
      | none => rfl
      | some x => rw [Option.map_some, if_neg e]
  · rw [if_neg a]
    refine valV_snoc k j y kvs ?_
    rw [valV_any] at a
    cases q : valV kvs k with
    | none => rfl
    | some x => rw [q] at a; exact (a rfl).elim
theorem length_putK (kvs : List (κ × V)) (k : κ) (v : V) : (putK kvs k v).length ≤ kvs.length + 1 := by
  unfold putK
  split
  · rw [List.length_map]; omega
  · rw [List.length_append, List.length_cons, List.length_nil]; omega
theorem putK_new {kvs : List (κ × V)} {k : κ} (v : V) (h : valV kvs k = none) : putK kvs k v = kvs ++ [(k, v)] := by
  unfold putK
  rw [valV_any, h]
  exact if_neg (by decide)

theorem RelO.isSome_eq {o : Option V} {u : Option Value} (r : RelO o u) : o.isSome = u.isSome := by
  cases o with
  | none => cases u with
    | none => rfl
    | some _ => exact (show False from r).elim
  | some _ => cases u with
    | none => exact (show False from r).elim
    | some _ => rfl
theorem RelO.getD {o : Option V} {u : Option Value} {d : V} {d' : Value} (r : RelO o u) (rd : RelV d d') : RelV (o.getD d) (u.getD d') := by
  cases o with
  | none => cases u with
    | none => exact rd
    | some _ => exact (show False from r).elim
  | some _ => cases u with
    | none => exact (show False from r).elim
    | some _ => exact r

/-- raw tables of the same keys -/
theorem KV.val {kvs : List (κ × V)} {vs : List (κ × Value)} (r : KV kvs vs) (k : κ) : RelO (valV kvs k) (valueAt vs k) := by
  unfold KV at r
  induction r with
  | nil => exact True.intro
  | @cons p q ps qs h t ih =>
    obtain ⟨h1, h2⟩ := h
    by_cases e : p.1 = k
    · have e' : q.1 = k := h1.symm.trans e
      have b : valueAt (q :: qs) k = some q.2 := by simp [valueAt, List.find?_cons, e']
      rw [valV_pos e, b]; exact h2
    · have e' : ¬ q.1 = k := fun z => e (h1.trans z)
      have b : valueAt (q :: qs) k = valueAt qs k := by simp [valueAt, List.find?_cons, e']
      rw [valV_neg e, b]; exact ih
theorem KV.any {kvs : List (κ × V)} {vs : List (κ × Value)} (r : KV kvs vs) (k : κ) : (kvs.any fun kv => decide (kv.1 = k)) = vs.any fun kv => decide (kv.1 = k) := by
  unfold KV at r
  induction r with
  | nil => rfl
  | cons h t ih => rw [List.any_cons, List.any_cons, ih, h.1]
theorem KV.repl {kvs : List (κ × V)} {vs : List (κ × Value)} (r : KV kvs vs) (k : κ) {y : V} {u : Value} (ry : RelV y u) :
    KV (kvs.map fun kv => if kv.1 = k then (kv.1, y) else kv) (vs.map fun kv => if kv.1 = k then (kv.1, u) else kv) := by
  unfold KV at r ⊢
  induction r with
  | nil => exact .nil
  | @cons p q ps qs h t ih =>
    rw [List.map_cons, List.map_cons]
    refine .cons ?_ ih
    obtain ⟨h1, h2⟩ := h
    by_cases e : p.1 = k
    · rw [if_pos e, if_pos (h1.symm.trans e)]; exact ⟨h1, ry⟩
    · rw [if_neg e, if_neg (fun z => e (h1.trans z))]; exact ⟨h1, h2⟩
theorem KV.put {kvs : List (κ × V)} {vs : List (κ × Value)} (r : KV kvs vs) (k : κ) {y : V} {u : Value} (ry : RelV y u) : KV (putK kvs k y) (stored vs k u) := by
  unfold putK stored
  rw [r.any k]
  by_cases e : (vs.any fun kv => decide (kv.1 = k)) = true
  · rw [if_pos e, if_pos e]; exact r.repl k ry
  · rw [if_neg e, if_neg e]; exact Paired.snoc r ⟨rfl, ry⟩
theorem KV.drop {kvs : List (κ × V)} {vs : List (κ × Value)} (r : KV kvs vs) (k : κ) : KV (dropK kvs k) (without vs k) := by
  unfold KV at r ⊢
  unfold dropK without
  induction r with
  | nil => exact .nil
  | @cons p q ps qs h t ih =>
    obtain ⟨h1, h2⟩ := h
    rw [List.filter_cons, List.filter_cons]
    by_cases e : p.1 = k
    · have a : ¬ decide (p.1 ≠ k) = true := by simp [e]
      have b : ¬ decide (q.1 ≠ k) = true := by simp [h1.symm.trans e]
      rw [if_neg a, if_neg b]; exact ih
    · have e' : ¬ q.1 = k := fun z => e (h1.trans z)
      have a : decide (p.1 ≠ k) = true := by simp [e]
      have b : decide (q.1 ≠ k) = true := by simp [e']
      rw [if_pos a, if_pos b]; exact .cons ⟨h1, h2⟩ ih
theorem KV.keys {kvs : List (κ × V)} {vs : List (κ × Value)} (r : KV kvs vs) : kvs.map (·.1) = vs.map (·.1) := by
  unfold KV at r
  induction r with
  | nil => rfl
  | cons h t ih => rw [List.map_cons, List.map_cons, ih, h.1]
theorem KV.length {kvs : List (κ × V)} {vs : List (κ × Value)} (r : KV kvs vs) : kvs.length = vs.length := Paired.length r
theorem dropK_le (kvs : List (κ × V)) (k : κ) : (dropK kvs k).length ≤ kvs.length := List.length_filter_le _ _
end


/-! ### a tracked dict, its keys ints and texts or tuples of these -/
theorem kV_is {P : Program} {w : World} {k : Key} {u : Value} (r : RelV (kV k) u) : (mixKind P w).is k u = true := by
  cases k with
  | inl i => obtain ⟨t, e⟩ := (show ∃ t, u = Value.int i t from r); subst e; exact mixKind_int P w i t
  | inr x => obtain ⟨t, e⟩ := (show ∃ t, u = Value.str x t from r); subst e; exact mixKind_str P w x t
theorem kV_inj {a b : Key} (e : kV a = kV b) : a = b := by
  cases a with
  | inl i => cases b with
    | inl j => have e' : V.int i = V.int j := e; injection e' with e'; rw [e']
    | inr y => exact nomatch (show V.int i = V.str y from e)
  | inr x => cases b with
    | inl j => exact nomatch (show V.str x = V.int j from e)
    | inr y => have e' : V.str x = V.str y := e; injection e' with e'; rw [e']
theorem kVs_inj : ∀ {a b : List Key}, a.map kV = b.map kV → a = b
  | [], [], _ => rfl
  | [], _ :: _, e => by simp at e
  | _ :: _, [], e => by simp at e
  | x :: xs, y :: ys, e => by
    rw [List.map_cons, List.map_cons] at e
    injection e with e1 e2
    rw [kV_inj e1, kVs_inj e2]
theorem items_are {P : Program} {w : World} : ∀ {ks : List Key} {us : List Value}, Vals (ks.map kV) us → ItemsAre (mixKind P w) ks us
  | [], _, r => by rw [List.map_nil] at r; cases r; exact .nil
  | k :: ks, _, r => by
    rw [List.map_cons] at r
    cases r with
    | cons h t => exact .cons (kV_is h) (items_are t)

/-- raw entries of a dict with tuple keys -/
abbrev KT (H : Hp) : List (List Key × V) → List (List Key × Addr × Value) → Prop := Paired fun p q => p.1 = q.1 ∧ H q.2.1 = some (.tup (p.1.map kV)) ∧ RelV p.2 q.2.2
theorem KT.val {H : Hp} {kvs : List (List Key × V)} {xs : List (List Key × Addr × Value)} (r : KT H kvs xs) (k : List Key) : RelO (valV kvs k) ((atKey xs k).map (·.2)) := by
  induction r with
  | nil => exact True.intro
  | @cons p q ps qs h t ih =>
    obtain ⟨h1, _, h2⟩ := h
    by_cases e : p.1 = k
    · have e' : q.1 = k := h1.symm.trans e
      have b : atKey (q :: qs) k = some q.2 := by simp [atKey, List.find?_cons, e']
      rw [valV_pos e, b]; exact h2
    · have e' : ¬ q.1 = k := fun z => e (h1.trans z)
      have b : atKey (q :: qs) k = atKey qs k := by simp [atKey, List.find?_cons, e']
      rw [valV_neg e, b]; exact ih
theorem KT.repl {H : Hp} {kvs : List (List Key × V)} {xs : List (List Key × Addr × Value)} (r : KT H kvs xs) (k : List Key) {y : V} {u : Value} (ry : RelV y u) :
    KT H (kvs.map fun kv => if kv.1 = k then (kv.1, y) else kv) (xs.map (putAt k u)) := by
  induction r with
  | nil => exact .nil
  | @cons p q ps qs h t ih =>
    rw [List.map_cons, List.map_cons]
    refine .cons ?_ ih
    obtain ⟨h1, h2, h3⟩ := h
    unfold putAt
    by_cases e : p.1 = k
    · rw [if_pos e, if_pos (h1.symm.trans e)]; exact ⟨h1, h2, ry⟩
    · rw [if_neg e, if_neg (fun z => e (h1.trans z))]; exact ⟨h1, h2, h3⟩
theorem KT.put {H : Hp} {kvs : List (List Key × V)} {xs : List (List Key × Addr × Value)} (r : KT H kvs xs) (k : List Key) {b : Addr} {y : V} {u : Value} (hb : H b = some (.tup (k.map kV))) (ry : RelV y u) :
    KT H (putK kvs k y) (storedH xs k b u) := by
  have e : (kvs.any fun kv => decide (kv.1 = k)) = (atKey xs k).isSome := by
    rw [valV_any, (r.val k).isSome_eq, Option.isSome_map]
  unfold putK storedH
  rw [e]
  by_cases q : (atKey xs k).isSome = true
  · rw [if_pos q, if_pos q]; exact r.repl k ry
  · rw [if_neg q, if_neg q]; exact Paired.snoc r ⟨rfl, hb, ry⟩
theorem KT.keeps {H H' : Hp} {kvs : List (List Key × V)} {xs : List (List Key × Addr × Value)} (r : KT H kvs xs) (ht : ∀ b ys, H b = some (.tup ys) → H' b = some (.tup ys)) : KT H' kvs xs :=
  Paired.mapP r fun _ _ z => ⟨z.1, ht _ _ z.2.1, z.2.2⟩

section
variable {P : Program} {w : World} {H : Hp} {h : Heap} {a : Addr}
theorem rd_of {u : HO} (ok : HOk P w H h) (e : Rd H a u) : ObjOk P w H h a u := e.ok ok
theorem dk_rd {kvs : List (Key × V)} (ok : HOk P w H h) (e : Rd H a (.dK kvs)) : kvs.length ≤ sizeLine ∧ (a == sysModules) = false ∧ ∃ vs, KV kvs vs ∧ h.DictOf (mixKind P w) a vs :=
  show ObjOk P w H h a (.dK kvs) from rd_of ok e
theorem dk_of {kvs : List (Key × V)} (ok : HOk P w H h) (e : H a = some (.dK kvs)) : kvs.length ≤ sizeLine ∧ (a == sysModules) = false ∧ ∃ vs, KV kvs vs ∧ h.DictOf (mixKind P w) a vs := dk_rd ok (.inl e)
/-- a tracked tuple of ints and texts is a key -/
theorem key_of {ks : List Key} (ok : HOk P w H h) (e : H a = some (.tup (ks.map kV))) : (tupleKind (mixKind P w)).is h ks a := by
  obtain ⟨_, its, r, o, h1, h2, n, h3⟩ := (show ObjOk P w H h a (.tup (ks.map kV)) from ok a _ e)
  exact ⟨o, its.toArray, n, h1, h2, h3, by simpa using items_are r⟩
theorem dt_rd {kvs : List (List Key × V)} (ok : HOk P w H h) (e : Rd H a (.dT kvs)) : kvs.length ≤ sizeLine ∧ (a == sysModules) = false ∧
    ∃ xs, KT H kvs xs ∧ h.DictOfH (tupleKind (mixKind P w)) a xs := by
  obtain ⟨z, y, xs, r, o, es, ep, h1, h2, h3, h4, h5⟩ := (show ObjOk P w H h a (.dT kvs) from rd_of ok e)
  refine ⟨z, y, xs, r, o, es, ep, h1, h2, h3, h4, fun x hx => ?_, h5⟩
  have all : ∀ {l : List (List Key × V)} {m : List (List Key × Addr × Value)}, KT H l m → ∀ x ∈ m, (tupleKind (mixKind P w)).is h x.1 x.2.1 := by
    intro l m q
    induction q with
    | nil => intro x hx; exact nomatch hx
    | @cons p q ps qs hq t ih =>
      intro x hx
      rcases List.mem_cons.mp hx with e | hx
      · subst e
        exact key_of ok (by rw [← hq.1]; exact hq.2.1)
      · exact ih x hx
  exact all r x hx
theorem dt_of {kvs : List (List Key × V)} (ok : HOk P w H h) (e : H a = some (.dT kvs)) : kvs.length ≤ sizeLine ∧ (a == sysModules) = false ∧
    ∃ xs, KT H kvs xs ∧ h.DictOfH (tupleKind (mixKind P w)) a xs := dt_rd ok (.inl e)
end

/-- what the dict at a holds at the key y -/
def DGet (H : Hp) (a : Addr) (y : V) (r : Option V) : Prop :=
  (∃ kvs k, Rd H a (.dK kvs) ∧ y = kV k ∧ r = valV kvs k) ∨ ∃ kvs k b, Rd H a (.dT kvs) ∧ y = .ref b ∧ H b = some (.tup (k.map kV)) ∧ r = valV kvs k
/-- the heap behind a[y] = v -/
def DPut (H : Hp) (a : Addr) (y v : V) (H' : Hp) : Prop :=
  (∃ kvs k, H a = some (.dK kvs) ∧ y = kV k ∧ kvs.length < sizeLine ∧ H' = upd H a (.dK (putK kvs k v))) ∨
  ∃ kvs k b, H a = some (.dT kvs) ∧ y = .ref b ∧ H b = some (.tup (k.map kV)) ∧ kvs.length < sizeLine ∧ H' = upd H a (.dT (putK kvs k v))
theorem DGet.k {H : Hp} {a : Addr} {kvs : List (Key × V)} {k : Key} (e : H a = some (.dK kvs)) : DGet H a (kV k) (valV kvs k) := .inl ⟨kvs, k, .inl e, rfl, rfl⟩
theorem DGet.t {H : Hp} {a b : Addr} {kvs : List (List Key × V)} {k : List Key} (e : H a = some (.dT kvs)) (eb : H b = some (.tup (k.map kV))) : DGet H a (.ref b) (valV kvs k) := .inr ⟨kvs, k, b, .inl e, rfl, eb, rfl⟩
theorem DPut.k {H : Hp} {a : Addr} {kvs : List (Key × V)} {k : Key} {v : V} (e : H a = some (.dK kvs)) (hl : kvs.length < sizeLine) : DPut H a (kV k) v (upd H a (.dK (putK kvs k v))) := .inl ⟨kvs, k, e, rfl, hl, rfl⟩
theorem DPut.t {H : Hp} {a b : Addr} {kvs : List (List Key × V)} {k : List Key} {v : V} (e : H a = some (.dT kvs)) (eb : H b = some (.tup (k.map kV))) (hl : kvs.length < sizeLine) :
    DPut H a (.ref b) v (upd H a (.dT (putK kvs k v))) := .inr ⟨kvs, k, b, e, rfl, eb, hl, rfl⟩


section
variable {X : Cx} {pins : List (Addr × Obj)} {σ : St} {H : Hp} {s : Shared} {a : Addr} {y v : V} {u r : Value} {o : Option V} {A : Around} {E : Value → Shared → Prop}

theorem Inv.big (I : Inv X pins σ H s) : sysModules < s.heap.objs.size := by
  have h : mainGlobals < s.heap.objs.size := (I.mod.glob.keeps I.bk).lt
  exact Nat.lt_trans (by decide) h

/-- d[y], there -/
theorem d_getItem {Q : Value → Shared → Prop} (hu : A.units + 1 < cLine) (I : Inv X pins σ H s) (g : DGet H a y (some v)) (ry : RelV y u) (h : ∀ w' s', Inv X pins σ H s' → RelV v w' → Q w' s') :
    wpAny (model X.prog X.w) A (getItem (.ref a) u) Q E s := by
  rcases g with ⟨kvs, k, e, ey, l⟩ | ⟨kvs, k, b, e, ey, eb, l⟩
  · subst ey
    obtain ⟨z, hd, vs, rel, dd⟩ := dk_rd I.hok e
    obtain ⟨w', hw, rw'⟩ := RelO.some_of (v := v) (o := valueAt vs k) (by rw [l]; exact rel.val k)
    exact wpAny_getItem_of (kV_is ry) dd.mapOf hw (h w' _ (I.tok _) rw')
  · subst ey
    cases (show u = Value.ref b from ry)
    obtain ⟨z, hd, xs, rel, dd⟩ := dt_rd I.hok e
    obtain ⟨w', hw, rw'⟩ := RelO.some_of (v := v) (o := (atKey xs k).map (·.2)) (by rw [l]; exact rel.val k)
    obtain ⟨p, hp, hp2⟩ := Option.map_eq_some_iff.mp hw
    refine wpAny_getItem_heap (tupleKind_room_in1 hu) (key_of I.hok eb) dd hp ?_
    rw [hp2]
    exact h w' _ (I.tok _) rw'
/-- y in d -/
theorem d_in {Q : Value → Shared → Prop} (hu : A.units + 1 < cLine) (I : Inv X pins σ H s) (g : DGet H a y o) (ry : RelV y u) (h : ∀ s', Inv X pins σ H s' → Q (.bool o.isSome) s') :
    wpAny (model X.prog X.w) A (compareOp .In u (.ref a)) Q E s := by
  rcases g with ⟨kvs, k, e, ey, l⟩ | ⟨kvs, k, b, e, ey, eb, l⟩
  · subst ey
    obtain ⟨z, hd, vs, rel, dd⟩ := dk_rd I.hok e
    refine wpAny_in_of (kV_is ry) hd dd.mapOf ?_
    rw [← (rel.val k).isSome_eq, ← l]
    exact h _ (I.tok _)
  · subst ey
    cases (show u = Value.ref b from ry)
    obtain ⟨z, hd, xs, rel, dd⟩ := dt_rd I.hok e
    refine wpAny_in_heap (tupleKind_room_in1 hu) (key_of I.hok eb) hd dd ?_
    have q := (rel.val k).isSome_eq
    rw [Option.isSome_map] at q
    rw [← q, ← l]
    exact h _ (I.tok _)
theorem d_notIn {Q : Value → Shared → Prop} (hu : A.units + 1 < cLine) (I : Inv X pins σ H s) (g : DGet H a y o) (ry : RelV y u) (h : ∀ s', Inv X pins σ H s' → Q (.bool (!o.isSome)) s') :
    wpAny (model X.prog X.w) A (compareOp .NotIn u (.ref a)) Q E s := by
  rcases g with ⟨kvs, k, e, ey, l⟩ | ⟨kvs, k, b, e, ey, eb, l⟩
  · subst ey
    obtain ⟨z, hd, vs, rel, dd⟩ := dk_rd I.hok e
    refine wpAny_notIn_of (kV_is ry) hd dd.mapOf ?_
    rw [← (rel.val k).isSome_eq, ← l]
    exact h _ (I.tok _)
  · subst ey
    cases (show u = Value.ref b from ry)
    obtain ⟨z, hd, xs, rel, dd⟩ := dt_rd I.hok e
    refine wpAny_notIn_heap (tupleKind_room_in1 hu) (key_of I.hok eb) hd dd ?_
    have q := (rel.val k).isSome_eq
    rw [Option.isSome_map] at q
    rw [← q, ← l]
    exact h _ (I.tok _)
/-- a dict's object is replaced -/
theorem d_write {h' : Heap} {t' : Nat} {ob : HO} (I : Inv X pins σ H s) (mu : Mut (H a)) (hs : Heap.SameBut a s.heap h') (he : ∃ q, h'.get? a = some q) (new : ObjOk X.prog X.w (upd H a ob) h' a ob) :
    Inv X pins σ (upd H a ob) { s with heap := h', toks := t' } :=
  I.write (x := a) (e := a) mu (.inl rfl) (fun b q hb z => (hs.2 b hb).trans z) he new
theorem dk_new {P : Program} {w : World} {H' : Hp} {h' : Heap} {kvs : List (Key × V)} {vs : List (Key × Value)} (z : kvs.length ≤ sizeLine) (hd : (a == sysModules) = false) (rel : KV kvs vs) (dd : h'.DictOf (mixKind P w) a vs) :
    ObjOk P w H' h' a (.dK kvs) := ⟨z, hd, vs, rel, dd⟩
/-- d[y] = v -/
theorem d_setItem {H' : Hp} {Q : Unit → Shared → Prop} (hu : A.units + 1 < cLine) (I : Inv X pins σ H s) (g : DPut H a y v H') (ry : RelV y u) (rv : RelV v r) (h : ∀ s', Inv X pins σ H' s' → Q () s') :
    wpAny (model X.prog X.w) A (setItem (.ref a) u r) Q E s := by
  rcases g with ⟨kvs, k, e, ey, l, eH⟩ | ⟨kvs, k, b, e, ey, eb, l, eH⟩
  · subst ey eH
    obtain ⟨z, hd, vs, rel, dd⟩ := dk_of I.hok e
    have hz : vs.length ≤ sizeLine := by rw [← rel.length]; exact z
    have hl : (putK kvs k v).length ≤ sizeLine := by have := length_putK kvs k v; omega
    refine wpAny_setItem_pairs (hsz := hz) (kV_is ry) dd fun h' dd' hs => h _ ?_
    have he : ∃ q, h'.get? a = some q := let ⟨q, _, _, hq, _⟩ := dd'; ⟨q, hq⟩
    exact d_write I (by rw [e]; exact True.intro) hs he (dk_new hl hd (rel.put k rv) dd')
  · subst ey eH
    cases (show u = Value.ref b from ry)
    obtain ⟨z, hd, xs, rel, dd⟩ := dt_of I.hok e
    have hz : xs.length ≤ sizeLine := by rw [← Paired.length rel]; exact z
    have hl : (putK kvs k v).length ≤ sizeLine := by have := length_putK kvs k v; omega
    refine wpAny_setItem_heap (hsz := hz) (tupleKind_room_in1 hu) (key_of I.hok eb) dd fun h' dd' hs => h _ ?_
    obtain ⟨q, es, ep, hq, h2, h3, h4, _, h5⟩ := dd'
    refine d_write I (by rw [e]; exact True.intro) hs ⟨q, hq⟩ ⟨hl, hd, _, (rel.put k eb rv).keeps fun c ys ec => ?_, q, es, ep, hq, h2, h3, h4, h5⟩
    rw [upd_ne (ne_of ec e (fun z => nomatch z))]
    exact ec
end

section
variable {X : Cx} {pins : List (Addr × Obj)} {σ : St} {H : Hp} {s : Shared} {a : Addr} {kvs : List (Key × V)} {k : Key} {u : Value} {A : Around} {E : Value → Shared → Prop}
/-- del d[k] -/
theorem d_delItem {Q : Unit → Shared → Prop} (I : Inv X pins σ H s) (e : H a = some (.dK kvs)) (ry : RelV (kV k) u) (l : (valV kvs k).isSome = true) (h : ∀ s', Inv X pins σ (upd H a (.dK (dropK kvs k))) s' → Q () s') :
    wpAny (model X.prog X.w) A (delItem (.ref a) u) Q E s := by
  obtain ⟨z, hd, vs, rel, dd⟩ := dk_of I.hok e
  refine wpAny_delItem_slot dd.typeIs (by decide) PySem.F.slot_dict_delitem
    (call_meetsIn PySem.F.slot_dict_delitem dd.typeIs PySem.F.entry_dict_delitem (PySem.F.args_dict_delitem_2 _ _) (meets_dict_delitem_pairs (mixKind X.prog X.w) a (kV_is ry)) ⟨vs, dd, by rw [← rel.length]; exact z, by rw [← (rel.val k).isSome_eq]; exact l, fun h' dd' hs => h _ ?_⟩)
  have he : ∃ q, h'.get? a = some q := let ⟨q, _, _, hq, _⟩ := dd'; ⟨q, hq⟩
  exact d_write I (by rw [e]; exact True.intro) hs he (dk_new (Nat.le_trans (dropK_le kvs k) z) hd (rel.drop k) dd')
/-- d.pop(k[, x]), there -/
theorem d_pop {v : V} {more : List Value} {Q : Value → Shared → Prop} (I : Inv X pins σ H s) (e : H a = some (.dK kvs)) (ry : RelV (kV k) u) (l : valV kvs k = some v) (hm : more = [] ∨ ∃ x, more = [x])
    (h : ∀ w' s', Inv X pins σ (upd H a (.dK (dropK kvs k))) s' → RelV v w' → Q w' s') : wpAny (model X.prog X.w) A (call (.builtin "dict.pop") (.ref a :: u :: more)) Q E s := by
  obtain ⟨z, hd, vs, rel, dd⟩ := dk_of I.hok e
  obtain ⟨w', hw, rw'⟩ := RelO.some_of (v := v) (o := valueAt vs k) (by rw [← l]; exact rel.val k)
  have hp : (keyPart u).isSome = true := by
    cases k with
    | inl i => obtain ⟨t, q⟩ := (show ∃ t, u = Value.int i t from ry); subst q; rfl
    | inr x => obtain ⟨t, q⟩ := (show ∃ t, u = Value.str x t from ry); subst q; rfl
  have ha : argsOk "dict.pop" ⟨.ref a :: u :: more, []⟩ := by
    rcases hm with q | ⟨x, q⟩
    · subst q; exact PySem.F.args_dict_pop_2 _ _
    · subst q; exact PySem.F.args_dict_pop_3 _ _ _
  refine call_meetsIn PySem.F.slot_dict_pop dd.typeIs PySem.F.entry_dict_pop ha (meets_dict_pop_there (mixKind X.prog X.w) a (kV_is ry) more hm hp)
    ⟨vs, w', dd, by rw [← rel.length]; exact z, hw, fun h' dd' hs => h w' _ ?_ rw'⟩
  have he : ∃ q, h'.get? a = some q := let ⟨q, _, _, hq, _⟩ := dd'; ⟨q, hq⟩
  exact d_write I (by rw [e]; exact True.intro) hs he (dk_new (Nat.le_trans (dropK_le kvs k) z) hd (rel.drop k) dd')
/-- d.pop(k, x), not there -/
theorem d_popD {r : Value} {Q : Value → Shared → Prop} (I : Inv X pins σ H s) (e : H a = some (.dK kvs)) (ry : RelV (kV k) u) (l : valV kvs k = none) (h : ∀ s', Inv X pins σ H s' → Q r s') :
    wpAny (model X.prog X.w) A (call (.builtin "dict.pop") [.ref a, u, r]) Q E s := by
  obtain ⟨z, hd, vs, rel, dd⟩ := dk_of I.hok e
  have hn : valueAt vs k = none := RelO.none_of (by rw [← l]; exact rel.val k)
  have hp : (keyPart u).isSome = true := by
    cases k with
    | inl i => obtain ⟨t, q⟩ := (show ∃ t, u = Value.int i t from ry); subst q; rfl
    | inr x => obtain ⟨t, q⟩ := (show ∃ t, u = Value.str x t from ry); subst q; rfl
  exact call_meetsIn PySem.F.slot_dict_pop dd.typeIs PySem.F.entry_dict_pop (PySem.F.args_dict_pop_3 _ _ _) (meets_dict_pop_default (mixKind X.prog X.w) a (kV_is ry) hd hp r) ⟨vs, dd, hn, h _ (I.tok _)⟩
/-- d.clear() -/
theorem d_clear {Q : Value → Shared → Prop} (I : Inv X pins σ H s) (e : H a = some (.dK kvs)) (h : ∀ s', Inv X pins σ (upd H a (.dK [])) s' → Q .none s') : wpAny (model X.prog X.w) A (call (.builtin "dict.clear") [.ref a]) Q E s := by
  obtain ⟨z, hd, vs, rel, dd⟩ := dk_of I.hok e
  refine call_meetsIn PySem.F.slot_dict_clear dd.typeIs PySem.F.entry_dict_clear (PySem.F.args_dict_clear_1 _) (meets_dict_clear (mixKind X.prog X.w) a) ⟨vs, dd, by rw [← rel.length]; exact z, fun h' dd' hs => h _ ?_⟩
  have he : ∃ q, h'.get? a = some q := let ⟨q, _, _, hq, _⟩ := dd'; ⟨q, hq⟩
  exact d_write (t' := s.toks) I (by rw [e]; exact True.intro) hs he (dk_new (Nat.zero_le _) hd .nil dd')
/-- len(d) -/
theorem d_len {Q : Value → Shared → Prop} (I : Inv X pins σ H s) (e : Rd H a (.dK kvs)) (h : ∀ t s', Inv X pins σ H s' → Q (.int kvs.length t) s') : wpAny (model X.prog X.w) A (call (.builtin "len") [.ref a]) Q E s := by
  obtain ⟨z, hd, vs, rel, dd⟩ := dk_rd I.hok e
  refine call_len_dict hd dd (by rw [← rel.length]; rw [sizeLine_eq] at z; omega) ?_
  rw [← rel.length]
  exact h _ _ (I.tok _)
/-- if d -/
theorem d_truth {Q : Bool → Shared → Prop} (I : Inv X pins σ H s) (e : Rd H a (.dK kvs)) (h : ∀ s', Inv X pins σ H s' → Q (!kvs.isEmpty) s') : wpAny (model X.prog X.w) A (truthy (.ref a)) Q E s := by
  obtain ⟨z, hd, vs, rel, dd⟩ := dk_rd I.hok e
  refine wpAny_truthy_dict hd dd (by rw [← rel.length]; rw [sizeLine_eq] at z; omega) ?_
  have q : kvs.isEmpty = vs.isEmpty := by cases rel <;> rfl
  rw [← q]
  exact h _ (I.tok _)
end


/-! ### readings and rules -/
/-- the element of a subscription, not a slice -/
def NoSl (i : Expr) : Prop := ∀ ov iv, subscripted i false ov iv = operate [ov, iv] (getItem ov iv)
theorem subD_of {prog : Program} {w : World} {A : Around} {E : Value → Shared → Prop} {s : Shared} {env : Env} {value slice : Expr} {pos : Pos} {T id : String} {Q : Value → Shared → Prop}
    (hl : typeLookup (.type T) "__getitem__" = pure (some (.builtin id))) (hs : NoSl slice)
    (h : wpAny (model prog w) A (eval value env) (fun o s₁ => wpAny (model prog w) A (eval slice env) (fun i s₂ => s₂.TypeIs o T ∧ wpAny (model prog w) A (getItem o i) Q E s₂) E s₁) E s) :
    wpAny (model prog w) A (eval (.Subscript value slice pos) env) Q E s := by
  refine Subscript_ (wpAny_mono h (fun o s₁ h₁ => wpAny_mono h₁ (fun i s₂ h₂ => ?_) fun _ _ x => x) fun _ _ x => x)
  obtain ⟨hT, h₂⟩ := h₂
  unfold subscriptTail
  refine wpAny_bind ?_
  rw [getitemInPython_of_ne hT.not_modules]
  refine wpAny_bind (wpAny_specialOf hT hl ?_)
  have fin : wpAny (model prog w) A (subscripted slice false o i) (fun r s₃ => wpAny (model prog w) A (letTemporaryGo value o r >>= fun _ => pure r) Q E s₃) E s₂ := by
    rw [hs o i]
    exact wpAny_operating (wpAny_mono h₂ (fun r s₃ h₃ => wpAny_bind (wpAny_letTemporaryGo (wpAny_pure h₃))) fun _ _ x => x)
  first
    | exact wpAny_pure (wpAny_bind fin)
    | exact wpAny_bind (wpAny_pure (wpAny_bind fin))
    | exact wpAny_bind fin

theorem dict_typeIs {X : Cx} {pins : List (Addr × Obj)} {σ : St} {H : Hp} {s : Shared} {a : Addr} {y : V} {o : Option V} (I : Inv X pins σ H s) (g : DGet H a y o) : s.TypeIs (.ref a) "dict" := by
  rcases g with ⟨kvs, k, e, _, _⟩ | ⟨kvs, k, b, e, _, _, _⟩
  · obtain ⟨_, _, vs, _, dd⟩ := dk_rd I.hok e
    exact dd.typeIs
  · obtain ⟨_, _, xs, _, dd⟩ := dt_rd I.hok e
    exact dd.typeIs
theorem dict_noDict {X : Cx} {pins : List (Addr × Obj)} {σ : St} {H : Hp} {s : Shared} {a : Addr} {y : V} {o : Option V} (I : Inv X pins σ H s) (g : DGet H a y o) :
    ∀ b, Value.ref a = .ref b → ∃ ob, s.heap.get? b = some ob ∧ ob.dict = none := fun b q => by
  cases q
  rcases g with ⟨kvs, k, e, _, _⟩ | ⟨kvs, k, b, e, _, _, _⟩
  · obtain ⟨_, _, vs, _, ob, _, _, h1, h2, _⟩ := dk_rd I.hok e
    exact ⟨ob, h1, h2.2.1⟩
  · obtain ⟨_, _, xs, _, ob, _, _, h1, h2, _⟩ := dt_rd I.hok e
    exact ⟨ob, h1, h2.2.1⟩

/-- d[y] -/
def tDGet (td ty : TE) : TE := fun σ H Q => td σ H fun x H1 => ty σ H1 fun y H2 => ∃ a v, x = .ref a ∧ DGet H2 a y (some v) ∧ Q v H2
/-- y in d, y not in d -/
def tDIn (ty td : TE) : TE := fun σ H Q => ty σ H fun y H1 => td σ H1 fun x H2 => ∃ a o, x = .ref a ∧ DGet H2 a y o ∧ Q (.bl o.isSome) H2
def tDNotIn (ty td : TE) : TE := fun σ H Q => ty σ H fun y H1 => td σ H1 fun x H2 => ∃ a o, x = .ref a ∧ DGet H2 a y o ∧ Q (.bl (!o.isSome)) H2
/-- d[y] = v -/
def sDPut (td ty tv : TE) : TS := fun D σ H => tv σ H fun v H1 => td σ H1 fun x H2 => ty σ H2 fun y H3 => ∃ a H4, x = .ref a ∧ DPut H3 a y v H4 ∧ D.nx σ H4
/-- d[y] op= v -/
def sDAug (td ty tv : TE) (rd : V → V → Hp → VK → Prop) : TS := fun D σ H => td σ H fun x H1 => ty σ H1 fun y H2 => ∃ a v, x = .ref a ∧ DGet H2 a y (some v) ∧
  tv σ H2 fun y2 H3 => rd v y2 H3 fun z H4 => ∃ H5, DPut H4 a y z H5 ∧ D.nx σ H5
/-- del d[y] -/
def sDDel (td ty : TE) : TS := fun D σ H => td σ H fun x H1 => ty σ H1 fun y H2 => ∃ a kvs k, x = .ref a ∧ H2 a = some (.dK kvs) ∧ y = kV k ∧ (valV kvs k).isSome = true ∧ D.nx σ (upd H2 a (.dK (dropK kvs k)))

section
variable {X : Cx} {o i e value : Expr} {pos pos' tpos : Pos} {td ty tv : TE}
theorem pe_dget (hu : X.A.units + 1 < cLine) (ho : PE X o td) (hi : PE X i ty) (hs : NoSl i) : PE X (.Subscript o i pos) (tDGet td ty) := by
  intro pins s σ H Q I h
  refine subD_of PySem.F.slot_dict_getitem.lookup hs (thn (ho pins s σ H _ I h) fun u s1 ⟨x, H1, I1, rx, q1⟩ => thn (hi pins s1 σ H1 _ I1 q1) fun iv s2 ⟨y, H2, I2, ry, a, v, ex, g, q2⟩ => ?_)
  subst ex
  obtain rfl : u = Value.ref a := rx
  exact ⟨dict_typeIs I2 g, d_getItem hu I2 g ry fun w' s3 I3 rw' => ⟨v, H2, I3, rw', q2⟩⟩
theorem pc_din (hu : X.A.units + 1 < cLine) (hi : PE X i ty) (ho : PE X o td) : PC X .In i o (tDIn ty td) := by
  intro pins s σ H Q I h
  refine thn (hi pins s σ H _ I h) fun iv s1 ⟨y, H1, I1, ry, q1⟩ => thn (ho pins s1 σ H1 _ I1 q1) fun u s2 ⟨x, H2, I2, rx, a, ov, ex, g, q2⟩ => ?_
  subst ex
  obtain rfl : u = Value.ref a := rx
  exact d_in hu I2 g ry fun s3 I3 => ⟨.bl ov.isSome, H2, I3, rfl, q2⟩
theorem pc_dnotin (hu : X.A.units + 1 < cLine) (hi : PE X i ty) (ho : PE X o td) : PC X .NotIn i o (tDNotIn ty td) := by
  intro pins s σ H Q I h
  refine thn (hi pins s σ H _ I h) fun iv s1 ⟨y, H1, I1, ry, q1⟩ => thn (ho pins s1 σ H1 _ I1 q1) fun u s2 ⟨x, H2, I2, rx, a, ov, ex, g, q2⟩ => ?_
  subst ex
  obtain rfl : u = Value.ref a := rx
  exact d_notIn hu I2 g ry fun s3 I3 => ⟨.bl (!ov.isSome), H2, I3, rfl, q2⟩
theorem ps_dput (hu : X.A.units + 1 < cLine) (ho : PE X o td) (hi : PE X i ty) (hv : PE X value tv) (hs : swapsWith value (some (.Subscript o i pos')) pos.line X.env = pure false) :
    PS X (.Assign [.Subscript o i pos'] value pos) (sDPut td ty tv) := by
  intro pins s σ H D I h
  refine wpAny_Assign_Subscript (thn (hv pins s σ H _ I h) fun r s1 ⟨v, H1, I1, rv, q1⟩ => thn (ho pins s1 σ H1 _ I1 q1) fun u s2 ⟨x, H2, I2, rx, q2⟩ => thn (hi pins s2 σ H2 _ I2 q2) fun iv s3 ⟨y, H3, I3, ry, a, H4, ex, g, q3⟩ => ?_) hs
  subst ex
  obtain rfl : u = Value.ref a := rx
  exact d_setItem hu I3 g ry rv fun s4 I4 => ⟨σ, H4, I4, q3⟩
theorem ps_daug {op : Operator} {rd : V → V → Hp → VK → Prop} (hu : X.A.units + 1 < cLine) (ho : PE X o td) (hi : PE X i ty) (hv : PE X value tv) (hop : InOp X op rd)
    (ha : ∀ ov iv new, augStore i ov iv new = (do holding [new, ov, iv] (setItem ov iv new); release [new, ov, iv] []; pure .next)) : PS X (.AugAssign (.Subscript o i tpos) op value pos) (sDAug td ty tv rd) := by
  intro pins s σ H D I h
  refine wpAny_AugAssign_SubscriptAny (thn (ho pins s σ H _ I h) fun u s1 ⟨x, H1, I1, rx, q1⟩ => thn (hi pins s1 σ H1 _ I1 q1) fun iv s2 ⟨y, H2, I2, ry, a, v, ex, g, q2⟩ => ?_) ha
  subst ex
  obtain rfl : u = Value.ref a := rx
  refine d_getItem hu I2 g ry fun w' s3 I3 rw' => thn (hv pins s3 σ H2 _ I3 q2) fun w2 s4 ⟨y2, H3, I4, ry2, q3⟩ => thn (hop pins s4 σ H3 v y2 w' w2 _ I4 rw' ry2 q3) fun w3 s5 ⟨z, H4, I5, rz, H5, g5, q4⟩ => ?_
  exact d_setItem hu I5 g5 ry rz fun s6 I6 => ⟨σ, H5, I6, q4⟩
theorem ps_ddel (ho : PE X o td) (hi : PE X i ty) : PS X (.Delete [.Subscript o i tpos] pos) (sDDel td ty) := by
  intro pins s σ H D I h
  refine wpAny_Delete (wpAny_deleteEach_cons (wpAny_delete_Subscript (thn (ho pins s σ H _ I h) fun u s1 ⟨x, H1, I1, rx, q1⟩ => thn (hi pins s1 σ H1 _ I1 q1) fun iv s2 ⟨y, H2, I2, ry, a, kvs, k, ex, e, ey, l, q2⟩ => ?_)))
  subst ex ey
  obtain rfl : u = Value.ref a := rx
  exact d_delItem I2 e ry l fun s3 I3 => wpAny_deleteEach_nil ⟨σ, _, I3, q2⟩
end


/-! ### displays -/
theorem dk_empty {P : Program} {w : World} {H : Hp} (h : Heap) (hb : sysModules < h.objs.size) : ObjOk P w H (h.push { cls := .type "dict", data := .dict #[] }) h.objs.size (.dK []) :=
  ⟨Nat.zero_le _, beq_eq_false_iff_ne.mpr (Ne.symm (Nat.ne_of_lt hb)), [], .nil, Heap.DictOf.new h⟩
theorem dt_empty {P : Program} {w : World} {H : Hp} (h : Heap) (hb : sysModules < h.objs.size) : ObjOk P w H (h.push { cls := .type "dict", data := .dict #[] }) h.objs.size (.dT []) :=
  ⟨Nat.zero_le _, beq_eq_false_iff_ne.mpr (Ne.symm (Nat.ne_of_lt hb)), [], .nil, _, #[], 0, Heap.get?_push_size _ rfl, ⟨rfl, rfl, rfl⟩, rfl, rfl, List.nodup_nil⟩
/-- {}, to be a dict of the kind that is wanted -/
def tDNewK : TE := fun _ H Q => ∀ p, H p = none → Q (.ref p) (upd H p (.dK []))
def tDNewT : TE := fun _ H Q => ∀ p, H p = none → Q (.ref p) (upd H p (.dT []))
section
variable {X : Cx} {pos : Pos}
theorem pe_dnewK : PE X (.Dict [] [] pos) tDNewK := fun pins s σ H Q I h =>
  wpAny_Dict_empty ⟨.ref s.heap.objs.size, _, I.laid (a := s.heap.objs.size) (o := .dK []) (t' := s.toks) (fun _ _ q => Heap.get?_push_of_some _ q) (Nat.le_refl _) (dk_empty s.heap I.big), rfl, h _ (I.hok.fresh (Nat.le_refl _))⟩
theorem pe_dnewT : PE X (.Dict [] [] pos) tDNewT := fun pins s σ H Q I h =>
  wpAny_Dict_empty ⟨.ref s.heap.objs.size, _, I.laid (a := s.heap.objs.size) (o := .dT []) (t' := s.toks) (fun _ _ q => Heap.get?_push_of_some _ q) (Nat.le_refl _) (dt_empty s.heap I.big), rfl, h _ (I.hok.fresh (Nat.le_refl _))⟩
end

/-- the pairs of a display, from the left -/
def tPairs : List (TE × TE) → St → Hp → (List (V × V) → Hp → Prop) → Prop
  | [], _, H, Q => Q [] H
  | (tk, tv) :: r, σ, H, Q => tk σ H fun x H1 => tv σ H1 fun y H2 => tPairs r σ H2 fun ps H3 => Q ((x, y) :: ps) H3
abbrev VV : List (V × V) → List (Value × Value) → Prop := Paired fun p q => RelV p.1 q.1 ∧ RelV p.2 q.2
def PPs (X : Cx) (pos : Pos) (keys : List (Option Expr)) (values : List Expr) (trs : List (TE × TE)) : Prop :=
  ∀ (pins : List (Addr × Obj)) (s : Shared) (σ : St) (H : Hp) (Q : List (V × V) → Hp → Prop), Inv X pins σ H s → tPairs trs σ H Q →
    wpAny (model X.prog X.w) X.A (evalPairs (pairTrees keys values X.env pos)) (fun vs s' => ∃ ps H', Inv X pins σ H' s' ∧ VV ps vs ∧ Q ps H') X.xe s
theorem pps_nil {X : Cx} {pos : Pos} : PPs X pos [] [] [] := fun pins s σ H Q I h => pairTrees_nil_walk ⟨[], H, I, .nil, h⟩
theorem pps_cons {X : Cx} {pos : Pos} {k v : Expr} {ks : List (Option Expr)} {vs : List Expr} {tk tv : TE} {trs : List (TE × TE)} (hk : PE X k tk) (hv : PE X v tv) (hr : PPs X pos ks vs trs) :
    PPs X pos (some k :: ks) (v :: vs) ((tk, tv) :: trs) := fun pins s σ H Q I h =>
  pairTrees_cons_walk (thn (hk pins s σ H _ I h) fun u s1 ⟨x, H1, I1, rx, q1⟩ => thn (hv pins s1 σ H1 _ I1 q1) fun w2 s2 ⟨y, H2, I2, ry, q2⟩ =>
    thn (hr pins s2 σ H2 _ I2 q2) fun ws s3 ⟨ps, H3, I3, rel, q3⟩ => ⟨(x, y) :: ps, H3, I3, .cons ⟨rx, ry⟩ rel, q3⟩)

def mergeK (kvs more : List (Key × V)) : List (Key × V) := more.foldl (fun acc kv => putK acc kv.1 kv.2) kvs
theorem KV.merge : ∀ {more : List (Key × V)} {rs : List (Key × Value)} {kvs : List (Key × V)} {vs : List (Key × Value)}, KV more rs → KV kvs vs → KV (mergeK kvs more) (merged vs rs) := by
  intro more rs kvs vs r
  unfold KV at r
  induction r generalizing kvs vs with
  | nil => intro q; exact q
  | @cons p q ps qs h t ih =>
    intro r0
    have e : KV (putK kvs p.1 p.2) (stored vs q.1 q.2) := by
      have := r0.put p.1 h.2
      rw [← h.1]; exact this
    exact ih e
theorem length_mergeK : ∀ (more kvs : List (Key × V)), (mergeK kvs more).length ≤ kvs.length + more.length
  | [], kvs => by show kvs.length ≤ kvs.length + 0; omega
  | p :: r, kvs => by
    have h1 := length_mergeK r (putK kvs p.1 p.2)
    have h2 := length_putK kvs p.1 p.2
    show (mergeK (putK kvs p.1 p.2) r).length ≤ _
    rw [List.length_cons]; omega
theorem carries_of {P : Program} {w : World} : ∀ {kvs : List (Key × V)} {ws : List (Value × Value)}, VV (kvs.map fun kv => (kV kv.1, kv.2)) ws → ∃ rs, Carries (mixKind P w) ws rs ∧ KV kvs rs
  | [], _, r => by rw [List.map_nil] at r; cases r; exact ⟨[], True.intro, .nil⟩
  | p :: kvs, _, r => by
    rw [List.map_cons] at r
    cases r with
    | @cons a b as bs h t =>
      obtain ⟨rs, c, q⟩ := carries_of (P := P) (w := w) t
      obtain ⟨b1, b2⟩ := b
      exact ⟨(p.1, b2) :: rs, ⟨kV_is h.1, rfl, c⟩, .cons ⟨rfl, h.2⟩ q⟩
/-- {k: v, ..} with keys ints and texts; the new dict stands empty while the pairs are made -/
def tDisp (trs : List (TE × TE)) : TE := fun σ H Q => ∀ p, H p = none → tPairs trs σ (upd H p (.dK [])) fun ps H2 => H2 p = some (.dK []) ∧ ∃ kvs : List (Key × V), ps = kvs.map (fun kv => (kV kv.1, kv.2)) ∧ kvs.length ≤ 15 ∧ Q (.ref p) (upd H2 p (.dK (mergeK [] kvs)))
theorem pe_disp {X : Cx} {pos : Pos} {keys : List (Option Expr)} {values : List Expr} {trs : List (TE × TE)} (h : PPs X pos keys values trs) (hall : keys.all (·.isSome) = true) (hl : keys.length = values.length) (h0 : keys ≠ [])
    (h15 : keys.length ≤ 15) : PE X (.Dict keys values pos) (tDisp trs) := by
  intro pins s σ H Q I q
  have hn := I.hok.fresh (Nat.le_refl s.heap.objs.size)
  have I1 := I.laid (a := s.heap.objs.size) (o := .dK []) (h' := s.heap.push { cls := .type "dict", data := .dict #[] }) (t' := s.toks) (fun _ _ q => Heap.get?_push_of_some _ q) (Nat.le_refl _) (dk_empty s.heap I.big)
  refine wpAny_Dict_walk (knd := mixKind X.prog X.w) hall hl h0 h15 (thn (h pins _ σ _ _ I1 (q _ hn)) fun ws s2 ⟨ps, H2, I2, rel, e, kvs, ep, lk, q2⟩ => ?_)
  subst ep
  obtain ⟨rs, c, rk⟩ := carries_of (P := X.prog) (w := X.w) rel
  obtain ⟨z, hd, vs0, r0, dd⟩ := dk_of I2.hok e
  cases r0
  refine ⟨rs, c, dd, fun h' dd' hs => ⟨.ref s.heap.objs.size, _, ?_, rfl, q2⟩⟩
  have hz : (mergeK [] kvs).length ≤ sizeLine := by
    have h1 := length_mergeK kvs []
    rw [List.length_nil] at h1
    rw [sizeLine_eq]; omega
  have he : ∃ q, h'.get? s.heap.objs.size = some q := let ⟨q, _, _, hq, _⟩ := dd'; ⟨q, hq⟩
  exact d_write I2 (by rw [e]; exact True.intro) hs he (dk_new hz hd (rk.merge .nil) dd')


/-! ### methods -/
/-- a method call o.m(e) of a built-in, with one argument: what must be seen of the text -/
structure M1 (X : Cx) (o : Expr) (m : Str) (apos : Pos) (e : Expr) (cpos : Pos) : Prop where
  base : attributeBase o m X.env (eval o X.env) = eval o X.env
  few : ((backTo cpos (starEach [e] X.env)).all (fun x => !x.1) && (backToKw cpos (keywordEach [] X.env)).all (fun x => x.1.isSome)
    && decide (([e] : List Expr).length + ([] : List Keyword).length + (if ([] : List Keyword).isEmpty then 0 else 1) < 30)) = true
  line : (apos.endLine == cpos.line) = true
  trees : backTo cpos (starEach [e] X.env) = [(false, eval e X.env)]
structure M2 (X : Cx) (o : Expr) (m : Str) (apos : Pos) (e f : Expr) (cpos : Pos) : Prop where
  base : attributeBase o m X.env (eval o X.env) = eval o X.env
  few : ((backTo cpos (starEach [e, f] X.env)).all (fun x => !x.1) && (backToKw cpos (keywordEach [] X.env)).all (fun x => x.1.isSome)
    && decide (([e, f] : List Expr).length + ([] : List Keyword).length + (if ([] : List Keyword).isEmpty then 0 else 1) < 30)) = true
  line : (apos.endLine == cpos.line) = true
  trees : backTo cpos (starEach [e, f] X.env) = [(false, eval e X.env), (false, eval f X.env)]

/-- a is a dict, whatever its keys -/
def IsD (H : Hp) (a : Addr) : Prop := (∃ kvs, Rd H a (.dK kvs)) ∨ ∃ kvs, Rd H a (.dT kvs)
theorem isD_at {X : Cx} {pins : List (Addr × Obj)} {σ : St} {H : Hp} {s : Shared} {a : Addr} (I : Inv X pins σ H s) (d : IsD H a) :
    s.TypeIs (.ref a) "dict" ∧ (∀ b, Value.ref a = .ref b → ∃ ob, s.heap.get? b = some ob ∧ ob.dict = none) ∧ (a == sysModules) = false := by
  rcases d with ⟨kvs, e⟩ | ⟨kvs, e⟩
  · obtain ⟨_, hd, vs, _, dd⟩ := dk_rd I.hok e
    refine ⟨dd.typeIs, fun b q => ?_, hd⟩
    cases q
    obtain ⟨ob, _, _, h1, h2, _⟩ := dd
    exact ⟨ob, h1, h2.2.1⟩
  · obtain ⟨_, hd, xs, _, dd⟩ := dt_rd I.hok e
    refine ⟨dd.typeIs, fun b q => ?_, hd⟩
    cases q
    obtain ⟨ob, _, _, h1, h2, _⟩ := dd
    exact ⟨ob, h1, h2.2.1⟩

section
variable {X : Cx} {pins : List (Addr × Obj)} {σ : St} {H : Hp} {s : Shared} {a : Addr} {y d : V} {u r : Value} {o : Option V} {A : Around} {E : Value → Shared → Prop}
/-- d.get(y) -/
theorem d_get1 {Q : Value → Shared → Prop} (hu : A.units + 1 < cLine) (I : Inv X pins σ H s) (g : DGet H a y o) (ry : RelV y u) (h : ∀ w' s', Inv X pins σ H s' → RelV (o.getD .non) w' → Q w' s') :
    wpAny (model X.prog X.w) A (call (.builtin "dict.get") [.ref a, u]) Q E s := by
  rcases g with ⟨kvs, k, e, ey, l⟩ | ⟨kvs, k, b, e, ey, eb, l⟩
  · subst ey
    obtain ⟨z, hd, vs, rel, dd⟩ := dk_rd I.hok e
    refine call_meetsIn PySem.F.slot_dict_get dd.typeIs PySem.F.entry_dict_get (PySem.F.args_dict_get_2 _ _) (meets_dict_get (mixKind X.prog X.w) a (kV_is ry) hd) ⟨_, dd.mapOf, h _ _ (I.tok _) ?_⟩
    rw [l]
    exact (rel.val k).getD rfl
  · subst ey
    cases (show u = Value.ref b from ry)
    obtain ⟨z, hd, xs, rel, dd⟩ := dt_rd I.hok e
    refine call_meetsIn PySem.F.slot_dict_get dd.typeIs PySem.F.entry_dict_get (PySem.F.args_dict_get_2 _ _) (meetsH_dict_get (tupleKind (mixKind X.prog X.w)) a b hd) ⟨tupleKind_room_in1 hu, k, xs, key_of I.hok eb, dd, h _ _ (I.tok _) ?_⟩
    rw [l]
    exact (rel.val k).getD rfl
/-- d.get(y, x) -/
theorem d_get2 {Q : Value → Shared → Prop} (hu : A.units + 1 < cLine) (I : Inv X pins σ H s) (g : DGet H a y o) (ry : RelV y u) (rd : RelV d r) (h : ∀ w' s', Inv X pins σ H s' → RelV (o.getD d) w' → Q w' s') :
    wpAny (model X.prog X.w) A (call (.builtin "dict.get") [.ref a, u, r]) Q E s := by
  rcases g with ⟨kvs, k, e, ey, l⟩ | ⟨kvs, k, b, e, ey, eb, l⟩
  · subst ey
    obtain ⟨z, hd, vs, rel, dd⟩ := dk_rd I.hok e
    refine call_meetsIn PySem.F.slot_dict_get dd.typeIs PySem.F.entry_dict_get (PySem.F.args_dict_get_3 _ _ _) (meets_dict_get_default (mixKind X.prog X.w) a (kV_is ry) hd r) ⟨_, dd.mapOf, h _ _ (I.tok _) ?_⟩
    rw [l]
    exact (rel.val k).getD rd
  · subst ey
    cases (show u = Value.ref b from ry)
    obtain ⟨z, hd, xs, rel, dd⟩ := dt_rd I.hok e
    refine call_meetsIn PySem.F.slot_dict_get dd.typeIs PySem.F.entry_dict_get (PySem.F.args_dict_get_3 _ _ _) (meetsH_dict_get_default (tupleKind (mixKind X.prog X.w)) a b hd r) ⟨tupleKind_room_in1 hu, k, xs, key_of I.hok eb, dd, h _ _ (I.tok _) ?_⟩
    rw [l]
    exact (rel.val k).getD rd
end

def tDGet1 (td ty : TE) : TE := fun σ H Q => td σ H fun x H1 => ∃ a, x = .ref a ∧ IsD H1 a ∧ ty σ H1 fun y H2 => ∃ o, DGet H2 a y o ∧ Q (o.getD .non) H2
def tDGet2 (td ty tx : TE) : TE := fun σ H Q => td σ H fun x H1 => ∃ a, x = .ref a ∧ IsD H1 a ∧ ty σ H1 fun y H2 => tx σ H2 fun z H3 => ∃ o, DGet H3 a y o ∧ Q (o.getD z) H3
/-- d.pop(k): there; d.pop(k, x): there or not -/
def tDPop1 (td ty : TE) : TE := fun σ H Q => td σ H fun x H1 => ∃ a, x = .ref a ∧ IsD H1 a ∧ ty σ H1 fun y H2 => ∃ kvs k v, H2 a = some (.dK kvs) ∧ y = kV k ∧ valV kvs k = some v ∧ Q v (upd H2 a (.dK (dropK kvs k)))
def tDPop2 (td ty tx : TE) : TE := fun σ H Q => td σ H fun x H1 => ∃ a, x = .ref a ∧ IsD H1 a ∧ ty σ H1 fun y H2 => tx σ H2 fun z H3 => ∃ kvs k, H3 a = some (.dK kvs) ∧ y = kV k ∧
  (∀ v, valV kvs k = some v → Q v (upd H3 a (.dK (dropK kvs k)))) ∧ (valV kvs k = none → Q z H3)
section
variable {X : Cx} {o e f : Expr} {apos cpos : Pos} {td ty tx : TE}
theorem pe_dget1 (hu : X.A.units + 1 < cLine) (ho : PE X o td) (he : PE X e ty) (m : M1 X o "get" apos e cpos) : PE X (.Call (.Attribute o "get" apos) [e] [] cpos) (tDGet1 td ty) := by
  intro pins s σ H Q I h
  refine wpAny_Call_method m.base m.few m.line PySem.F.plainAttrs_dict PySem.F.slot_dict_get PySem.F.type_dict_get (thn (ho pins s σ H _ I h) fun u s1 ⟨x, H1, I1, rx, a, ex, d, q1⟩ => ?_)
  subst ex
  obtain rfl : u = Value.ref a := rx
  obtain ⟨t1, t2, _⟩ := isD_at I1 d
  refine ⟨t1, t2, ?_⟩
  rw [m.trees]
  refine Calls.callWith_builtin rfl (Calls.evalArgs_plain (Calls.spliced_cons (thn (he pins s1 σ H1 _ I1 q1) fun iv s2 ⟨y, H2, I2, ry, ov, g, q2⟩ => Calls.spliced_nil ?_)))
  exact d_get1 hu I2 g ry fun w' s3 I3 rw' => ⟨_, H2, I3, rw', q2⟩
theorem pe_dget2 (hu : X.A.units + 1 < cLine) (ho : PE X o td) (he : PE X e ty) (hf : PE X f tx) (m : M2 X o "get" apos e f cpos) : PE X (.Call (.Attribute o "get" apos) [e, f] [] cpos) (tDGet2 td ty tx) := by
  intro pins s σ H Q I h
  refine wpAny_Call_method m.base m.few m.line PySem.F.plainAttrs_dict PySem.F.slot_dict_get PySem.F.type_dict_get (thn (ho pins s σ H _ I h) fun u s1 ⟨x, H1, I1, rx, a, ex, d, q1⟩ => ?_)
  subst ex
  obtain rfl : u = Value.ref a := rx
  obtain ⟨t1, t2, _⟩ := isD_at I1 d
  refine ⟨t1, t2, ?_⟩
  rw [m.trees]
  refine Calls.callWith_builtin rfl (Calls.evalArgs_plain (Calls.spliced_cons (thn (he pins s1 σ H1 _ I1 q1) fun iv s2 ⟨y, H2, I2, ry, q2⟩ =>
    Calls.spliced_cons (thn (hf pins s2 σ H2 _ I2 q2) fun fv s3 ⟨z, H3, I3, rz, ov, g, q3⟩ => Calls.spliced_nil ?_))))
  exact d_get2 hu I3 g ry rz fun w' s4 I4 rw' => ⟨_, H3, I4, rw', q3⟩
theorem pe_dpop1 (ho : PE X o td) (he : PE X e ty) (m : M1 X o "pop" apos e cpos) : PE X (.Call (.Attribute o "pop" apos) [e] [] cpos) (tDPop1 td ty) := by
  intro pins s σ H Q I h
  refine wpAny_Call_method m.base m.few m.line PySem.F.plainAttrs_dict PySem.F.slot_dict_pop PySem.F.type_dict_pop (thn (ho pins s σ H _ I h) fun u s1 ⟨x, H1, I1, rx, a, ex, d, q1⟩ => ?_)
  subst ex
  obtain rfl : u = Value.ref a := rx
  obtain ⟨t1, t2, _⟩ := isD_at I1 d
  refine ⟨t1, t2, ?_⟩
  rw [m.trees]
  refine Calls.callWith_builtin rfl (Calls.evalArgs_plain (Calls.spliced_cons (thn (he pins s1 σ H1 _ I1 q1) fun iv s2 ⟨y, H2, I2, ry, kvs, k, v, ea, ey, l, q2⟩ => Calls.spliced_nil ?_)))
  subst ey
  exact d_pop I2 ea ry l (.inl rfl) fun w' s3 I3 rw' => ⟨v, _, I3, rw', q2⟩
theorem pe_dpop2 (ho : PE X o td) (he : PE X e ty) (hf : PE X f tx) (m : M2 X o "pop" apos e f cpos) : PE X (.Call (.Attribute o "pop" apos) [e, f] [] cpos) (tDPop2 td ty tx) := by
  intro pins s σ H Q I h
  refine wpAny_Call_method m.base m.few m.line PySem.F.plainAttrs_dict PySem.F.slot_dict_pop PySem.F.type_dict_pop (thn (ho pins s σ H _ I h) fun u s1 ⟨x, H1, I1, rx, a, ex, d, q1⟩ => ?_)
  subst ex
  obtain rfl : u = Value.ref a := rx
  obtain ⟨t1, t2, _⟩ := isD_at I1 d
  refine ⟨t1, t2, ?_⟩
  rw [m.trees]
  refine Calls.callWith_builtin rfl (Calls.evalArgs_plain (Calls.spliced_cons (thn (he pins s1 σ H1 _ I1 q1) fun iv s2 ⟨y, H2, I2, ry, q2⟩ =>
    Calls.spliced_cons (thn (hf pins s2 σ H2 _ I2 q2) fun fv s3 ⟨z, H3, I3, rz, kvs, k, ea, ey, q3, q4⟩ => Calls.spliced_nil ?_))))
  subst ey
  cases l : valV kvs k with
  | some v => exact d_pop I3 ea ry l (.inr ⟨fv, rfl⟩) fun w' s4 I4 rw' => ⟨v, _, I4, rw', q3 v l⟩
  | none => exact d_popD I3 ea ry l fun s4 I4 => ⟨z, H3, I4, rz, q4 l⟩
end

/-! ### dict(d): a copy -/
section
variable {X : Cx} {pins : List (Addr × Obj)} {σ : St} {H : Hp} {s : Shared} {a : Addr} {kvs : List (Key × V)} {A : Around} {E : Value → Shared → Prop}
theorem d_copyOf {Q : Value → Shared → Prop} (I : Inv X pins σ H s) (e : Rd H a (.dK kvs)) (h : ∀ p s', H p = none → Inv X pins σ (upd H p (.dK kvs)) s' → Q (.ref p) s') : wpAny (model X.prog X.w) A (call (.type "dict") [.ref a]) Q E s := by
  obtain ⟨z, hd, vs, rel, dd⟩ := dk_rd I.hok e
  refine kt_call_dict hd dd (by rw [← rel.length]; exact z) fun h' dd' hs => ?_
  refine h _ _ (I.hok.fresh (Nat.le_refl _)) (I.laid (a := s.heap.objs.size) (o := .dK kvs) (t' := s.toks) (fun b q hq => ?_) (Nat.le_refl _) (dk_new z (beq_eq_false_iff_ne.mpr (Ne.symm (Nat.ne_of_lt I.big))) rel dd'))
  exact (hs.2 b (Nat.ne_of_lt (Heap.lt_size hq))).trans (Heap.get?_push_of_some _ hq)
end


section
variable {X : Cx} {pins : List (Addr × Obj)} {σ : St} {H : Hp} {s : Shared} {a : Addr} {y : V} {u : Value} {A : Around} {E : Value → Shared → Prop}
/-- d[y], not there: a KeyError -/
theorem d_missing {Q : Value → Shared → Prop} (hu : A.units + 1 < cLine) (hh : A.handled = none) (I : Inv X pins σ H s) (g : DGet H a y none) (ry : RelV y u)
    (h : ∀ h' e t', Heap.NewExc s.heap h' e "KeyError" → E (.ref e) { s with heap := h', toks := t' }) : wpAny (model X.prog X.w) A (getItem (.ref a) u) Q E s := by
  rcases g with ⟨kvs, k, e, ey, l⟩ | ⟨kvs, k, b, e, ey, eb, l⟩
  · subst ey
    obtain ⟨z, hd, vs, rel, dd⟩ := dk_rd I.hok e
    have hn : valueAt vs k = none := RelO.none_of (by rw [l]; exact rel.val k)
    exact wpAny_getItem_missing_of (kV_is ry) hd hh dd.mapOf hn fun h' ex ne => h h' ex _ ne
  · subst ey
    cases (show u = Value.ref b from ry)
    obtain ⟨z, hd, xs, rel, dd⟩ := dt_rd I.hok e
    have hn : (atKey xs k).map (·.2) = none := RelO.none_of (by rw [l]; exact rel.val k)
    exact wpAny_getItem_missing_heap (tupleKind_room_in1 hu) (key_of I.hok eb) hd hh dd (Option.map_eq_none_iff.mp hn) fun h' ex ne => h h' ex _ ne
end
end L2

namespace L2
open PySem PySem.Spec PyProof.Rows
section
variable {X : Cx}
/-- len of a dict -/
theorem call_lenD : CallR X (.builtin "len") (fun xs H Q => ∃ a kvs, xs = [V.ref a] ∧ H a = some (.dK kvs) ∧ Q (.int kvs.length) H) := by
  intro pins s σ H xs us Q I r h
  obtain ⟨a, kvs, rfl, ha, q⟩ := h
  obtain ⟨u, rfl, ru⟩ := vals1 r
  cases ru
  exact d_len I (.inl ha) fun t s' I' => ⟨.int kvs.length, H, I', ⟨t, rfl⟩, q⟩
end
/-! ### a dict's pairs: keys that differ -/
section
variable {κ : Type} [DecidableEq κ]
theorem valV_not {kvs : List (κ × V)} {k : κ} (h : valV kvs k = none) : ¬ k ∈ kvs.map (·.1) := by
  intro m
  obtain ⟨p, hp, e⟩ := List.mem_map.mp m
  have q : (kvs.any fun kv => decide (kv.1 = k)) = true := List.any_eq_true.mpr ⟨p, hp, decide_eq_true e⟩
  rw [valV_any, h] at q
  exact absurd q (by simp)
theorem valV_in {kvs : List (κ × V)} {k : κ} {v : V} (h : valV kvs k = some v) : k ∈ kvs.map (·.1) := by
  have q : (kvs.any fun kv => decide (kv.1 = k)) = true := by
    rw [valV_any, h]
    all_goals rfl
  obtain ⟨p, hp, e⟩ := List.any_eq_true.mp q
  exact List.mem_map.mpr ⟨p, hp, of_decide_eq_true e⟩
theorem nd_snoc : ∀ {l : List κ} {k : κ}, l.Nodup → ¬ k ∈ l → (l ++ [k]).Nodup
  | [], k, _, _ => by simp
  | a :: r, k, h, hk => by
    obtain ⟨h1, h2⟩ := List.nodup_cons.mp h
    show (a :: (r ++ [k])).Nodup
    refine List.nodup_cons.mpr ⟨fun m => ?_, nd_snoc h2 fun m => hk (List.mem_cons.mpr (Or.inr m))⟩
    rcases List.mem_append.mp m with q | q
    · exact h1 q
    · exact hk (List.mem_cons.mpr (Or.inl (List.mem_singleton.mp q).symm))
theorem nd_putK {kvs : List (κ × V)} {k : κ} (v : V) (hn : (kvs.map (·.1)).Nodup) (h : valV kvs k = none) : ((putK kvs k v).map (·.1)).Nodup := by
  rw [putK_new v h, List.map_append]
  exact nd_snoc hn (valV_not h)
theorem dropK_pos {p : κ × V} {r : List (κ × V)} {k : κ} (e : p.1 = k) : dropK (p :: r) k = dropK r k := by
  unfold dropK
  rw [List.filter_cons, if_neg (by simp [e])]
theorem dropK_neg {p : κ × V} {r : List (κ × V)} {k : κ} (e : ¬ p.1 = k) : dropK (p :: r) k = p :: dropK r k := by
  unfold dropK
  rw [List.filter_cons, if_pos (by simp [e])]
theorem dropK_no : ∀ {kvs : List (κ × V)} {k : κ}, ¬ k ∈ kvs.map (·.1) → dropK kvs k = kvs
  | [], _, _ => rfl
  | p :: r, k, h => by
    have h' : ¬ k ∈ r.map (·.1) := fun m => by
      obtain ⟨q, hq, e⟩ := List.mem_map.mp m
      exact h (List.mem_map.mpr ⟨q, List.mem_cons.mpr (Or.inr hq), e⟩)
    rw [dropK_neg fun e => h (List.mem_map.mpr ⟨p, List.mem_cons.mpr (Or.inl rfl), e⟩), dropK_no h']
theorem dropK_mem {kvs : List (κ × V)} {k : κ} {p : κ × V} (h : p ∈ dropK kvs k) : p ∈ kvs := (List.mem_filter.mp h).1
theorem nd_dropK : ∀ {kvs : List (κ × V)} {k : κ}, (kvs.map (·.1)).Nodup → ((dropK kvs k).map (·.1)).Nodup
  | [], _, _ => List.nodup_nil
  | p :: r, k, h => by
    have h : (p.1 :: r.map (·.1)).Nodup := h
    obtain ⟨h1, h2⟩ := List.nodup_cons.mp h
    by_cases e : p.1 = k
    · rw [dropK_pos e]
      exact nd_dropK h2
    · rw [dropK_neg e]
      show (p.1 :: (dropK r k).map (·.1)).Nodup
      refine List.nodup_cons.mpr ⟨fun m => h1 ?_, nd_dropK h2⟩
      obtain ⟨q, hq, eq⟩ := List.mem_map.mp m
      exact List.mem_map.mpr ⟨q, dropK_mem hq, eq⟩
theorem dropK_len : ∀ {kvs : List (κ × V)} {k : κ}, (kvs.map (·.1)).Nodup → k ∈ kvs.map (·.1) → (dropK kvs k).length + 1 = kvs.length
  | [], _, _, m => by simp at m
  | p :: r, k, h, m => by
    have h : (p.1 :: r.map (·.1)).Nodup := h
    have m : k = p.1 ∨ k ∈ r.map (·.1) := List.mem_cons.mp m
    obtain ⟨h1, h2⟩ := List.nodup_cons.mp h
    by_cases e : p.1 = k
    · subst e
      rw [dropK_pos rfl, dropK_no h1]
      all_goals rfl
    · have m' : k ∈ r.map (·.1) := m.resolve_left fun z => e z.symm
      have q := dropK_len h2 m'
      rw [dropK_neg e, List.length_cons, List.length_cons]
      omega
end
end L2

set_option maxHeartbeats 4000000
namespace L2
open PySem PySem.Spec PyProof.Rows
section
variable {X : Cx}
/-! ### list.insert, .count, .remove -/
def rInsert : V → List V → Hp → VK → Prop := fun x vs H Q => ∃ (l : Addr) (xs : List V) (j : Int) (i : Nat) (y : V), x = .ref l ∧ vs = [.int j, y] ∧ j = i ∧ H l = some (.lst xs) ∧ i ≤ xs.length ∧ xs.length < 4096 ∧ Q .non (upd H l (.lst (xs.take i ++ [y] ++ xs.drop i)))
theorem mt_insert : MtM X "list.insert" rInsert := by
  intro pins s σ H x vs v us Q I rx rv h
  obtain ⟨l, xs, j, i, y, rfl, rfl, hj, hH, h1, h2, q⟩ := h
  cases rx
  obtain ⟨u1, u2, rfl, r1, r2⟩ := rv.two
  obtain ⟨t, rfl⟩ := r1
  obtain ⟨z, its, n, r, hl, e⟩ := I.lstM hH
  have hs : its.length < 4096 := by omega
  have a0 : 0 ≤ j := by omega
  have a1 : -(2 ^ 63 : Int) ≤ j := Int.le_trans (by decide) a0
  have a2 : j < 2 ^ 63 := Int.lt_of_le_of_lt (show j ≤ 4096 by omega) (by decide)
  have a3 : its.toArray.size ≤ sizeLine := by rw [List.size_toArray]; exact Nat.le_trans (Nat.le_of_lt hs) (by decide)
  have a4 : ¬ (!Builtin.List.listFitsIndex j) = true := by rw [fitsIndex_both a1 a2]; decide
  have M := AutoSeq1.list_insert_list_int_val_1 l its.toArray n j t u2 a4 a3
  refine call_meets F.slot_list_insert ⟨_, e, rfl⟩ F.entry_list_insert (F.args_list_insert_3 _ _ _) M ⟨e, ?_⟩
  refine ⟨.non, _, I.lset (its' := its.take i ++ [u2] ++ its.drop i) hH e ?_ (((r.take i).append (.cons r2 .nil)).append (r.drop i)) ?_, rfl, q⟩
  · have hk : (if j < 0 then (j + ((its.toArray.size : Nat) : Int)).toNat else min j.toNat its.toArray.size) = i := by
      rw [if_neg (by omega), List.size_toArray]
      omega
    show (its.toArray.extract 0 _).push u2 ++ its.toArray.extract _ = _
    rw [hk]
    simp
    exact List.take_of_length_le (by rw [List.length_drop]; omega)
  · simp only [List.length_append, List.length_take, List.length_drop, List.length_cons, List.length_nil]
    have : xs.length + 1 ≤ sizeLine := Nat.le_trans (by omega : xs.length + 1 ≤ 4096) (by decide)
    omega
theorem countP_eqU {x : V} : ∀ {xs : List V} {its : List Value}, Vals xs its → xs.all flatV = true → its.countP (eqU x) = xs.countP (fun z => eqV z x)
  | [], _, .nil, _ => rfl
  | y :: xs, _, .cons (b := u) r rr, f => by
    have fy : flatV y = true := by rw [List.all_cons, Bool.and_eq_true] at f; exact f.1
    have fx : xs.all flatV = true := by rw [List.all_cons, Bool.and_eq_true] at f; exact f.2
    have h1 : [u].any (eqU x) = [y].any (fun z => eqV z x) := any_eqU (.cons r .nil) (by simp [fy])
    have h2 : eqU x u = eqV y x := by simpa using h1
    rw [List.countP_cons, List.countP_cons, countP_eqU rr fx, h2]
def rCount : V → List V → Hp → VK → Prop := fun x vs H Q => ∃ (l : Addr) (xs : List V) (y : V), x = .ref l ∧ vs = [y] ∧ H l = some (.lst xs) ∧ flatV y = true ∧ xs.all flatV = true ∧ Q (.int (xs.countP fun z => eqV z y)) H
theorem mt_count : MtM X "list.count" rCount := by
  intro pins s σ H x vs v us Q I rx rv h
  obtain ⟨l, xs, y, rfl, rfl, hH, fy, fs, q⟩ := h
  cases rx
  obtain ⟨u, rfl, ru⟩ := rv.one
  obtain ⟨z, its, n, r, hl, e⟩ := I.lstM hH
  refine call_meets F.slot_list_count ⟨_, e, rfl⟩ F.entry_list_count (F.args_list_count_2 _ _) (SeqAt.list_countAt l its.toArray n none #[] u (eqU y)) ⟨e, fun w hw => mem_eqAt ru fy r fs w (by simpa using hw), ?_⟩
  refine ⟨.int _, H, I.tok _, ⟨s.toks, ?_⟩, q⟩
  rw [show its.toArray.toList = its by simp, countP_eqU r fs]
end
end L2

set_option maxHeartbeats 4000000
namespace L2
open PySem PySem.Spec PyProof.Rows
/-! ### enumerate of a list, its pairs unpacked -/
def Ite (K : PySem.W.Frag) (a : Addr) : It :=
  ⟨fun i H => ∃ xs x, SqL K H a xs ∧ xs[i]? = some x, fun i H x H' => ∃ p v, x = .ref p ∧ H p = none ∧ H' = upd H p (.tup [.int i, v]) ∧ ∀ xs, SqL K H a xs → xs[i]? = some v, fun i H => ∃ xs, SqL K H a xs ∧ xs.length ≤ i⟩
/-- two records of an iterator have turned, a tuple is new -/
theorem Inv.turned2 {X : Cx} {pins : List (Addr × Obj)} {σ : St} {H : Hp} {s : Shared} {h' : Heap} {e it p : Addr} {t' : Nat} {xs : List V} {its : List Value} (I : Inv X pins σ H s) (fe : FpOk X pins H e) (fi : FpOk X pins H it)
    (k : ∀ b o, b ≠ e → b ≠ it → s.heap.get? b = some o → h'.get? b = some o) (ke : ∃ o, h'.get? e = some o) (ki : ∃ o, h'.get? it = some o) (hp : s.heap.objs.size ≤ p) (hl : xs.length ≤ sizeLine) (r : Vals xs its)
    (ht : h'.get? p = some { cls := .type "tuple", data := .seq its.toArray }) : Inv X pins σ (upd H p (.tup xs)) { s with heap := h', toks := t' } := by
  have hn := I.hok.fresh hp
  obtain ⟨e0, e1, e2, e3, e4, e5⟩ := fe
  obtain ⟨i0, i1, i2, i3, i4, i5⟩ := fi
  have ne : ∀ b o, s.heap.get? b = some o → b ≠ p := fun b o q => Nat.ne_of_lt (Nat.lt_of_lt_of_le (Heap.lt_size q) hp)
  have keepN : ∀ b o, H b = some o → b ≠ e ∧ b ≠ it := fun b o q => ⟨(fun z => by rw [z, e0] at q; cases q), (fun z => by rw [z, i0] at q; cases q)⟩
  refine I.step (g' := s.gens) (d' := s.drawn) (ch := [e, it]) (fun b hb => ?_) (fun b o _ _ hb q _ => ?_) (fun b o _ _ hb q _ => ⟨o.slots, ?_⟩) (fun b o hb q n => by rw [upd_ne (ne b o q)]; exact n) (fun b o hb q => ⟨o, ?_⟩)
    (fun b ys q => by rw [upd_ne (ne_of_none q hn)]; exact q) (fun b o u q => by rw [upd_ne (ne_of_none q hn)]; exact q) (fun b ps q => ⟨#[], by rw [upd_ne (ne_of_none q hn), q]; simp⟩) (fun m hm => ?_) (fun b o q => ?_) I.bare
  · rcases List.mem_cons.mp hb with rfl | hb
    · exact ⟨e3, e1, e4, e5⟩
    · rw [List.mem_singleton.mp hb]; exact ⟨i3, i1, i4, i5⟩
  · exact k b o (fun z => hb (z ▸ List.mem_cons_self)) (fun z => hb (z ▸ List.mem_cons_of_mem _ List.mem_cons_self)) q
  · exact k b o (fun z => hb (z ▸ List.mem_cons_self)) (fun z => hb (z ▸ List.mem_cons_of_mem _ List.mem_cons_self)) q
  · exact k b o (fun z => hb (z ▸ List.mem_cons_self)) (fun z => hb (z ▸ List.mem_cons_of_mem _ List.mem_cons_self)) q
  · obtain ⟨o, es, ep, q, d, r'⟩ := hm
    exact ⟨o, es, ep, k _ _ e1.symm i1.symm q, d, r'⟩
  · by_cases hb : b = p
    · subst hb
      rw [upd_same] at q; cases q
      exact ⟨hl, its, r, _, ht, rfl, _, rfl⟩
    · rw [upd_ne hb] at q
      refine (I.hok b o q).stay (fun c u hc z => k c u ?_ ?_ z) (fun c z => by rw [upd_ne (ne_of_none z hn)]; exact z) fun c ys z => by rw [upd_ne (ne_of_none z hn)]; exact z
      · rcases hc with rfl | hc
        · exact (keepN _ _ q).1
        · exact (keepN _ _ hc).1
      · rcases hc with rfl | hc
        · exact (keepN _ _ q).2
        · exact (keepN _ _ hc).2
theorem turn_enum {P : Program} {w : World} {K : PySem.W.Frag} {es : List Expr} {x1 : Nat} {pos : Pos} (a e it : Addr) (hne : e ≠ it) :
    Turn P w K (.Tuple es x1 pos) (Ite K a) [e, it] e (fun i h => (∃ old, IsEnum h e it (i : Int) old) ∧ h.IsListIter it a i) where
  mem := by simp
  obj := fun i h st b hb => by
    obtain ⟨⟨old, he⟩, ⟨o, q, c, d⟩⟩ := st
    rcases List.mem_cons.mp hb with rfl | hb
    · exact ⟨_, he, fun v z => by
        have z' : Data.fields _ = Data.cell v := z
        cases z'⟩
    · rw [List.mem_singleton.mp hb]
      exact ⟨o, q, fun v z => by rw [d] at z; cases z⟩
  keep := fun i h h' st k => by
    obtain ⟨⟨old, he⟩, hi⟩ := st
    exact ⟨⟨old, k e (by simp) _ he⟩, hi.at fun o q => k it (by simp) o q⟩
  item := by
    intro X hP hw hK hc i pins s σ H E I hf st hg
    subst hP hw hK
    obtain ⟨xs, x, hq, hx⟩ := hg
    obtain ⟨its, rv, p, hz⟩ := I.list hq
    obtain ⟨u, hu, ru⟩ := rv.get hx
    obtain ⟨⟨old, he⟩, hi⟩ := st
    refine wpAny_pyNext_enum_item he hi p.isList (x := u) (by simpa using hu) hne fun h' ho hi' ht hsz k => ?_
    refine ⟨_, rfl, wpAny_letOwnedTupleGo_enum ho fun h2 he2 hs2 => ?_⟩
    have hpe : s.heap.objs.size ≠ e := Nat.ne_of_gt (Heap.lt_size he)
    have hi2 : h2.IsListIter it a (i + 1) := hi'.extBut hs2.extBut hne.symm
    have fe := hf e (by simp)
    have fi := hf it (by simp)
    have I2 : Inv X pins σ (upd H s.heap.objs.size (.tup [.int i, x])) { s with heap := h2, toks := s.toks + 1 } := by
      refine I.turned2 (its := [.int i s.toks, u]) fe fi (fun b o h1 h3 q => (hs2.2 b h1).trans (k b o h1 h3 q)) ⟨_, he2⟩ ?_ (Nat.le_refl _) (by show 2 ≤ sizeLine; decide) (.cons ⟨_, rfl⟩ (.cons ru .nil)) ((hs2.2 _ hpe).trans ht)
      obtain ⟨o, q, _⟩ := hi2
      exact ⟨o, q⟩
    refine ⟨.ref s.heap.objs.size, _, I2, rfl, ⟨_, x, rfl, I.hok.fresh (Nat.le_refl _), rfl, fun ys hy => by rw [I.list_inj hy hq]; exact hx⟩, ⟨⟨u, he2⟩, hi2⟩, fun b hb => ?_⟩
    have f0 := (hf b hb).1
    rw [upd_ne]
    · exact f0
    · rcases List.mem_cons.mp hb with rfl | hb
      · exact hpe.symm
      · rw [List.mem_singleton.mp hb]
        obtain ⟨o, q, _⟩ := hi
        exact Nat.ne_of_lt (Heap.lt_size q)
  done := by
    intro X hP hw hK hc i pins s σ H E I hf st hg
    subst hP hw hK
    obtain ⟨xs, hq, hx⟩ := hg
    obtain ⟨its, rv, p, hz⟩ := I.list hq
    obtain ⟨f0, f1, f2, f3, f4, f5⟩ := hf it (by simp)
    obtain ⟨⟨old, he⟩, hi⟩ := st
    have hl := rv.length
    exact wpAny_pyNext_enum_end (I.ok.hd hc) he hi p.isList (by simp; omega) fun h' eb => ⟨rfl, I.turned (t' := s.toks) (fun b o hb e => eb b o hb e) f0 f1 f3 f4 f5⟩
  self := fun _ _ _ _ _ st h => by
    obtain ⟨⟨old, he⟩, _⟩ := st
    exact wpAny_pyIter_enum he h
end L2

set_option maxHeartbeats 4000000
namespace L2
open PySem PySem.Spec PyProof.Rows
section
variable {X : Cx}
def iEnum (K : PySem.W.Frag) (ta : TA) : TI := fun σ H R => ta σ H fun vs H1 => ∃ a xs, vs = [.ref a] ∧ H1 a = some (.lst xs) ∧ R (Ite K a) H1
theorem pi_enum {es : List Expr} {x1 : Nat} {tpos : Pos} {a : Expr} {ta : TA} {p pos : Pos} (hg : Gl X "enumerate") (hm : X.mg "enumerate" = none) (ha : PA X [a] ta) (hs : starEach [a] X.env = [(false, eval a X.env)] := by rfl) :
    PI X (.Tuple es x1 tpos) (.Call (.Name "enumerate" p) [a] [] pos) (iEnum X.K ta) := by
  intro pins s σ H R I h
  refine Call_ (ld_blt I hg hm (by decide +kernel : bootBuiltins "enumerate" = some (.type "enumerate")) (PyProof.Rows.callWith_type1 (thn (ha pos pins s σ H _ I h) fun us s1 ⟨vs, H1, I1, r1, q1⟩ => ?_) hs rfl))
  obtain ⟨l, xs, rfl, hl, q⟩ := q1
  obtain ⟨u1, rfl, ru1⟩ := r1.one
  obtain rfl : u1 = Value.ref l := ru1
  obtain ⟨z, its, n, r, _, e⟩ := I1.lstM hl
  refine call_enumerate_1 e fun h' he hi hsz k => ?_
  have hne : s1.heap.objs.size + 1 ≠ s1.heap.objs.size := Nat.succ_ne_self _
  refine wpAny_pyIter_enum he ?_
  have I2 : Inv X pins σ H1 { s1 with heap := h' } := I1.kept (t' := s1.toks) k
  refine ⟨s1.heap.objs.size + 1, [s1.heap.objs.size + 1, s1.heap.objs.size], _, _, H1, rfl, I2, turn_enum l _ _ hne, ⟨⟨_, he⟩, hi⟩, fun b hb => ?_, q⟩
  have hb' : s1.heap.objs.size ≤ b := by
    rcases List.mem_cons.mp hb with rfl | hb
    · exact Nat.le_succ _
    · rw [List.mem_singleton.mp hb]; exact Nat.le_refl _
  exact I1.fpOk hb' (I1.hok.fresh hb')
theorem for_enum {K : PySem.W.Frag} {a : Addr} {xs : List V} {g : TG} {tb : TS} {D : Ends} {σ : St} {H : Hp} (Pv : Nat → St → Hp → Prop) (h0 : Pv 0 σ H) (hl : ∀ i σ H, i ≤ xs.length → Pv i σ H → SqL K H a xs)
    (hs : ∀ i x p σ H, xs[i]? = some x → Pv i σ H → H p = none → g (.ref p) σ (upd H p (.tup [.int i, x])) fun σ2 H2 => tb { D with nx := Pv (i + 1), ct := Pv (i + 1), bk := D.nx } σ2 H2) (hd : ∀ σ H, Pv xs.length σ H → D.nx σ H) :
    ∃ W : Nat → Nat → St → Hp → Prop, (∃ m, W 0 m σ H) ∧ ∀ i m σ H, W i m σ H →
      ((Ite K a).stop i H ∧ D.nx σ H) ∨ ((Ite K a).go i H ∧ ∃ N : St → Hp → Prop, (∀ σ' H', N σ' H' → ∃ m', m' < m ∧ W (i + 1) m' σ' H') ∧ ∀ x H', (Ite K a).yld i H x H' → g x σ H' fun σ2 H2 => tb { D with nx := N, ct := N, bk := D.nx } σ2 H2) := by
  refine ⟨fun i m σ H => m = xs.length - i ∧ i ≤ xs.length ∧ Pv i σ H, ⟨xs.length, by simp, Nat.zero_le _, h0⟩, ?_⟩
  rintro i m σ H ⟨rfl, hi, p⟩
  have q := hl i σ H hi p
  by_cases hlt : i < xs.length
  · refine .inr ⟨⟨xs, xs[i], q, by simp [hlt]⟩, Pv (i + 1), fun σ' H' p' => ⟨xs.length - (i + 1), by omega, rfl, hlt, p'⟩, fun x H' y => ?_⟩
    obtain ⟨pp, v, rfl, hn, rfl, hv⟩ := y
    exact hs i v pp σ _ (hv xs q) p hn
  · have e : i = xs.length := by omega
    subst e
    exact .inl ⟨⟨xs, q, Nat.le_refl _⟩, hd σ H p⟩
theorem comp_enum {K : PySem.W.Frag} {a D : Addr} {xs : List V} {g : TG} {tt : TT} {te : TE} {fin : Hp → Prop} {σB : St} {H0 : Hp} (Pv : Nat → List V → St → Hp → Prop) (h0 : Pv 0 [] σB H0)
    (hl : ∀ i ys σ H, i ≤ xs.length → Pv i ys σ H → SqL K H a xs)
    (hs : ∀ i x p ys σ H (Kt : V → St → Hp → Prop) (Kf : St → Hp → Prop), xs[i]? = some x → Pv i ys σ H → H p = none →
      (∀ v σ2 H4, H4 D = some (.lst ys) → ys.length < sizeLine → Pv (i + 1) (ys ++ [v]) σ2 (upd H4 D (.lst (ys ++ [v]))) → Kt v σ2 H4) → (∀ σ2 H3, Pv (i + 1) ys σ2 H3 → Kf σ2 H3) →
      g (.ref p) σ (upd H p (.tup [.int i, x])) fun σ2 H2 => tt σ2 H2 fun b H3 => if b = true then te σ2 H3 fun v H4 => Kt v σ2 H4 else Kf σ2 H3)
    (hd : ∀ ys σ H, Pv xs.length ys σ H → fin H) : CompW (Ite K a) g tt te D fin σB H0 := by
  refine ⟨fun i m σ H => m = xs.length - i ∧ i ≤ xs.length ∧ ∃ ys, Pv i ys σ H, ⟨xs.length, by simp, Nat.zero_le _, [], h0⟩, ?_⟩
  rintro i m σ H ⟨rfl, hi, ys, p⟩
  have q := hl i ys σ H hi p
  by_cases hlt : i < xs.length
  · refine .inr ⟨⟨xs, xs[i], q, by simp [hlt]⟩, ?_⟩
    rintro x H' ⟨pp, v, rfl, hn, rfl, hv⟩
    exact hs i v pp ys σ _ (fun v σ2 H4 => ∃ ys, H4 D = some (.lst ys) ∧ ys.length < sizeLine ∧ ∃ m', m' < xs.length - i ∧ m' = xs.length - (i + 1) ∧ i + 1 ≤ xs.length ∧ ∃ ys', Pv (i + 1) ys' σ2 (upd H4 D (.lst (ys ++ [v]))))
      (fun σ2 H3 => ∃ m', m' < xs.length - i ∧ m' = xs.length - (i + 1) ∧ i + 1 ≤ xs.length ∧ ∃ ys', Pv (i + 1) ys' σ2 H3) (hv xs q) p hn
      (fun v σ2 H4 z1 z2 z3 => ⟨ys, z1, z2, _, by omega, rfl, hlt, _, z3⟩) (fun σ2 H3 z => ⟨_, by omega, rfl, hlt, _, z⟩)
  · have e : i = xs.length := by omega
    subst e
    exact .inl ⟨⟨xs, q, Nat.le_refl _⟩, hd ys σ H p⟩
end
end L2

set_option maxHeartbeats 4000000
namespace L2
open PySem PySem.Spec PyProof.Rows
section
variable {prog : Program} {w : World} {A : Around} {E : Value → Shared → Prop} {s : Shared}
/-! ### the next of a tuple's iterator, asked by another iterator -/
theorem tnext_item {it t : Addr} {i : Nat} {xs : Array Value} {x : Value} {Q : Value → Shared → Prop} (hit : s.heap.IsTupleIter it t i) (ht : s.heap.IsTuple t xs) (hx : xs[i]? = some x)
    (q : ∀ h', h'.IsTupleIter it t (i + 1) → Heap.SameBut it s.heap h' → Q x { s with heap := h' }) : wpAny (model prog w) A (Builtin.SmallTypes.nextOf (.ref it)) Q E s := by
  obtain ⟨o, h1, h2, h3⟩ := id hit
  obtain ⟨p, k1, _, n, k3⟩ := ht
  unfold Builtin.SmallTypes.nextOf
  refine wpAny_bind (wpAny_callSpecial?_slot (name := Str.ofString "__next__") hit.typeIs F.slot_tuple_iterator_next (wpAny_call_entry F.slot_tuple_iterator_next hit.typeIs F.entry_tuple_iterator_next ?_ (F.args_tuple_iterator_next_1 _)))
  change wpAny _ _ (field (.ref it) 0 >>= _) _ _ s
  refine wpAny_bind (wpAny_field h1 h3 (x := .ref t) rfl ?_)
  change wpAny _ _ (if (Value.ref t == Value.none) = true then _ else _) _ _ s
  rw [if_neg (by exact Bool.false_ne_true)]
  change wpAny _ _ (field (.ref it) 1 >>= _) _ _ s
  refine wpAny_bind (wpAny_field h1 h3 (x := .int i 0) rfl ?_)
  change wpAny _ _ (seqItems? (.ref t) >>= _) _ _ s
  refine wpAny_bind (wpAny_seqItems k1 k3 ?_)
  simp only [Int.toNat_natCast, hx]
  refine wpAny_bind (wpAny_setField h1 h3 (by simp) (wpAny_pure ⟨x, rfl, wpAny_pure (q _ ?_ (Heap.SameBut.update ..))⟩))
  refine ⟨_, Heap.get?_update_self _ h1 (Obj.isFreed_of_fields (Obj.data_mapFields h3 _)), (Obj.cls_mapFields ..).trans h2, ?_⟩
  rw [Obj.data_mapFields h3]; simp [rawInt]
theorem tnext_end {it t : Addr} {i : Nat} {xs : Array Value} {Q : Value → Shared → Prop} (hh : A.handled = none) (hit : s.heap.IsTupleIter it t i) (ht : s.heap.IsTuple t xs) (hx : xs[i]? = none)
    (q : ∀ h' e, Heap.ExtBut it s.heap h' → (∃ o, h'.get? e = some o ∧ o.cls = .type "StopIteration") → E (.ref e) { s with heap := h' }) : wpAny (model prog w) A (Builtin.SmallTypes.nextOf (.ref it)) Q E s := by
  obtain ⟨o, h1, h2, h3⟩ := id hit
  obtain ⟨p, k1, _, n, k3⟩ := ht
  unfold Builtin.SmallTypes.nextOf
  refine wpAny_bind (wpAny_callSpecial?_slot (name := Str.ofString "__next__") hit.typeIs F.slot_tuple_iterator_next (wpAny_call_entry F.slot_tuple_iterator_next hit.typeIs F.entry_tuple_iterator_next ?_ (F.args_tuple_iterator_next_1 _)))
  change wpAny _ _ (field (.ref it) 0 >>= _) _ _ s
  refine wpAny_bind (wpAny_field h1 h3 (x := .ref t) rfl ?_)
  change wpAny _ _ (if (Value.ref t == Value.none) = true then _ else _) _ _ s
  rw [if_neg (by exact Bool.false_ne_true)]
  change wpAny _ _ (field (.ref it) 1 >>= _) _ _ s
  refine wpAny_bind (wpAny_field h1 h3 (x := .int i 0) rfl ?_)
  change wpAny _ _ (seqItems? (.ref t) >>= _) _ _ s
  refine wpAny_bind (wpAny_seqItems k1 k3 ?_)
  simp only [Int.toNat_natCast, hx]
  refine wpAny_bind (wpAny_rule (wpAny_bind (wpAny_setField h1 h3 (by simp) ?stop)))
  case stop =>
    change wpAny _ _ (newExc (.type "StopIteration") [] >>= _) _ _ _
    refine wpAny_bind ?_
    simp only [newExc, newTuple]
    refine wpAny_bind (wpAny_newObj_type (wpAny_bind (m := firstArgMember _ _) (wpAny_of_eq (a := Value.none) (by simp only [firstArgMember]; rfl) (wpAny_newObj_type ?_ (by size_fits)))) (by size_fits))
    simp only [raiseNew]
    refine wpAny_bind (wpAny_handled ?_)
    rw [show A.in1.handled = none from hh]
    exact wpAny_bind (wpAny_pure (wpAny_throw (q _ _ (fun b u hb z => Heap.get?_push_of_some _ (Heap.get?_push_of_some _ ((Heap.get?_update_other _ _ (Ne.symm hb)).trans z))) ⟨_, Heap.get?_push_size _ rfl, rfl⟩)))
theorem draws_tuple (hh : A.handled = none) (it t : Addr) (hne : t ≠ it) (xs : Array Value) : Draws prog w A it [it, t] xs.size (fun i v => xs[i]? = some v) (fun i h => h.IsTupleIter it t i ∧ h.IsTuple t xs) where
  live := fun _ _ st => let ⟨o, ho, _⟩ := st.1; ⟨o, ho⟩
  frame := fun _ _ _ st hk => ⟨st.1.at fun o e => hk it (by simp) o e, let ⟨o, e, r⟩ := st.2; ⟨o, hk t (by simp) o e, r⟩⟩
  item := fun i s Q E hi st q => by
    refine tnext_item st.1 st.2 (x := xs[i]) (by simp [hi]) fun h' a b => ?_
    obtain ⟨o, e, r⟩ := st.2
    exact q _ h' s.toks (by simp [hi]) ⟨a, o, (b.2 t hne).trans e, r⟩ b
  done := fun s Q E st q => tnext_end hh st.1 st.2 (by simp) q
end
end L2

set_option maxHeartbeats 4000000
namespace L2
open PySem PySem.Spec PyProof.Rows
/-! ### enumerate of a tuple -/
theorem enum_newT (t : Addr) (xs : Array Value) :
    Meets (Builtin.«enumerate.__new__» ⟨[.type "enumerate", .ref t], []⟩) (fun _ R s => s.heap.IsTuple t xs ∧
      R (.ok (.ret (.ref (s.heap.push { cls := .type "tuple_iterator", data := .fields #[.ref t, .int 0 0] }).objs.size)))
        { s with heap := (s.heap.push { cls := .type "tuple_iterator", data := .fields #[.ref t, .int 0 0] }).push { cls := .type "enumerate", data := .fields #[.none, .bool false, .ref s.heap.objs.size, rawInt 0, .none, .none] } }) :=
  .of_wp fun prog w A R s h => by
    obtain ⟨hp, g, d, tk, os⟩ := s
    obtain ⟨hT, h⟩ := h
    have hs := sub_enumerate
    wp_walk
    refine wpAny_stack_any fun st => wpAny_pure ?_
    split
    · rename_i c _ _ _ _ _
      cases (c == Value.type "enumerate") <;> · wp_walk using wpAny_pyIter_tuple hT
                                                exact ⟨_, rfl, h⟩
    · wp_walk using wpAny_pyIter_tuple hT
      exact ⟨_, rfl, h⟩
theorem enum_callT {prog : Program} {w : World} {A : Around} {E : Value → Shared → Prop} {s : Shared} {t : Addr} {xs : Array Value} {Q : Value → Shared → Prop} (ht : s.heap.IsTuple t xs)
    (h : ∀ h', IsEnum h' (s.heap.objs.size + 1) s.heap.objs.size 0 .none → h'.IsTupleIter s.heap.objs.size t 0 → (∀ b o, s.heap.get? b = some o → h'.get? b = some o) → Q (.ref (s.heap.objs.size + 1)) { s with heap := h' }) :
    wpAny (model prog w) A (call (.type "enumerate") [.ref t]) Q E s := by
  refine callType_new F.called_enumerate (by decide) (F.typeCall_enumerate_1 _) (F.newCall_enumerate_1 _) (fun obj => F.args_object_init_2 obj _) F.entry_enumerate_new (enum_newT t xs) ⟨ht, ?_⟩
  have hz : (s.heap.push { cls := .type "tuple_iterator", data := .fields #[.ref t, .int 0 0] }).objs.size = s.heap.objs.size + 1 := Heap.size_push ..
  have he : IsEnum ((s.heap.push { cls := .type "tuple_iterator", data := .fields #[.ref t, .int 0 0] }).push
      { cls := .type "enumerate", data := .fields #[.none, .bool false, .ref s.heap.objs.size, rawInt 0, .none, .none] }) (s.heap.objs.size + 1) s.heap.objs.size 0 .none := by
    have q := Heap.get?_push_size (s.heap.push { cls := .type "tuple_iterator", data := .fields #[.ref t, .int 0 0] }) (o := { cls := .type "enumerate", data := .fields #[.none, .bool false, .ref s.heap.objs.size, rawInt 0, .none, .none] }) rfl
    rw [hz] at q; exact q
  show _ ∧ _
  rw [hz]
  exact ⟨⟨_, he, rfl⟩, h _ he ⟨_, Heap.get?_push_of_some _ (Heap.get?_push_size _ rfl), rfl, rfl⟩ fun b o x => Heap.get?_push_of_some _ (Heap.get?_push_of_some _ x)⟩
def IteT (K : PySem.W.Frag) (a : Addr) : It :=
  ⟨fun i H => ∃ xs x, SqT K H a xs ∧ xs[i]? = some x, fun i H x H' => ∃ p v, x = .ref p ∧ H p = none ∧ H' = upd H p (.tup [.int i, v]) ∧ ∀ xs, SqT K H a xs → xs[i]? = some v, fun i H => ∃ xs, SqT K H a xs ∧ xs.length ≤ i⟩
theorem turn_enumT {P : Program} {w : World} {K : PySem.W.Frag} {es : List Expr} {x1 : Nat} {pos : Pos} (a e it : Addr) (hne : e ≠ it) (hae : a ≠ e) (hai : a ≠ it) :
    Turn P w K (.Tuple es x1 pos) (IteT K a) [e, it] e (fun i h => (∃ old, IsEnum h e it (i : Int) old) ∧ h.IsTupleIter it a i) where
  mem := by simp
  obj := fun i h st b hb => by
    obtain ⟨⟨old, he⟩, ⟨o, q, c, d⟩⟩ := st
    rcases List.mem_cons.mp hb with rfl | hb
    · exact ⟨_, he, fun v z => by
        have z' : Data.fields _ = Data.cell v := z
        cases z'⟩
    · rw [List.mem_singleton.mp hb]
      exact ⟨o, q, fun v z => by rw [d] at z; cases z⟩
  keep := fun i h h' st k => by
    obtain ⟨⟨old, he⟩, hi⟩ := st
    exact ⟨⟨old, k e (by simp) _ he⟩, hi.at fun o q => k it (by simp) o q⟩
  item := by
    intro X hP hw hK hc i pins s σ H E I hf st hg
    subst hP hw hK
    obtain ⟨xs, x, hq, hx⟩ := hg
    obtain ⟨its, rv, p, hz⟩ := I.tuple hq
    obtain ⟨u, hu, ru⟩ := rv.get hx
    obtain ⟨⟨old, he⟩, hi⟩ := st
    have hlt : i < its.toArray.size := by
      have := (List.getElem?_eq_some_iff.mp hu).1
      simpa using this
    have D := draws_tuple (prog := X.prog) (w := X.w) (A := X.A.in1) (I.ok.hd hc) it a hai its.toArray
    refine wpAny_pyNext_enum_itemD D he ⟨hi, p⟩ hlt hne (by simp [hne, hae.symm]) fun u' h' tk hu' ho hst ht hsz k => ?_
    have eu : u' = u := by
      have h1 : its.toArray[i]? = some u := by simpa using hu
      rw [h1] at hu'
      exact (Option.some.inj hu').symm
    subst eu
    refine ⟨_, rfl, wpAny_letOwnedTupleGo_enum ho fun h2 he2 hs2 => ?_⟩
    have hpe : s.heap.objs.size ≠ e := Nat.ne_of_gt (Heap.lt_size he)
    have hi2 : h2.IsTupleIter it a (i + 1) := hst.1.at fun o q => (hs2.2 it hne.symm).trans q
    have fe := hf e (by simp)
    have fi := hf it (by simp)
    have I2 : Inv X pins σ (upd H s.heap.objs.size (.tup [.int i, x])) { s with heap := h2, toks := tk + 1 } := by
      refine I.turned2 (its := [.int i tk, u']) fe fi (fun b o h1 h3 q => (hs2.2 b h1).trans (k b o h1 h3 q)) ⟨_, he2⟩ ?_ (Nat.le_refl _) (by show 2 ≤ sizeLine; decide) (.cons ⟨_, rfl⟩ (.cons ru .nil)) ((hs2.2 _ hpe).trans ht)
      obtain ⟨o, q, _⟩ := hi2
      exact ⟨o, q⟩
    refine ⟨.ref s.heap.objs.size, _, I2, rfl, ⟨_, x, rfl, I.hok.fresh (Nat.le_refl _), rfl, fun ys hy => by rw [I.tuple_inj hy hq]; exact hx⟩, ⟨⟨u', he2⟩, hi2⟩, fun b hb => ?_⟩
    have f0 := (hf b hb).1
    rw [upd_ne]
    · exact f0
    · rcases List.mem_cons.mp hb with rfl | hb
      · exact hpe.symm
      · rw [List.mem_singleton.mp hb]
        obtain ⟨o, q, _⟩ := hi
        exact Nat.ne_of_lt (Heap.lt_size q)
  done := by
    intro X hP hw hK hc i pins s σ H E I hf st hg
    subst hP hw hK
    obtain ⟨xs, hq, hx⟩ := hg
    obtain ⟨its, rv, p, hz⟩ := I.tuple hq
    obtain ⟨f0, f1, f2, f3, f4, f5⟩ := hf it (by simp)
    obtain ⟨⟨old, he⟩, hi⟩ := st
    have hl := rv.length
    unfold pyNext
    have hT : s.TypeIs (.ref e) "enumerate" := ⟨_, he, rfl⟩
    refine wpAny_bind (wpAny_attempt (wpAny_callSpecial?_slot (name := Str.ofString "__next__") hT F.slot_enumerate_next (wpAny_call_entry F.slot_enumerate_next hT F.entry_enumerate_next ?_ (F.args_enumerate_next_1 _))))
    change wpAny _ _ (field (.ref e) 2 >>= _) _ _ _
    refine wpAny_bind (wpAny_field he rfl (x := .ref it) rfl (wpAny_bind (tnext_end (I.ok.hd hc) hi p (by simp; omega) fun h' x eb hx' => ?_)))
    obtain ⟨o, ho, hcl⟩ := hx'
    exact wpAny_bind (wpAny_isInstance (T := "StopIteration") (b := true) ⟨o, ho, hcl⟩ isSubtype_stop (wpAny_pure ⟨rfl, I.turned (t' := s.toks) (fun b o hb e => eb b o hb e) f0 f1 f3 f4 f5⟩))
  self := fun _ _ _ _ _ st h => by
    obtain ⟨⟨old, he⟩, _⟩ := st
    exact wpAny_pyIter_enum he h
end L2

set_option maxHeartbeats 4000000
namespace L2
open PySem PySem.Spec PyProof.Rows
section
variable {X : Cx}
def iEnumT (K : PySem.W.Frag) (ta : TA) : TI := fun σ H R => ta σ H fun vs H1 => ∃ a xs, vs = [.ref a] ∧ SqT K H1 a xs ∧ R (IteT K a) H1
theorem pi_enumT {es : List Expr} {x1 : Nat} {tpos : Pos} {a : Expr} {ta : TA} {p pos : Pos} (hg : Gl X "enumerate") (hm : X.mg "enumerate" = none) (ha : PA X [a] ta) (hs : starEach [a] X.env = [(false, eval a X.env)] := by rfl) :
    PI X (.Tuple es x1 tpos) (.Call (.Name "enumerate" p) [a] [] pos) (iEnumT X.K ta) := by
  intro pins s σ H R I h
  refine Call_ (ld_blt I hg hm (by decide +kernel : bootBuiltins "enumerate" = some (.type "enumerate")) (PyProof.Rows.callWith_type1 (thn (ha pos pins s σ H _ I h) fun us s1 ⟨vs, H1, I1, r1, q1⟩ => ?_) hs rfl))
  obtain ⟨l, xs, rfl, hl, q⟩ := q1
  obtain ⟨u1, rfl, ru1⟩ := r1.one
  obtain rfl : u1 = Value.ref l := ru1
  obtain ⟨its, rv, pt, hz⟩ := I1.tuple hl
  have hlt : l < s1.heap.objs.size := by obtain ⟨o, e, _⟩ := pt; exact Heap.lt_size e
  refine enum_callT (show s1.heap.IsTuple l its.toArray from pt) fun h' he hi k => ?_
  have hne : s1.heap.objs.size + 1 ≠ s1.heap.objs.size := Nat.succ_ne_self _
  refine wpAny_pyIter_enum he ?_
  have I2 : Inv X pins σ H1 { s1 with heap := h' } := I1.kept (t' := s1.toks) k
  refine ⟨s1.heap.objs.size + 1, [s1.heap.objs.size + 1, s1.heap.objs.size], _, _, H1, rfl, I2, turn_enumT l _ _ hne (Nat.ne_of_lt (Nat.lt_succ_of_lt hlt)) (Nat.ne_of_lt hlt), ⟨⟨_, he⟩, hi⟩, fun b hb => ?_, q⟩
  have hb' : s1.heap.objs.size ≤ b := by
    rcases List.mem_cons.mp hb with rfl | hb
    · exact Nat.le_succ _
    · rw [List.mem_singleton.mp hb]; exact Nat.le_refl _
  exact I1.fpOk hb' (I1.hok.fresh hb')
theorem for_enumT {K : PySem.W.Frag} {a : Addr} {xs : List V} {g : TG} {tb : TS} {D : Ends} {σ : St} {H : Hp} (Pv : Nat → St → Hp → Prop) (h0 : Pv 0 σ H) (hl : ∀ i σ H, i ≤ xs.length → Pv i σ H → SqT K H a xs)
    (hs : ∀ i x p σ H, xs[i]? = some x → Pv i σ H → H p = none → g (.ref p) σ (upd H p (.tup [.int i, x])) fun σ2 H2 => tb { D with nx := Pv (i + 1), ct := Pv (i + 1), bk := D.nx } σ2 H2) (hd : ∀ σ H, Pv xs.length σ H → D.nx σ H) :
    ∃ W : Nat → Nat → St → Hp → Prop, (∃ m, W 0 m σ H) ∧ ∀ i m σ H, W i m σ H →
      ((IteT K a).stop i H ∧ D.nx σ H) ∨ ((IteT K a).go i H ∧ ∃ N : St → Hp → Prop, (∀ σ' H', N σ' H' → ∃ m', m' < m ∧ W (i + 1) m' σ' H') ∧ ∀ x H', (IteT K a).yld i H x H' → g x σ H' fun σ2 H2 => tb { D with nx := N, ct := N, bk := D.nx } σ2 H2) := by
  refine ⟨fun i m σ H => m = xs.length - i ∧ i ≤ xs.length ∧ Pv i σ H, ⟨xs.length, by simp, Nat.zero_le _, h0⟩, ?_⟩
  rintro i m σ H ⟨rfl, hi, p⟩
  have q := hl i σ H hi p
  by_cases hlt : i < xs.length
  · refine .inr ⟨⟨xs, xs[i], q, by simp [hlt]⟩, Pv (i + 1), fun σ' H' p' => ⟨xs.length - (i + 1), by omega, rfl, hlt, p'⟩, fun x H' y => ?_⟩
    obtain ⟨pp, v, rfl, hn, rfl, hv⟩ := y
    exact hs i v pp σ _ (hv xs q) p hn
  · have e : i = xs.length := by omega
    subst e
    exact .inl ⟨⟨xs, q, Nat.le_refl _⟩, hd σ H p⟩
theorem comp_enumT {K : PySem.W.Frag} {a D : Addr} {xs : List V} {g : TG} {tt : TT} {te : TE} {fin : Hp → Prop} {σB : St} {H0 : Hp} (Pv : Nat → List V → St → Hp → Prop) (h0 : Pv 0 [] σB H0)
    (hl : ∀ i ys σ H, i ≤ xs.length → Pv i ys σ H → SqT K H a xs)
    (hs : ∀ i x p ys σ H (Kt : V → St → Hp → Prop) (Kf : St → Hp → Prop), xs[i]? = some x → Pv i ys σ H → H p = none →
      (∀ v σ2 H4, H4 D = some (.lst ys) → ys.length < sizeLine → Pv (i + 1) (ys ++ [v]) σ2 (upd H4 D (.lst (ys ++ [v]))) → Kt v σ2 H4) → (∀ σ2 H3, Pv (i + 1) ys σ2 H3 → Kf σ2 H3) →
      g (.ref p) σ (upd H p (.tup [.int i, x])) fun σ2 H2 => tt σ2 H2 fun b H3 => if b = true then te σ2 H3 fun v H4 => Kt v σ2 H4 else Kf σ2 H3)
    (hd : ∀ ys σ H, Pv xs.length ys σ H → fin H) : CompW (IteT K a) g tt te D fin σB H0 := by
  refine ⟨fun i m σ H => m = xs.length - i ∧ i ≤ xs.length ∧ ∃ ys, Pv i ys σ H, ⟨xs.length, by simp, Nat.zero_le _, [], h0⟩, ?_⟩
  rintro i m σ H ⟨rfl, hi, ys, p⟩
  have q := hl i ys σ H hi p
  by_cases hlt : i < xs.length
  · refine .inr ⟨⟨xs, xs[i], q, by simp [hlt]⟩, ?_⟩
    rintro x H' ⟨pp, v, rfl, hn, rfl, hv⟩
    exact hs i v pp ys σ _ (fun v σ2 H4 => ∃ ys, H4 D = some (.lst ys) ∧ ys.length < sizeLine ∧ ∃ m', m' < xs.length - i ∧ m' = xs.length - (i + 1) ∧ i + 1 ≤ xs.length ∧ ∃ ys', Pv (i + 1) ys' σ2 (upd H4 D (.lst (ys ++ [v]))))
      (fun σ2 H3 => ∃ m', m' < xs.length - i ∧ m' = xs.length - (i + 1) ∧ i + 1 ≤ xs.length ∧ ∃ ys', Pv (i + 1) ys' σ2 H3) (hv xs q) p hn
      (fun v σ2 H4 z1 z2 z3 => ⟨ys, z1, z2, _, by omega, rfl, hlt, _, z3⟩) (fun σ2 H3 z => ⟨_, by omega, rfl, hlt, _, z⟩)
  · have e : i = xs.length := by omega
    subst e
    exact .inl ⟨⟨xs, q, Nat.le_refl _⟩, hd ys σ H p⟩
end
end L2

set_option maxHeartbeats 4000000
namespace L2
open PySem PySem.Spec PyProof.Rows
/-! ### for over a dict: it is known to the object from there on -/
theorem Inv.freeze {X : Cx} {pins : List (Addr × Obj)} {σ : St} {H : Hp} {s : Shared} {d : Addr} {u : HO} {o : Obj} (I : Inv X pins σ H s) (hd : H d = some u) (ho : s.heap.get? d = some o) (hu : (∀ xs, u ≠ .tup xs) ∧ (∀ o v, u ≠ .frz o v) ∧ (∀ ps, u ≠ .tbl ps) ∧ (∀ x, u ≠ .own x)) :
    Inv X pins σ (upd H d (.frz o u)) s := by
  have ok : HOk X.prog X.w (upd H d (.frz o u)) s.heap := fun b v e => by
    have st : ∀ {b v}, ObjOk X.prog X.w H s.heap b v → ObjOk X.prog X.w (upd H d (.frz o u)) s.heap b v := fun {b v} x =>
      x.stay (fun _ _ _ q => q) (fun c q => by rw [upd_ne (fun z => by rw [z, hd] at q; exact hu.2.2.2 _ (Option.some.inj q))]; exact q) fun c xs q => by rw [upd_ne (fun z => by rw [z, hd] at q; exact hu.1 _ (Option.some.inj q))]; exact q
    by_cases hb : b = d
    · subst hb
      rw [upd_same] at e; cases e
      exact ⟨ho, st (I.hok b u hd)⟩
    · rw [upd_ne hb] at e
      exact st (I.hok b v e)
  have r := I.step (h' := s.heap) (H' := upd H d (.frz o u)) (g' := s.gens) (t' := s.toks) (d' := s.drawn) (ch := []) (fun _ z => absurd z (by simp)) (fun b o' _ _ _ q _ => q) (fun b o' _ _ _ q _ => ⟨o'.slots, q⟩)
    (fun b o' _ q n => by rw [upd_ne (fun z => by rw [z, hd] at n; cases n)]; exact n) (fun b o' _ q => ⟨o', q⟩)
    (fun b xs q => by rw [upd_ne (fun z => by rw [z, hd] at q; exact hu.1 _ (Option.some.inj q))]; exact q) (fun b o' v q => by rw [upd_ne (fun z => by rw [z, hd] at q; exact hu.2.1 _ _ (Option.some.inj q))]; exact q)
    (fun b ps q => ⟨#[], by rw [upd_ne (fun z => by rw [z, hd] at q; exact hu.2.2.1 _ (Option.some.inj q)), q]; simp⟩) (fun m hm => hm) ok I.bare
  exact r
def Itd (d : Addr) (o : Obj) (kvs : List (Key × V)) : It :=
  ⟨fun i H => H d = some (.frz o (.dK kvs)) ∧ i < kvs.length, fun i H x H' => H' = H ∧ ∃ k v, kvs[i]? = some (k, v) ∧ x = kV k, fun i H => H d = some (.frz o (.dK kvs)) ∧ kvs.length ≤ i⟩
theorem key_rel {P : Program} {w : World} {k : Key} {u : Value} (h : (mixKind P w).is k u = true) : RelV (kV k) u := by
  cases k with
  | inl i =>
    have h' : Value.isInt i u = true := h
    cases u <;> simp [Value.isInt] at h' <;> try exact h'.elim
    all_goals first | (subst h'; exact ⟨_, rfl⟩) | (rw [← h']; exact ⟨_, rfl⟩) | (rw [h']; exact ⟨_, rfl⟩)
  | inr x =>
    have h' : Value.isStrOf x u = true := h
    cases u <;> simp [Value.isStrOf] at h' <;> try exact h'.elim
    all_goals first | (subst h'; exact ⟨_, rfl⟩) | (rw [← h']; exact ⟨_, rfl⟩) | (rw [h']; exact ⟨_, rfl⟩)
theorem turn_dict {P : Program} {w : World} {K : PySem.W.Frag} {tg : Expr} (d it : Addr) (o : Obj) (kvs : List (Key × V)) (es : Array DictEntry) (ep : Nat) (hdat : o.data = .dict es ep) :
    Turn P w K tg (Itd d o kvs) [it] it (fun i h => h.IsKeyIter it d i kvs.length ep) where
  mem := by simp
  obj := fun i h st b hb => by
    have e : b = it := by simpa using hb
    subst e
    obtain ⟨o, e, c, d⟩ := st
    exact ⟨o, e, fun v z => by rw [d] at z; cases z⟩
  keep := fun i h h' st k => st.at fun o e => k it (by simp) o e
  item := by
    intro X hP hw hK hc i pins s σ H E I hf st hg
    subst hP hw hK
    obtain ⟨hd, hi⟩ := hg
    obtain ⟨ho, z, hS, vs, kv, ob, es', ep', g1, g2, g3, g4, g5, g6⟩ := I.hok d _ hd
    rw [ho] at g1; cases g1
    rw [hdat] at g3; cases g3
    have hm : s.heap.DictAt (mixKind X.prog X.w) d vs ep := ⟨o, es, ho, g2, hdat, g4, g5, g6⟩
    have hlen := kv.length
    obtain ⟨f0, f1, f2, f3, f4, f5⟩ := hf it (by simp)
    have hi' : i < vs.length := by omega
    obtain ⟨⟨k, v⟩, hv⟩ : ∃ p, vs[i]? = some p := ⟨_, List.getElem?_eq_getElem hi'⟩
    refine wpAny_pyNext_dict_item (by rw [← hlen]; exact st) hm hv fun key h' hk st' sb => ?_
    have I1 : Inv X pins σ H { s with heap := h' } := I.turned (t' := s.toks) (fun b o hb e => (sb.2 b hb).trans e) f0 f1 f3 f4 f5
    obtain ⟨oi, ei, ci, di⟩ := id st'
    have hk1 : (kvs.map (·.1))[i]? = some k := by rw [kv.keys, List.getElem?_map, hv]; rfl
    obtain ⟨p, hp, hpk⟩ : ∃ p, kvs[i]? = some p ∧ p.1 = k := by
      rw [List.getElem?_map] at hk1
      cases q : kvs[i]? with
      | none => rw [q] at hk1; cases hk1
      | some p => rw [q] at hk1; exact ⟨p, rfl, Option.some.inj hk1⟩
    refine ⟨key, rfl, go_of (s := { s with heap := h' }) ei ci di (by decide) ⟨kV k, H, I1, key_rel hk, ⟨rfl, k, p.2, by rw [hp, ← hpk], rfl⟩, by rw [hlen]; exact st', fun b hb => (hf b hb).1⟩⟩
  done := by
    intro X hP hw hK hc i pins s σ H E I hf st hg
    subst hP hw hK
    obtain ⟨hd, hi⟩ := hg
    obtain ⟨ho, z, hS, vs, kv, ob, es', ep', g1, g2, g3, g4, g5, g6⟩ := I.hok d _ hd
    rw [ho] at g1; cases g1
    rw [hdat] at g3; cases g3
    have hm : s.heap.DictAt (mixKind X.prog X.w) d vs ep := ⟨o, es, ho, g2, hdat, g4, g5, g6⟩
    have hlen := kv.length
    obtain ⟨f0, f1, f2, f3, f4, f5⟩ := hf it (by simp)
    exact wpAny_pyNext_dict_end (I.ok.hd hc) (by rw [← hlen]; exact st) hm (List.getElem?_eq_none (by omega)) fun h' eb => ⟨rfl, I.turned (t' := s.toks) (fun b o hb e => eb b o hb e) f0 f1 f3 f4 f5⟩
  self := fun _ _ _ _ _ st h => wpAny_pyIter_keyiter st h
section
variable {X : Cx} {tg : Expr}
def iDict (tl : TE) : TI := fun σ H R => tl σ H fun x H1 => ∃ d kvs, x = .ref d ∧ H1 d = some (.dK kvs) ∧ ∀ o, R (Itd d o kvs) (upd H1 d (.frz o (.dK kvs)))
theorem pi_dict {l : Expr} {tl : TE} (hl : PE X l tl) : PI X tg l (iDict tl) := by
  intro pins s σ H R I h
  refine thn (hl pins s σ H _ I h) fun v s1 ⟨x, H1, I1, r1, q1⟩ => ?_
  obtain ⟨d, kvs, e, hd, q⟩ := q1
  subst e
  cases r1
  obtain ⟨z, hS, vs, kv, o, es, ep, g1, g2, g3, g4, g5, g6⟩ := dk_of I1.hok hd
  have hm : s1.heap.DictAt (mixKind X.prog X.w) d vs ep := ⟨o, es, g1, g2, g3, g4, g5, g6⟩
  have I2 := I1.freeze hd g1 ⟨(fun _ z => by cases z), (fun _ _ z => by cases z), (fun _ z => by cases z), (fun _ z => by cases z)⟩
  refine wpAny_pyIter_dict hS hm ?_
  refine ⟨s1.heap.objs.size, [s1.heap.objs.size], _, _, _, rfl, I2.kept (t' := s1.toks) fun b o e => Heap.get?_push_of_some _ e, turn_dict d _ o kvs es ep g3, ⟨_, Heap.get?_push_size _ rfl, rfl, by rw [kv.length]; rfl⟩, fun b hb => ?_, q o⟩
  have e : b = s1.heap.objs.size := by simpa using hb
  subst e
  exact I2.fpOk (Nat.le_refl _) (I2.hok.fresh (Nat.le_refl _))
end
end L2

set_option maxHeartbeats 4000000
namespace L2
open PySem PySem.Spec PyProof.Rows
/-! ### a list has no keys -/
theorem lk_list_keys : typeLookup (.type "list") "keys" = pure none := by rw [typeLookup_type, builtinLookup_eq_fast]; kernel_rfl
theorem lk_list_getattr : typeLookup (.type "list") "__getattr__" = pure none := by rw [typeLookup_type, builtinLookup_eq_fast]; kernel_rfl
theorem miss_list_keys (l : Addr) (u : Tok) (items : Array Value) (n : Nat) :
    Meets (Builtin.«object.__getattribute__» ⟨[.ref l, .str "keys" u], []⟩) (fun A R s => s.heap.get? l = some { cls := .type "list", data := .seq items n } ∧ raisesAttr (.ref l) "keys" A R s) :=
  Meets.of_wp fun prog w A R s hs => by
    obtain ⟨hp, g, d, tk, os⟩ := s
    obtain ⟨hl, hs⟩ := hs
    have hT : (⟨hp, g, d, tk, os⟩ : Shared).TypeIs (.ref l) "list" := ⟨_, hl, rfl⟩
    have f1 := lk_list_keys
    unfold Builtin.«object.__getattribute__»
    repeat (any_goals (first | assumption | wp_step))
    exact wpAny_raiseAttrError hs.1 hs.2 (attrMsg_fits (by decide +kernel) (by decide +kernel))
theorem noKeys {prog : Program} {w : World} {A : Around} {E : Value → Shared → Prop} {s : Shared} {l : Addr} {items : Array Value} {n : Nat} {Q : Option Value → Shared → Prop} (hA : A.handled = none) (hl : s.heap.get? l = some { cls := .type "list", data := .seq items n })
    (h : ∀ h' tk, (∀ b o, s.heap.get? b = some o → h'.get? b = some o) → Q none { s with heap := h', toks := tk }) : wpAny (model prog w) A (getAttr? (.ref l) "keys") Q E s := by
  obtain ⟨hp, g, d, tk, os⟩ := s
  have hT : ∀ tk, (⟨hp, g, d, tk, os⟩ : Shared).TypeIs (.ref l) "list" := fun _ => ⟨_, hl, rfl⟩
  have f1 := sub_AttributeError
  have f3 := F.slot_list_getattribute.lookup
  have f4 := F.slot_list_getattribute.bind (.ref l)
  have f5 := lk_list_getattr
  unfold getAttr? getAttrBy?
  refine wpAny_bind (wpAny_mkText ?_)
  refine wpAny_bind (wpAny_attempt ?_)
  unfold getAttrBy
  repeat (any_goals (first | assumption | ((with_reducible show wpAny _ _ (call (Value.builtin "list.__getattribute__") _ _) _ _ _); refine call_meets F.slot_list_getattribute (hT _) F.entry_list_ga (F.args_list_getattribute_2 _ _) (miss_list_keys l _ items n) ⟨hl, hA, fun h' tk' e hx => ?_⟩) | wp_step))
  obtain ⟨t', u', he⟩ := hx.there
  show wpAny _ _ (getattributeRaised _ _ _ _ _ _ _) _ _ _
  unfold getattributeRaised
  repeat (any_goals (first | assumption | wp_step))
  exact h _ _ hx.keeps
end L2

set_option maxHeartbeats 4000000
namespace L2
open PySem PySem.Spec PyProof.Rows
/-! ### dict(l), l a list of pairs whose keys are ints or texts -/
theorem entry_dloop : entryFor table "dict.update.loop" = some Builtin.«dict.update.loop» := entryFor_of_tree (by kernel_rfl)
theorem plain_dloop : plainId "dict.update.loop" = true := by decide +kernel
def TupsIn (P : Program) (w : World) (h : Heap) (vs : List Value) (ps : List (Key × Value)) : Prop := vs.length = ps.length ∧ ∀ (i : Nat) (v : Value), vs[i]? = some v → ∃ (a : Addr) (o : Obj) (n : Nat) (key : Value) (k : Key) (x : Value), v = Value.ref a ∧ h.get? a = some o ∧ o.cls = .type "tuple" ∧ o.data = .seq #[key, x] n ∧ (mixKind P w).is k key = true ∧ ps[i]? = some (k, x)
theorem TupsIn.keeps {P : Program} {w : World} {h h' : Heap} {vs : List Value} {ps : List (Key × Value)} (x : TupsIn P w h vs ps) (k : ∀ b o, (∃ xs n, o.data = .seq xs n) → h.get? b = some o → h'.get? b = some o) : TupsIn P w h' vs ps :=
  ⟨x.1, fun i v hv => let ⟨a, o, n, key, kk, y, e1, e2, e3, e4, e5, e6⟩ := x.2 i v hv; ⟨a, o, n, key, kk, y, e1, k a o ⟨_, _, e4⟩ e2, e3, e4, e5, e6⟩⟩
section
variable {prog : Program} {w : World} {A : Around} {E : Value → Shared → Prop} {s : Shared} {R : Result → Shared → Prop} {l d Ia : Addr}
theorem dict_loop {vs : List Value} {ps : List (Key × Value)} (hh : A.handled = none) (hlD : l ≠ d) (hlI : l ≠ Ia) (hdI : d ≠ Ia) :
    ∀ (k i : Nat) (j : Int) (t : Tok) (s : Shared) (kvs : List (Key × Value)), vs.length - i = k → i ≤ vs.length → s.heap.IsListIter Ia l i → s.heap.IsList l vs.toArray → TupsIn prog w s.heap vs ps → s.heap.DictOf (mixKind prog w) d kvs → kvs.length + k ≤ 4096 →
      (∀ h' tk, (∀ b o, b ≠ d → b ≠ Ia → s.heap.get? b = some o → h'.get? b = some o) → h'.DictOf (mixKind prog w) d ((ps.drop i).foldl (fun m p => stored m p.1 p.2) kvs) → R (.ok (.ret .none)) { s with heap := h', toks := tk }) →
      codeAny (model prog w) A (.builtin "dict.update.loop" ⟨[.ref d, .ref Ia, .int j t, .none], []⟩) R s := by
  intro k
  induction k with
  | zero =>
    intro i j t s kvs hk hi hit hl hp hD hz hR
    refine codeAny_builtin entry_dloop ?_
    rw [Around.under_plainId plain_dloop _]
    show wpAny _ A.in1 (pyNext (.ref Ia) >>= _) _ _ s
    refine wpAny_bind (wpAny_pyNext_list_end (show A.in1.handled = none from hh) hit hl (by simp; omega) fun h' eb => ?_)
    have hd : ps.drop i = [] := by rw [List.drop_eq_nil_iff]; have := hp.1; omega
    have hR' := hR h' s.toks (fun b o hb hbI e => eb b o hbI e)
    rw [hd] at hR'
    refine wpAny_bind (wpAny_pure (wpAny_pure (hR' ?_)))
    obtain ⟨o, es, ep, q1, q2⟩ := hD
    exact ⟨o, es, ep, eb d o hdI q1, q2⟩
  | succ k ih =>
    intro i j t s kvs hk hi hit hl hp hD hz hR
    have hlt : i < vs.length := by omega
    refine codeAny_builtin entry_dloop ?_
    rw [Around.under_plainId plain_dloop _]
    show wpAny _ A.in1 (pyNext (.ref Ia) >>= _) _ _ s
    have hv : vs[i]? = some vs[i] := List.getElem?_eq_getElem hlt
    refine wpAny_bind (wpAny_pyNext_list_item hit hl (x := vs[i]) (by simpa using hv) fun h1 hit1 sb1 => ?_)
    obtain ⟨a, o, n, key, kk, x, ea, eo, ec, ed, ek, ep⟩ := hp.2 i _ hv
    rw [ea]
    have neI : ∀ b ob, (∃ xs n, ob.data = .seq xs n) → s.heap.get? b = some ob → b ≠ Ia := fun b ob ⟨xs, m, z⟩ e z' => by
      obtain ⟨oi, e1, _, d1⟩ := hit
      rw [z', e1] at e; cases e
      rw [d1] at z; cases z
    have hp1 : TupsIn prog w h1 vs ps := hp.keeps fun b ob hb e => (sb1.2 b (neI b ob hb e)).trans e
    have hD1 : h1.DictOf (mixKind prog w) d kvs := hD.sameBut sb1 hdI
    have hl1 : h1.IsList l vs.toArray := by
      obtain ⟨ol, q1, q2⟩ := hl
      exact ⟨ol, (sb1.2 l hlI).trans q1, q2⟩
    have eo1 : h1.get? a = some o := (sb1.2 a (neI a o ⟨_, _, ed⟩ eo)).trans eo
    have neD : ∀ b ob, (∃ xs n, ob.data = .seq xs n) → h1.get? b = some ob → b ≠ d := fun b ob ⟨xs, m, z⟩ e z' => by
      obtain ⟨oS, es, ep', q1, _, q4, _⟩ := hD1
      rw [z', q1] at e; cases e
      rw [q4] at z; cases z
    have hT : Shared.TypeIs { s with heap := h1 } (.ref a) "tuple" := ⟨o, eo1, ec⟩
    refine wpAny_bind (wpAny_holding ?_)
    show wpAny _ A.in1 (Sem.tryCatch (Builtin.Dict.pairItems (.ref a)) _ >>= _) _ _ _
    refine wpAny_bind (wpAny_tryCatch ?_)
    unfold Builtin.Dict.pairItems
    refine wpAny_bind (wpAny_typeOf hT ?_)
    rw [if_pos (by decide)]
    refine wpAny_bind (wpAny_seqItems eo1 ed (wpAny_pure ?_))
    show wpAny _ A.in1 (holding [key, x] (dictSet d key x)) _ _ _
    refine wpAny_holding (wpAny_dictSet_pairs (s := { s with heap := h1 }) ek hD1 (fun h2 hD2 sb2 => ?_) (Nat.le_trans (by omega : kvs.length ≤ 4096) (by decide)))
    refine wpAny_pure ⟨plainId_quiet plain_dloop _, ?_⟩
    have hi2 : i < ps.length := by have := hp.1; omega
    have hdr : ps.drop i = (kk, x) :: ps.drop (i + 1) := by
      rw [List.drop_eq_getElem_cons hi2]
      have : ps[i]? = some ps[i] := List.getElem?_eq_getElem hi2
      rw [this] at ep
      rw [Option.some.inj ep]
    have hlen : (stored kvs kk x).length ≤ kvs.length + 1 := by
      unfold stored
      split
      · rw [List.length_map]; omega
      · rw [List.length_append]; simp
    refine ih (i + 1) _ _ { s with heap := h2, toks := s.toks + 1 } (stored kvs kk x) (by omega) hlt ?_ ?_ (hp1.keeps fun b ob hb e => (sb2.2 b (neD b ob hb e)).trans e) hD2 (by omega) fun h3 tk3 k3 D3 => ?_
    · obtain ⟨oi, q1, q2⟩ := hit1
      exact ⟨oi, (sb2.2 Ia (Ne.symm hdI)).trans q1, q2⟩
    · obtain ⟨ol, q1, q2⟩ := hl1
      exact ⟨ol, (sb2.2 l hlD).trans q1, q2⟩
    · refine hR h3 tk3 (fun b ob hb hbI e => k3 b ob hb hbI ((sb2.2 b hb).trans ((sb1.2 b hbI).trans e))) ?_
      rw [hdr]
      exact D3
end
end L2

set_option maxHeartbeats 4000000
namespace L2
open PySem PySem.Spec PyProof.Rows
section
variable {prog : Program} {w : World} {A : Around} {E : Value → Shared → Prop} {s : Shared} {l : Addr}
theorem dict_call {vs : List Value} {n : Nat} {ps : List (Key × Value)} {Q : Value → Shared → Prop} (hh : A.handled = none) (hl : s.heap.get? l = some { cls := .type "list", data := .seq vs.toArray n }) (hp : TupsIn prog w s.heap vs ps) (hz : vs.length ≤ 4096)
    (h : ∀ h' tk, h'.DictOf (mixKind prog w) s.heap.objs.size (ps.foldl (fun m p => stored m p.1 p.2) []) → (∀ b o, s.heap.get? b = some o → h'.get? b = some o) → Q (.ref s.heap.objs.size) { s with heap := h', toks := tk }) :
    wpAny (model prog w) A (call (.type "dict") [.ref l]) Q E s := by
  refine callType_codes (Q₁ := fun obj s₁ => obj = .ref s.heap.objs.size ∧ s₁ = { s with heap := s.heap.push { cls := .type "dict", data := .dict #[] } }) F.kt_called_dict (F.kt_typeCall_dict_1 _) F.entry_dict_init (kt_code_dict_new _ ⟨rfl, rfl⟩) ?_
  rintro obj s₁ ⟨rfl, rfl⟩
  have hnew : (s.heap.push { cls := .type "dict", data := .dict #[] }).DictOf (mixKind prog w) s.heap.objs.size [] := Heap.DictOf.new s.heap
  have hsz : (s.heap.push { cls := .type "dict", data := .dict #[] }).objs.size = s.heap.objs.size + 1 := Heap.size_push ..
  have up : ∀ b o, s.heap.get? b = some o → (s.heap.push { cls := .type "dict", data := .dict #[] }).get? b = some o := fun b o e => Heap.get?_push_of_some _ e
  have hlt : l < s.heap.objs.size := Heap.lt_size hl
  refine ⟨hnew.typeIs, F.args_dict_init_2 _ _, ?_⟩
  generalize (s.heap.push { cls := .type "dict", data := .dict #[] }) = hD at *
  have hT : Shared.TypeIs { s with heap := hD } (.ref l) "list" := ⟨_, up _ _ hl, rfl⟩
  unfold Builtin.«dict.__init__»
  refine wpAny_bind ?_
  unfold Builtin.Dict.selfAndRest
  refine wpAny_bind (wpAny_notOrdered_dict hnew.typeIs (wpAny_pure ?_))
  show wpAny _ _ (Builtin.Dict.updateFrom "dict.__init__" s.heap.objs.size (.ref l) [] .none) _ _ _
  unfold Builtin.Dict.updateFrom
  refine wpAny_bind (wpAny_typeOf hT ?_)
  rw [if_pos (by decide)]
  refine wpAny_bind (noKeys (s := { s with heap := hD }) (show A.in1.handled = none from hh) (up _ _ hl) fun h1 tk1 k1 => ?_)
  have hl1 : h1.get? l = some { cls := .type "list", data := .seq vs.toArray n } := k1 _ _ (up _ _ hl)
  have hL1 : h1.IsList l vs.toArray := ⟨_, hl1, rfl, n, rfl⟩
  rw [if_pos (by rfl)]
  refine wpAny_bind (wpAny_rule ?_)
  refine wpAny_bind (wpAny_pyIter_list (s := { s with heap := h1, toks := tk1 }) hL1 ?_)
  have hDI : s.heap.objs.size < h1.objs.size := by
    obtain ⟨o, es, ep, q1, q2⟩ := hnew
    exact Heap.lt_size (k1 _ _ q1)
  refine wpAny_pure ⟨plainId_quiet plain_dloop _, ?_⟩
  refine dict_loop (l := l) (vs := vs) (ps := ps) (Ia := h1.objs.size) (show A.in1.handled = none from hh) (Nat.ne_of_lt hlt) (Nat.ne_of_lt (Nat.lt_trans hlt hDI)) (Nat.ne_of_lt hDI) vs.length 0 0 0 _ [] (by simp) (Nat.zero_le _) ⟨_, Heap.get?_push_size _ rfl, rfl, rfl⟩ ?_ ?_ ?_ (by simpa using hz) fun h2 tk2 k2 D2 => ?_
  · exact ⟨_, Heap.get?_push_of_some _ hl1, rfl, n, rfl⟩
  · exact hp.keeps fun b o _ e => Heap.get?_push_of_some _ (k1 _ _ (up _ _ e))
  · obtain ⟨o, es, ep, q1, q2⟩ := hnew
    exact ⟨o, es, ep, Heap.get?_push_of_some _ (k1 _ _ q1), q2⟩
  · refine ⟨rfl, h h2 tk2 D2 fun b o e => k2 b o (Nat.ne_of_lt (Heap.lt_size e)) (Nat.ne_of_lt (Nat.lt_trans (Heap.lt_size e) hDI)) (Heap.get?_push_of_some _ (k1 _ _ (up _ _ e)))⟩
end
end L2

set_option maxHeartbeats 4000000
namespace L2
open PySem PySem.Spec PyProof.Rows
def dictRun (m : List (Key × V)) (ps : List (Key × V)) : List (Key × V) := ps.foldl (fun m p => putK m p.1 p.2) m
theorem KV.fold : ∀ {ps : List (Key × V)} {us : List (Key × Value)} {m : List (Key × V)} {m' : List (Key × Value)}, KV ps us → KV m m' → KV (dictRun m ps) (us.foldl (fun m p => stored m p.1 p.2) m')
  | [], _, _, _, .nil, r => r
  | (k, v) :: ps, _, m, m', .cons (b := (k', u)) q rr, r => by
    obtain ⟨rfl, qv⟩ : k = k' ∧ RelV v u := q
    rename_i us
    have := KV.fold (ps := ps) (us := us) rr (r.put k qv)
    exact this
theorem dictRun_le : ∀ (ps m : List (Key × V)), (dictRun m ps).length ≤ m.length + ps.length
  | [], m => by show m.length ≤ _; simp
  | p :: ps, m => by
    have h1 := dictRun_le ps (putK m p.1 p.2)
    have h2 := length_putK m p.1 p.2
    show (dictRun (putK m p.1 p.2) ps).length ≤ _
    rw [List.length_cons]; omega
theorem tups_of {P : Program} {w : World} {H : Hp} {h : Heap} (ok : HOk P w H h) : ∀ (ts : List Addr) (ps : List (Key × V)), ts.length = ps.length → (∀ i, i < ps.length → ∃ k v, ps[i]? = some (k, v) ∧ H (ts.getD i 0) = some (.tup [kV k, v])) →
    ∃ us : List (Key × Value), KV ps us ∧ TupsIn P w h (ts.map Value.ref) us
  | [], [], _, _ => ⟨[], .nil, rfl, fun i v hv => by simp at hv⟩
  | [], _ :: _, e, _ => by simp at e
  | _ :: _, [], e, _ => by simp at e
  | t :: ts, (k, v) :: ps, e, hs => by
    obtain ⟨us, r, T⟩ := tups_of ok ts ps (by simpa using e) fun i hi => by
      obtain ⟨k', v', h1, h2⟩ := hs (i + 1) (by simp; omega)
      exact ⟨k', v', by simpa using h1, by simpa using h2⟩
    obtain ⟨k0, v0, g1, g2⟩ := hs 0 (by simp)
    have g1' : (k, v) = (k0, v0) := by simpa using g1
    cases g1'
    have g2' : H t = some (.tup [kV k, v]) := by simpa using g2
    obtain ⟨_, its, rv, o, q1, q2, n, q3⟩ := ok t _ g2'
    cases rv with
    | cons ra rr =>
      cases rr with
      | cons rb rr2 =>
        cases rr2
        rename_i ka vb
        refine ⟨(k, vb) :: us, .cons ⟨rfl, rb⟩ r, by simp [T.1], fun i x hx => ?_⟩
        cases i with
        | zero =>
          have hx' : Value.ref t = x := by simpa using hx
          exact ⟨t, o, n, ka, k, vb, hx'.symm, q1, q2, q3, kV_is ra, rfl⟩
        | succ i => exact T.2 i x (by simpa using hx)
section
variable {X : Cx}
def rDictP : List V → Hp → VK → Prop := fun xs H Q => ∃ (l : Addr) (ts : List Addr) (ps : List (Key × V)), xs = [.ref l] ∧ H l = some (.lst (ts.map V.ref)) ∧ ts.length = ps.length ∧ (∀ i, i < ps.length → ∃ k v, ps[i]? = some (k, v) ∧ H (ts.getD i 0) = some (.tup [kV k, v])) ∧ ps.length ≤ 4096 ∧
  ∀ D, H D = none → Q (.ref D) (upd H D (.dK (dictRun [] ps)))
theorem call_dictP (hc : X.calm = true) : CallR X (.type "dict") rDictP := by
  intro pins s σ H xs us Q I r h
  obtain ⟨l, ts, ps, rfl, hl, hlen, ht, hz, q⟩ := h
  obtain ⟨u1, rfl, r1⟩ := r.one
  obtain rfl : u1 = Value.ref l := r1
  obtain ⟨z, its, n, rv, _, e⟩ := I.lstM hl
  have hits : its = ts.map Value.ref := refs_of rv
  subst hits
  obtain ⟨vs, kv, T⟩ := tups_of I.hok ts ps hlen ht
  refine dict_call (I.ok.hd hc) e T (by rw [List.length_map, hlen]; exact hz) fun h' tk D k => ?_
  have hs : sysModules < s.heap.objs.size := Nat.lt_trans (by decide : sysModules < mainGlobals) (I.mod.glob.keeps I.bk).lt
  have I2 : Inv X pins σ (upd H s.heap.objs.size (.dK (dictRun [] ps))) { s with heap := h', toks := tk } := by
    refine I.laidN (t' := tk) k (Heap.get?_none_of_le (Nat.le_refl _)) ⟨?_, ?_, _, KV.fold kv .nil, D⟩
    · have := dictRun_le ps []
      exact Nat.le_trans this (Nat.le_trans (by simpa using hz) (by decide : 4096 ≤ sizeLine))
    · rw [beq_eq_false_iff_ne]
      exact Nat.ne_of_gt hs
  exact ⟨.ref s.heap.objs.size, _, I2, rfl, q _ (I.hok.fresh (Nat.le_refl _))⟩
theorem for_dict {d : Addr} {o : Obj} {kvs : List (Key × V)} {g : TG} {tb : TS} {D : Ends} {σ : St} {H : Hp} (Pv : Nat → St → Hp → Prop) (h0 : Pv 0 σ H) (hl : ∀ i σ H, i ≤ kvs.length → Pv i σ H → H d = some (.frz o (.dK kvs)))
    (hs : ∀ i k v σ H, kvs[i]? = some (k, v) → Pv i σ H → g (kV k) σ H fun σ2 H2 => tb { D with nx := Pv (i + 1), ct := Pv (i + 1), bk := D.nx } σ2 H2) (hd : ∀ σ H, Pv kvs.length σ H → D.nx σ H) :
    ∃ W : Nat → Nat → St → Hp → Prop, (∃ m, W 0 m σ H) ∧ ∀ i m σ H, W i m σ H →
      ((Itd d o kvs).stop i H ∧ D.nx σ H) ∨ ((Itd d o kvs).go i H ∧ ∃ N : St → Hp → Prop, (∀ σ' H', N σ' H' → ∃ m', m' < m ∧ W (i + 1) m' σ' H') ∧ ∀ x H', (Itd d o kvs).yld i H x H' → g x σ H' fun σ2 H2 => tb { D with nx := N, ct := N, bk := D.nx } σ2 H2) := by
  refine ⟨fun i m σ H => m = kvs.length - i ∧ i ≤ kvs.length ∧ Pv i σ H, ⟨kvs.length, by simp, Nat.zero_le _, h0⟩, ?_⟩
  rintro i m σ H ⟨rfl, hi, p⟩
  have q := hl i σ H hi p
  by_cases hlt : i < kvs.length
  · refine .inr ⟨⟨q, hlt⟩, Pv (i + 1), fun σ' H' p' => ⟨kvs.length - (i + 1), by omega, rfl, hlt, p'⟩, fun x H' y => ?_⟩
    obtain ⟨rfl, k, v, hk, rfl⟩ := y
    exact hs i k v σ _ hk p
  · have e : i = kvs.length := by omega
    subst e
    exact .inl ⟨⟨q, Nat.le_refl _⟩, hd σ H p⟩
end
end L2

set_option maxHeartbeats 4000000
namespace L2
open PySem PySem.Spec PyProof.Rows
section
variable {X : Cx}
theorem call_allB (hc : X.calm = true) : CallR X (.builtin "all") (fun xs H Q => ∃ (p : Addr) (bs : List Bool), xs = [.ref p] ∧ SqL X.K H p (bs.map V.bl) ∧ Q (.bl (bs.all id)) H) := by
  intro pins s σ H xs us Q I r h
  obtain ⟨p, bs, rfl, hp, q⟩ := h
  obtain ⟨u1, rfl, r1⟩ := r.one
  obtain rfl : u1 = Value.ref p := r1
  obtain ⟨its, rv, pl, hz⟩ := I.list hp
  have hits : its = bs.map Value.bool := by
    have go : ∀ (bs : List Bool) (its : List Value), Vals (bs.map V.bl) its → its = bs.map Value.bool := by
      intro bs
      induction bs with
      | nil => intro its r; cases r; rfl
      | cons b bs ih =>
        intro its r
        cases r with
        | cons r rr =>
          obtain rfl := (show _ = Value.bool b from r)
          rw [ih _ rr]; rfl
    exact go bs its rv
  subst hits
  obtain ⟨ob, hob, _⟩ := id pl.isList
  have hlt : p < s.heap.objs.size := Heap.lt_size hob
  refine call_all_walk (wpAny_pyIter_list pl.isList ⟨s.heap.objs.size, _, _, _, _, _, fun i => bs.getD i true, rfl, Walks.list (show X.A.in1.handled = none from I.ok.hd hc) _ p (Nat.ne_of_lt hlt) _, ⟨⟨_, Heap.get?_push_size _ rfl, rfl, rfl⟩, pl.isList.push _⟩, fun i v s1 Q' E' hv hq => ?_, fun h' tk k => ?_⟩)
  · have hv' : (bs.map Value.bool)[i]? = some v := by simpa using hv
    rw [List.getElem?_map] at hv'
    cases eb : bs[i]? with
    | none => rw [eb] at hv'; cases hv'
    | some b =>
      rw [eb] at hv'
      obtain rfl : Value.bool b = v := Option.some.inj hv'
      have : bs.getD i true = b := by rw [List.getD_eq_getElem?_getD, eb]; rfl
      have hq' : Q' b s1 := by rw [← this]; exact hq
      exact wpAny_pure hq'
  · have keep : ∀ b o, s.heap.get? b = some o → h'.get? b = some o := fun b o e => k b o (by simpa using Nat.ne_of_lt (Heap.lt_size e)) (Heap.get?_push_of_some _ e)
    refine ⟨.bl (bs.all id), H, I.kept (t' := tk) keep, ?_, q⟩
    show Value.bool _ = Value.bool _
    congr 1
    have go : ∀ (bs : List Bool), ((List.range bs.length).all fun i => bs.getD i true) = bs.all id := by
      intro bs
      induction bs with
      | nil => rfl
      | cons b bs ih =>
        rw [List.length_cons, List.range_succ_eq_map, List.all_cons, List.all_map, List.all_cons, ← ih]
        rfl
    rw [← go bs]
    simp

/-! ### list.remove of an int that is there -/
def rRemove : V → List V → Hp → VK → Prop := fun x vs H Q => ∃ (l : Addr) (ns : List Int) (z : Int), x = .ref l ∧ vs = [.int z] ∧ H l = some (.lst (ns.map V.int)) ∧ z ∈ ns ∧ Q .non (upd H l (.lst ((ns.eraseIdx (ns.idxOf z)).map V.int)))
theorem ints_of : ∀ {ns : List Int} {its : List Value}, Vals (ns.map V.int) its → ∀ i (h : i < its.length) (h' : i < ns.length), ∃ t, its[i] = Value.int ns[i] t
  | [], _, .nil, i, h, _ => by simp at h
  | n :: ns, _, .cons ⟨t, e⟩ r, 0, _, _ => ⟨t, e⟩
  | n :: ns, _, .cons _ r, i + 1, h, h' => ints_of r i (by simpa using h) (by simpa using h')
def isI (z : Int) (v : Value) : Bool := match v with
  | .int y _ => y == z
  | _ => false
theorem mt_remove : MtM X "list.remove" rRemove := by
  intro pins s σ H x vs v us Q I rx rv h
  obtain ⟨l, ns, z, rfl, rfl, hH, hz, q⟩ := h
  cases rx
  obtain ⟨u, rfl, ru⟩ := rv.one
  obtain ⟨t, rfl⟩ := ru
  obtain ⟨zz, its, n, r, hl, e⟩ := I.lstM hH
  have hlen : its.length = ns.length := by have := r.length; rw [List.length_map] at this; exact this.symm
  have hj : ns.idxOf z < ns.length := List.idxOf_lt_length_iff.mpr hz
  have at_ : ∀ i (h : i < its.length), ∃ t, its[i] = Value.int (ns[i]'(by omega)) t := fun i h => ints_of r i h (by omega)
  refine call_meets F.slot_list_remove ⟨_, e, rfl⟩ F.entry_list_remove (F.args_list_remove_2 _ _)
    (MeetsSeq.list_remove l its.toArray n (.int z t) (isI z) (fun y hy => ?_) (ns.idxOf z) (by simpa [hlen] using hj) ?_ (fun m hm hlt => ?_) (by rw [List.size_toArray, hlen]; rw [List.length_map] at zz; exact zz)) ⟨e, ?_⟩
  · obtain ⟨i, hi, rfl⟩ := List.mem_iff_getElem.mp (show y ∈ its by simpa using hy)
    obtain ⟨t', e'⟩ := at_ i hi
    rw [e']
    exact MeetsSeq.EqGives.int _ _ _ _
  · obtain ⟨t', e'⟩ := at_ (ns.idxOf z) (by omega)
    have e2 : its.toArray[ns.idxOf z]'(by simpa [hlen] using hj) = its[ns.idxOf z]'(by omega) := by simp
    rw [e2, e']
    show (ns[ns.idxOf z] == z) = true
    rw [List.getElem_idxOf]; simp
  · obtain ⟨t', e'⟩ := at_ m (by simpa using hm)
    have e2 : its.toArray[m] = its[m]'(by simpa using hm) := by simp
    rw [e2, e']
    show (ns[m] == z) = false
    have := List.not_of_lt_findIdx (p := (· == z)) (xs := ns) (i := m) hlt
    simpa using this
  · refine ⟨.non, _, I.lset (its' := its.eraseIdx (ns.idxOf z)) hH e ?_ ?_ ?_, rfl, q⟩
    · show its.toArray.eraseIdxIfInBounds _ = _
      rw [List.eraseIdxIfInBounds_toArray]
    · have em : ∀ (l : List Int) (j : Nat), (l.eraseIdx j).map V.int = (l.map V.int).eraseIdx j := by
        intro l
        induction l with
        | nil => intro j; rfl
        | cons y l ih =>
          intro j
          cases j with
          | zero => rfl
          | succ j => simp only [List.eraseIdx_cons_succ, List.map_cons, ih]
      rw [em]
      exact r.eraseIdx _
    · rw [List.length_map, List.length_eraseIdx]
      rw [List.length_map] at zz
      split <;> omega
end
end L2

set_option maxHeartbeats 4000000
namespace L2
open PySem PySem.Spec PyProof.Rows
/-! ### words for whole laws: a def that is called by its name; what stays -/
structure Cal (P : Program) (w : World) (K : PySem.W.Frag) (mg : Str → Option Value) (base : Heap) (CX : CXT) (k : Nat) (x : Str) (ps : List Str) (sp : Sp) : Prop where
  ex : ∃ f fd, mg x = some (.ref f) ∧ PySem.W.keepIn K (.ref f) = true ∧ Binds K fd ps [] ∧ FnOk P w K mg base CX k f fd ps sp
theorem pe_cal {X : Cx} {CX : CXT} {k : Nat} {x : Str} {ps : List Str} {sp : Sp} {E : XK} {e : Expr} {es : List Expr} {t : TA} {p pos : Pos} (C : Cal X.prog X.w X.K X.mg X.base CX k x ps sp) (hr : Room k X.A) (hx : Passes CX X E) (ha : PA X (e :: es) t) (hg : Gl X x := by rfl)
    (hdb : (x == ("__debug__" : Str)) = false := by decide) (he : starEach (e :: es) X.env = (false, eval e X.env) :: starEach es X.env := by rfl) (hpl : (backTo pos (starEach es X.env)).any (·.1) = false := by rfl) :
    PE X (.Call (.Name x p) (e :: es) [] pos) (tCall sp [] E t) := by
  obtain ⟨f, fd, a, b, c, d⟩ := C.ex
  exact pe_call d hr hg a b c .nil hx ha hdb he hpl
theorem same_new {H : Hp} {D : Addr} {o : HO} (h : H D = none) : Same H (upd H D o) := fun b u e => by rw [upd_ne (ne_of_none e h)]; exact e
/-- all but p stays -/
def SameE (p : Addr) (H H' : Hp) : Prop := ∀ b o, H b = some o → b ≠ p → H' b = some o
theorem SameE.refl {p : Addr} {H : Hp} : SameE p H H := fun _ _ h _ => h
theorem SameE.trans {p : Addr} {H H1 H2 : Hp} (a : SameE p H H1) (b : SameE p H1 H2) : SameE p H H2 := fun c o h n => b c o (a c o h n) n
theorem SameE.upd {p : Addr} {H : Hp} {o : HO} : SameE p H (upd H p o) := fun b u h n => by rw [upd_ne n]; exact h
theorem SameE.of {p : Addr} {H H' : Hp} (s : Same H H') : SameE p H H' := fun b o h _ => s b o h
theorem SameE.free {p q : Addr} {H H' : Hp} (s : SameE p H H') (hp : H' p ≠ none) (h : H' q = none) : H q = none := by
  cases z : H q with
  | none => rfl
  | some o =>
    by_cases e : q = p
    · subst e; exact absurd h hp
    · rw [s q o z e] at h; cases h
theorem ixN_nat {n j : Nat} (h : j < n) : ixN n (j : Int) = some j := by
  unfold ixN
  rw [if_pos (by omega), if_pos (by omega)]
  simp
theorem getD_snoc {as : List Addr} {t : Addr} {j n : Nat} (h : as.length = n) : (as ++ [t]).getD j 0 = if j = n then t else as.getD j 0 := by
  rw [List.getD_eq_getElem?_getD, List.getD_eq_getElem?_getD]
  by_cases hj : j = n
  · subst hj; subst h
    rw [if_pos rfl, List.getElem?_append_right (Nat.le_refl _), Nat.sub_self]; rfl
  · rw [if_neg hj]
    by_cases hlt : j < as.length
    · rw [List.getElem?_append_left hlt]
    · rw [List.getElem?_append_right (by omega), List.getElem?_eq_none (by simp; omega), List.getElem?_eq_none (by omega)]
/-- what a list of addresses holds, one by one -/
def Holds (H : Hp) (as : List Addr) (n : Nat) (o : Nat → HO) : Prop := as.length = n ∧ ∀ j, j < n → H (as.getD j 0) = some (o j)
theorem Holds.nil {H : Hp} {o : Nat → HO} : Holds H [] 0 o := ⟨rfl, fun j hj => absurd hj (by omega)⟩
theorem Holds.snoc {H : Hp} {as : List Addr} {n : Nat} {o : Nat → HO} {t : Addr} (h : Holds H as n o) (ht : H t = some (o n)) : Holds H (as ++ [t]) (n + 1) o := by
  refine ⟨by rw [List.length_append, h.1]; rfl, fun j hj => ?_⟩
  rw [getD_snoc h.1]
  by_cases e : j = n
  · rw [if_pos e, e]; exact ht
  · rw [if_neg e]; exact h.2 j (by omega)
theorem Holds.mono {H H' : Hp} {as : List Addr} {n : Nat} {o : Nat → HO} (h : Holds H as n o) (e : ∀ j, j < n → H (as.getD j 0) = some (o j) → H' (as.getD j 0) = some (o j)) : Holds H' as n o := ⟨h.1, fun j hj => e j hj (h.2 j hj)⟩
end L2

set_option maxHeartbeats 4000000
namespace K61
open PySem L2
def top (i : Nat) : Stmt := PySem.Challenge.pw_neverwait_k61_chains_judged.main.body.getD i (.Pass ⟨0, 0, 0, 0⟩)
abbrev sPot : Stmt := top 9
abbrev sTake : Stmt := top 10
abbrev sShuf : Stmt := top 11
structure Bl (mg : Str → Option Value) : Prop where
  isi : mg "isinstance" = none
  int : mg "int" = none
  bool : mg "bool" = none
  lst : mg "list" = none
  tup : mg "tuple" = none
  dict : mg "dict" = none
  len : mg "len" = none
  range : mg "range" = none
  enum : mg "enumerate" = none
  all : mg "all" = none
  abs : mg "abs" = none
  max : mg "max" = none
  min : mg "min" = none
  repr : mg "repr" = none
/-- a pot of digits -/
def PotAt (H : Hp) (p : Addr) : Prop := ∃ a b : Int, H p = some (.lst [.int a, .int b]) ∧ 0 ≤ a ∧ 0 ≤ b ∧ b < 2147483647
theorem PotAt.same {H H' : Hp} {p : Addr} (h : PotAt H p) (s : Same H H') : PotAt H' p := let ⟨a, b, e, r⟩ := h; ⟨a, b, s _ _ e, r⟩
theorem PotAt.upd {H : Hp} {p : Addr} {a b : Int} (h1 : 0 ≤ a) (h2 : 0 ≤ b) (h3 : b < 2147483647) : PotAt (upd H p (.lst [.int a, .int b])) p := ⟨a, b, upd_same, h1, h2, h3⟩
section
variable {P : Program} {w : World} {K : PySem.W.Frag} {mg : Str → Option Value} {base : Heap}
theorem scPot : FnScope ["_law_script", "_law_k", "_law_cell", "_law_mixed"] ["_law_script", "_law_k"] (defScope sPot) := ⟨rfl, rfl, rfl, by decide +kernel, rfl, by decide +kernel, by decide +kernel⟩
def spPot (K : PySem.W.Frag) : Sp := fun vs H Q _ => ∃ (a : Addr) (ns : List Int) (k : Nat), vs = [.ref a, .int k] ∧ SqL K H a (ns.map V.int) ∧ k < 64 ∧ ∀ (r : Addr) (H' : Hp), Same H H' → H r = none → PotAt H' r → Q (.ref r) H'
theorem pow_lt {x : Int} (h0 : 0 ≤ x) (h1 : x < 2 ^ 63) : x.natAbs < 2 ^ 64 := by omega
theorem ok_pot {f : Addr} {fd : FuncData} (F : Fun K "_law_pot" "_law_pot" sPot f fd) (B : Bl mg) : FnOk P w K mg base CX0 1 f fd ["_law_script", "_law_k"] (spPot K) := by
  refine F.ok scPot (fun vs H Q E h => ?_) (fun cdv A outer s H vs Q E hr h => ?_)
  · obtain ⟨a, ns, k, rfl, _⟩ := h
    rfl
  · obtain ⟨a, ns, k, rfl, hS, hk, q⟩ := h
    refine ⟨_, pss_cons (ps_set (i := 2) scPot.nd rfl (Or.inl rfl) pe_int)
      (pss_cons (ps_if (pt_cmpR op_lt (pv 1) (pe_callB call_len_seq (by rfl) B.len PySem.boot_len (pa_cons (pv 0) pa_nil)) (nomark _)) (pss_one (ps_set (i := 2) scPot.nd rfl (Or.inl rfl) (pe_ix ix_list (pv 0) (pv 1) (fun _ _ => rfl)))) pss_nil)
      (pss_cons (ps_set (i := 3) scPot.nd rfl (Or.inl rfl) (pe_op op_mod (pe_op op_pow (pe_op op_add (pe_op op_add (pe_op op_mod (pe_callB call_abs (by rfl) B.abs PyProof.Rows.boot_abs (pa_cons (pv 2) pa_nil)) pe_int) (pe_op op_mul pe_int (pv 1))) pe_int) pe_int) pe_int))
      (pss_one (ps_ret (pe_lst (pa_cons (pe_callB (call_max2 rfl) (by rfl) B.max PyProof.Rows.boot_max (pa_cons pe_int (pa_cons (pe_op op_sub (pv 2) (pe_op op_pow pe_int pe_int)) pa_nil))) (pa_cons (pv 3) pa_nil))))))), ?_⟩
    refine ⟨_, rfl, _, rfl, a, ns.map V.int, rfl, .inl hS, _, _, rfl, rfl, _, rfl, ?_⟩
    have fin : ∀ c : Int, 0 ≤ (if c < 0 then -c else c) := fun c => by split <;> omega
    refine ite2 (fun e => ?_) (fun e => ?_)
    · have hlt : k < ns.length := by
        have : (k : Int) < ((ns.map V.int).length : Int) := by simpa using e
        rw [List.length_map] at this; omega
      refine ⟨_, rfl, _, rfl, a, _, _, _, rfl, rfl, hS, atI_nat (v := .int ns[k]) (by rw [List.getElem?_map, List.getElem?_eq_getElem hlt]; rfl), ?_⟩
      have m0 : 0 ≤ (if ns[k] < 0 then -ns[k] else ns[k]) % 2147483587 := Int.emod_nonneg _ (by decide)
      have m1 : (if ns[k] < 0 then -ns[k] else ns[k]) % 2147483587 < 2147483587 := Int.emod_lt_of_pos _ (by decide)
      refine ⟨_, rfl, _, rfl, _, _, rfl, rfl, (by show (0 : Int) < 2147483587; decide), _, rfl, _, _, rfl, rfl, .inl ⟨by decide, by decide⟩, _, _, rfl, rfl, _, _, rfl, rfl, _, _, rfl, rfl, ⟨by decide, by decide, pow_lt (by omega) (by omega)⟩, _, _, rfl, rfl, (by show (0 : Int) < 2147483629; decide), ?_⟩
      refine ⟨_, rfl, _, _, rfl, rfl, ⟨by decide, by decide, by decide⟩, _, _, rfl, rfl, 0, _, rfl, _, rfl, by show 2 ≤ sizeLine; decide, fun r hr' => ?_⟩
      refine q r _ (same_new hr') hr' ⟨_, _, upd_same, ?_, Int.emod_nonneg _ (by decide), Int.lt_trans (Int.emod_lt_of_pos _ (by decide)) (by decide)⟩
      split <;> omega
    · have m0 : 0 ≤ (if (0 : Int) < 0 then -0 else (0 : Int)) % 2147483587 := by decide
      have m1 : (if (0 : Int) < 0 then -0 else (0 : Int)) % 2147483587 < 2147483587 := by decide
      refine ⟨_, rfl, _, rfl, _, _, rfl, rfl, (by show (0 : Int) < 2147483587; decide), _, rfl, _, _, rfl, rfl, .inl ⟨by decide, by decide⟩, _, _, rfl, rfl, _, _, rfl, rfl, _, _, rfl, rfl, ⟨by decide, by decide, pow_lt (by omega) (by omega)⟩, _, _, rfl, rfl, (by show (0 : Int) < 2147483629; decide), ?_⟩
      refine ⟨_, rfl, _, _, rfl, rfl, ⟨by decide, by decide, by decide⟩, _, _, rfl, rfl, 0, _, rfl, _, rfl, by show 2 ≤ sizeLine; decide, fun r hr' => ?_⟩
      refine q r _ (same_new hr') hr' ⟨_, _, upd_same, ?_, Int.emod_nonneg _ (by decide), Int.lt_trans (Int.emod_lt_of_pos _ (by decide)) (by decide)⟩
      split <;> omega
theorem scTake : FnScope ["_law_pot_here", "_law_many", "_law_digit"] ["_law_pot_here", "_law_many"] (defScope sTake) := ⟨rfl, rfl, rfl, by decide +kernel, rfl, by decide +kernel, by decide +kernel⟩
def spTake : Sp := fun vs H Q _ => ∃ (p : Addr) (m : Int), vs = [.ref p, .int m] ∧ 0 < m ∧ m < 1000000 ∧ PotAt H p ∧ ∀ (d a b : Int), 0 ≤ d → d < m → 0 ≤ a → 0 ≤ b → b < 2147483647 → Q (.int d) (upd H p (.lst [.int a, .int b]))
theorem ok_take {f : Addr} {fd : FuncData} (F : Fun K "_law_take" "_law_take" sTake f fd) : FnOk P w K mg base CX0 1 f fd ["_law_pot_here", "_law_many"] spTake := by
  refine F.ok scTake (fun vs H Q E h => ?_) (fun cdv A outer s H vs Q E hr h => ?_)
  · obtain ⟨p, m, rfl, _⟩ := h
    rfl
  · obtain ⟨p, m, rfl, m0, m1, ⟨a, b, hp, a0, b0, b1⟩, q⟩ := h
    refine ⟨_, pss_cons (ps_if (pt_cmpR op_gt (pe_ix ix_list (pv 0) pe_int (fun _ _ => rfl)) pe_int (nomark _))
        (pss_cons (ps_set (i := 2) scTake.nd rfl (Or.inl rfl) (pe_op op_mod (pe_ix ix_list (pv 0) pe_int (fun _ _ => rfl)) (pv 1)))
        (pss_cons (ps_asg (pe_op op_fdiv (pe_ix ix_list (pv 0) pe_int (fun _ _ => rfl)) (pv 1)) (pg_sub (pv 0) pe_int set_list))
        (pss_one (ps_ret (pv 2))))) pss_nil)
      (pss_cons (ps_asg (pe_op op_mod (pe_op op_add (pe_op op_mul (pe_ix ix_list (pv 0) pe_int (fun _ _ => rfl)) pe_int) pe_int) pe_int) (pg_sub (pv 0) pe_int set_list))
      (pss_one (ps_ret (pe_op op_mod (pe_op op_fdiv (pe_op op_mod (pe_op op_mul (pe_ix ix_list (pv 0) pe_int (fun _ _ => rfl)) (pe_ix ix_list (pv 0) pe_int (fun _ _ => rfl))) pe_int) pe_int) (pv 1))))), ?_⟩
    have g0 : atI [V.int a, V.int b] 0 = some (.int a) := atI_nat (j := 0) rfl
    have g1 : atI [V.int a, V.int b] 1 = some (.int b) := atI_nat (j := 1) rfl
    refine ⟨_, rfl, p, _, _, _, rfl, rfl, SqL.of hp, g0, _, _, rfl, rfl, _, rfl, ?_⟩
    refine ite2 (fun e => ?_) (fun e => ?_)
    · refine ⟨_, rfl, p, _, _, _, rfl, rfl, SqL.of hp, g0, _, rfl, _, _, rfl, rfl, m0, ?_⟩
      refine ⟨_, rfl, p, _, _, _, rfl, rfl, SqL.of hp, g0, _, rfl, _, _, rfl, rfl, ⟨m0, by omega⟩, ?_⟩
      refine ⟨_, rfl, p, _, 0, 0, rfl, rfl, hp, ixN_nat (j := 0) (by show 0 < 2; decide), ?_⟩
      refine ⟨_, rfl, ?_⟩
      exact q _ _ _ (Int.emod_nonneg _ (by omega)) (Int.emod_lt_of_pos _ m0) (Int.ediv_nonneg a0 (by omega)) b0 b1
    · refine ⟨_, rfl, p, _, _, _, rfl, rfl, SqL.of hp, g1, _, _, rfl, rfl, .inl ⟨by omega, by omega⟩, _, _, rfl, rfl, _, _, rfl, rfl, (by show (0 : Int) < 2147483647; decide), ?_⟩
      refine ⟨_, rfl, p, _, 1, 1, rfl, rfl, hp, ixN_nat (j := 1) (by show 1 < 2; decide), ?_⟩
      have c0 : 0 ≤ (b * 39373 + 20011) % 2147483647 := Int.emod_nonneg _ (by decide)
      have c1 : (b * 39373 + 20011) % 2147483647 < 2147483647 := Int.emod_lt_of_pos _ (by decide)
      refine ⟨_, rfl, p, _, _, _, rfl, rfl, SqL.of upd_same, atI_nat (j := 1) rfl, _, rfl, p, _, _, _, rfl, rfl, SqL.of upd_same, atI_nat (j := 1) rfl, _, _, rfl, rfl, .inl ⟨by omega, by omega⟩, _, _, rfl, rfl, (by show (0 : Int) < 2147483563; decide), _, _, rfl, rfl, ⟨by decide, by decide⟩, _, rfl, _, _, rfl, rfl, m0, ?_⟩
      exact q _ _ _ (Int.emod_nonneg _ (by omega)) (Int.emod_lt_of_pos _ m0) a0 c0 c1
theorem scShuf : FnScope ["_law_pot_here", "_law_some", "_law_found", "_law_one"] ["_law_pot_here", "_law_some"] (defScope sShuf) := ⟨rfl, rfl, rfl, by decide +kernel, rfl, by decide +kernel, by decide +kernel⟩
def spShuf (K : PySem.W.Frag) : Sp := fun vs H Q _ => ∃ (p l : Addr) (xs : List V), vs = [.ref p, .ref l] ∧ PotAt H p ∧ H l = some (.lst xs) ∧ l ≠ p ∧ xs.length < 4096 ∧ ∀ (r : Addr) (ys : List V) (H' : Hp), ys.Perm xs → SameE p H H' → PotAt H' p → H r = none → H' r = some (.lst ys) → Q (.ref r) H'
theorem ok_shuf {f : Addr} {fd : FuncData} (F : Fun K "_law_shuffled" "_law_shuffled" sShuf f fd) (B : Bl mg) (T : Cal P w K mg base CX0 1 "_law_take" ["_law_pot_here", "_law_many"] spTake) : FnOk P w K mg base CX0 2 f fd ["_law_pot_here", "_law_some"] (spShuf K) := by
  refine F.ok scShuf (fun vs H Q E h => ?_) (fun cdv A outer s H vs Q E hr h => ?_)
  · obtain ⟨p, l, xs, rfl, _⟩ := h
    rfl
  · obtain ⟨p, l, xs, rfl, hp, hl, hlp, hz, q⟩ := h
    refine ⟨_, pss_cons (ps_set (i := 2) scShuf.nd rfl (Or.inl rfl) (pe_lst pa_nil))
      (pss_cons (ps_for PassesOwn.never rfl (pi_list (pv 1)) (pg_name (i := 3) scShuf.nd rfl (Or.inl rfl))
        (pss_one (ps_expr (pe_bm PySem.F.plainAttrs_list PySem.F.slot_list_insert PySem.F.type_list_insert mt_insert (pv 2) (pa_cons (pe_cal T hr pass0 (pa_cons (pv 0) (pa_cons (pe_op op_add (pe_callB call_len_seq (by rfl) B.len PySem.boot_len (pa_cons (pv 2) pa_nil)) pe_int) pa_nil))) (pa_cons (pv 3) pa_nil))))))
      (pss_one (ps_ret (pv 2)))), ?_⟩
    refine ⟨by show 0 ≤ sizeLine; decide, fun D hD => ?_⟩
    have nl : l ≠ D := ne_of_none hl hD
    have np : p ≠ D := by obtain ⟨a, b, e, _⟩ := hp; exact ne_of_none e hD
    refine ⟨_, rfl, l, rfl, ⟨_, SqL.of (by rw [upd_ne nl]; exact hl)⟩, for_list (K := K) (a := l) (xs := xs) (fun i σ H2 => (∃ v, σ = [some (.ref p), some (.ref l), some (.ref D), v]) ∧ SameE p H H2 ∧ PotAt H2 p ∧ ∃ ys, H2 D = some (.lst ys) ∧ ys.Perm (xs.take i)) ⟨⟨_, rfl⟩, SameE.of (same_new hD), hp.same (same_new hD), [], upd_same, by simp⟩ (fun i σ H2 _ ⟨_, sm, _⟩ => SqL.of (sm _ _ hl hlp)) ?_ ?_⟩
    · rintro i x σ H2 hx ⟨⟨v, rfl⟩, sm, p2, ys, hD2, pm⟩
      have hi := (List.getElem?_eq_some_iff.mp hx).1
      have hly : ys.length = i := by rw [pm.length_eq, List.length_take]; omega
      refine ⟨_, rfl, .inl ⟨rfl, _, SqL.of hD2⟩, _, rfl, _, rfl, D, ys, rfl, .inl (SqL.of hD2), _, _, rfl, rfl, p, _, rfl, by omega, by omega, p2, fun d a b d0 d1 a0 b0 b1 => ?_⟩
      refine ⟨_, rfl, D, ys, d, d.toNat, x, rfl, rfl, by omega, by rw [upd_ne np.symm]; exact hD2, by omega, by omega, ?_⟩
      refine ⟨⟨_, rfl⟩, fun b' o e h => ?_, ⟨a, b, by rw [upd_ne np, upd_same], a0, b0, b1⟩, _, upd_same, ?_⟩
      · rw [upd_ne (ne_of_none e hD), upd_ne h]; exact sm _ _ e h
      · have e1 : xs.take (i + 1) = xs.take i ++ [x] := by rw [List.take_add_one, hx]; rfl
        rw [e1]
        have e2 : (ys.take d.toNat ++ [x] ++ ys.drop d.toNat).Perm (ys ++ [x]) := by
          have h1 : (ys.take d.toNat ++ [x] ++ ys.drop d.toNat).Perm (ys.take d.toNat ++ (ys.drop d.toNat ++ [x])) := by
            rw [List.append_assoc]
            exact List.Perm.append_left _ List.perm_append_comm
          rw [← List.append_assoc, List.take_append_drop] at h1
          exact h1
        exact e2.trans (pm.append_right [x])
    · rintro σ H2 ⟨⟨v, rfl⟩, sm, p2, ys, hD2, pm⟩
      rw [List.take_length] at pm
      exact ⟨_, rfl, q D ys H2 pm sm p2 hD hD2⟩
end
end K61

set_option maxHeartbeats 4000000
namespace K61
open PySem L2
/-! ### nets: which houses lead where; as many in as out -/
abbrev NV (js : List Nat) : List V := js.map fun (j : Nat) => V.int j
def inn (g : Nat → List Nat) (n x : Nat) : Nat := (List.range n).countP fun o => decide (x ∈ g o)
def addP (g : Nat → List Nat) (p : Nat × Nat) : Nat → List Nat := fun h => if h = p.1 then g h ++ [p.2] else g h
theorem addP_at {g : Nat → List Nat} {a b : Nat} : addP g (a, b) a = g a ++ [b] := by unfold addP; rw [if_pos rfl]
theorem addP_ne {g : Nat → List Nat} {p : Nat × Nat} {h : Nat} (e : h ≠ p.1) : addP g p h = g h := by unfold addP; rw [if_neg e]
theorem addP_len {g : Nat → List Nat} {p : Nat × Nat} {x : Nat} : (addP g p x).length = (g x).length + (if p.1 = x then 1 else 0) := by
  unfold addP
  by_cases e : x = p.1
  · rw [if_pos e, if_pos e.symm, List.length_append]; rfl
  · rw [if_neg e, if_neg (fun z => e z.symm)]; omega
theorem inn_add {g : Nat → List Nat} {a b x : Nat} (hb : b ∉ g a) : ∀ n, inn (addP g (a, b)) n x = inn g n x + (if a < n ∧ b = x then 1 else 0)
  | 0 => by simp [inn]
  | n + 1 => by
    have ih := inn_add (x := x) hb n
    unfold inn at ih ⊢
    rw [List.range_succ, List.countP_append, List.countP_append, ih]
    have e1 : ∀ g : Nat → List Nat, List.countP (fun o => decide (x ∈ g o)) [n] = if x ∈ g n then 1 else 0 := by
      intro g; rw [List.countP_singleton]; simp
    rw [e1, e1]
    by_cases ha : a = n
    · subst ha
      rw [addP_at]
      by_cases hx : b = x
      · subst hx
        have i1 : b ∈ g a ++ [b] := List.mem_append.mpr (.inr (List.mem_singleton.mpr rfl))
        have i2 : ¬ (a < a ∧ b = b) := fun z => absurd z.1 (Nat.lt_irrefl _)
        have i3 : a < a + 1 ∧ b = b := ⟨Nat.lt_succ_self _, rfl⟩
        rw [if_neg hb, if_pos i1, if_neg i2, if_pos i3]
      · have h1 : (x ∈ g a ++ [b]) ↔ x ∈ g a := by
          rw [List.mem_append, List.mem_singleton]
          exact ⟨fun h => h.elim id (fun z => absurd z.symm hx), .inl⟩
        simp only [h1]
        have i2 : ¬ (a < a ∧ b = x) := fun z => hx z.2
        have i3 : ¬ (a < a + 1 ∧ b = x) := fun z => hx z.2
        simp only [if_neg i2, if_neg i3]
        omega
    · rw [addP_ne (fun z => ha z.symm)]
      have : (a < n ∧ b = x) ↔ (a < n + 1 ∧ b = x) := by omega
      simp only [this]
      omega
/-- a right net: no house twice, none its own, as many in as out -/
structure Good (n : Nat) (g : Nat → List Nat) : Prop where
  nd : ∀ h, h < n → (g h).Nodup
  lt : ∀ h, h < n → ∀ o ∈ g h, o < n ∧ o ≠ h
  le : ∀ h, h < n → (g h).length ≤ 8
  bal : ∀ h, h < n → (g h).length = inn g n h
theorem foldP : ∀ (ps : List (Nat × Nat)) (g : Nat → List Nat) (n : Nat), (ps.map (·.1)).Nodup → (∀ p ∈ ps, p.1 < n ∧ p.2 < n ∧ p.2 ≠ p.1 ∧ p.2 ∉ g p.1 ∧ (g p.1).length < 8) →
    (∀ h, h < n → (g h).Nodup) → (∀ h, h < n → ∀ o ∈ g h, o < n ∧ o ≠ h) → (∀ h, h < n → (g h).length ≤ 8) →
    (∀ h, h < n → (ps.foldl addP g h).Nodup) ∧ (∀ h, h < n → ∀ o ∈ ps.foldl addP g h, o < n ∧ o ≠ h) ∧ (∀ h, h < n → (ps.foldl addP g h).length ≤ 8) ∧
    (∀ h, (ps.foldl addP g h).length = (g h).length + (ps.map (·.1)).count h) ∧ (∀ h, inn (ps.foldl addP g) n h = inn g n h + (ps.map (·.2)).count h) ∧ (∀ h, h ∉ ps.map (·.1) → ps.foldl addP g h = g h)
  | [], g, n, _, _, a, b, c => ⟨a, b, c, fun h => by simp, fun h => by simp, fun h _ => rfl⟩
  | (x, y) :: ps, g, n, hn, hp, a, b, c => by
    obtain ⟨h1, h2, h3, h4, h5⟩ := hp (x, y) List.mem_cons_self
    dsimp only at h1 h2 h3 h4 h5
    have hx : x ∉ ps.map (·.1) := (List.nodup_cons.mp hn).1
    have nx : ∀ p ∈ ps, p.1 ≠ x := fun p hp z => hx (z ▸ List.mem_map_of_mem hp)
    obtain ⟨r1, r2, r3, r4, r5, r6⟩ := foldP ps (addP g (x, y)) n (List.nodup_cons.mp hn).2
      (fun p q => by
        rw [addP_ne (nx p q)]
        exact hp p (List.mem_cons_of_mem _ q))
      (fun h hh => by
        by_cases e : h = x
        · subst e; rw [addP_at]
          exact List.nodup_append.mpr ⟨a _ hh, (List.nodup_cons.mpr ⟨(fun z => nomatch z), List.nodup_nil⟩), fun u hu v hv z => h4 (by rw [List.mem_singleton] at hv; rw [← hv, ← z]; exact hu)⟩
        · rw [addP_ne e]; exact a h hh)
      (fun h hh o ho => by
        by_cases e : h = x
        · subst e; rw [addP_at] at ho
          rcases List.mem_append.mp ho with q | q
          · exact b _ hh o q
          · rw [List.mem_singleton.mp q]; exact ⟨h2, h3⟩
        · rw [addP_ne e] at ho; exact b h hh o ho)
      (fun h hh => by
        by_cases e : h = x
        · subst e; rw [addP_at, List.length_append]; exact h5
        · rw [addP_ne e]; exact c h hh)
    refine ⟨r1, r2, r3, fun h => ?_, fun h => ?_, fun h hh => ?_⟩
    · rw [List.foldl_cons, r4, addP_len, List.map_cons, List.count_cons]
      simp only [beq_iff_eq]
      omega
    · rw [List.foldl_cons, r5, inn_add h4, List.map_cons, List.count_cons]
      simp only [beq_iff_eq]
      have : (x < n ∧ y = h) ↔ y = h := ⟨fun z => z.2, fun z => ⟨h1, z⟩⟩
      simp only [this]
      omega
    · rw [List.foldl_cons, r6 h (fun z => hh (List.mem_cons_of_mem _ z)), addP_ne (fun z => hh (by rw [z]; exact List.mem_cons_self))]
/-- the row, each house with the one behind it -/
def rot (row : List Nat) : List Nat := row.getLast?.toList ++ row.dropLast
theorem rot_perm {row : List Nat} : (rot row).Perm row := by
  rcases List.eq_nil_or_concat row with e | ⟨l, x, e⟩
  · subst e; exact .refl _
  · subst e
    rw [List.concat_eq_append]
    unfold rot
    rw [List.getLast?_concat, List.dropLast_concat]
    exact List.perm_append_comm
def prs (row : List Nat) : List (Nat × Nat) := List.zip (rot row) row
theorem prs_fst {row : List Nat} : (prs row).map (·.1) = rot row := by
  unfold prs
  rw [← List.unzip_fst, List.unzip_zip_left (by rw [rot_perm.length_eq]; exact Nat.le_refl _)]
theorem prs_snd {row : List Nat} : (prs row).map (·.2) = row := by
  unfold prs
  rw [← List.unzip_snd, List.unzip_zip_right (by rw [rot_perm.length_eq]; exact Nat.le_refl _)]
theorem prs_len {row : List Nat} : (prs row).length = row.length := by unfold prs; rw [List.length_zip, rot_perm.length_eq]; exact Nat.min_self _
theorem rot_at {row : List Nat} {k : Nat} (h : k < row.length) : atI (NV row) ((k : Int) - 1) = some (.int ((rot row).getD k 0 : Nat)) := by
  rcases List.eq_nil_or_concat row with e | ⟨l, x, e⟩
  · subst e; exact absurd h (by simp)
  · subst e
    rw [List.concat_eq_append] at h ⊢
    have er : rot (l ++ [x]) = x :: l := by unfold rot; rw [List.getLast?_concat, List.dropLast_concat]; rfl
    rw [er]
    cases k with
    | zero =>
      have e2 : NV (l ++ [x]) = NV l ++ [.int x] := by unfold NV; rw [List.map_append]; rfl
      rw [e2]
      exact atI_last _ _
    | succ k =>
      have hk : k < l.length := by rw [List.length_append] at h; simp at h; omega
      have e2 : (((k + 1 : Nat) : Int) - 1) = (k : Int) := by omega
      rw [e2]
      refine atI_nat ?_
      rw [List.getElem?_map, List.getElem?_append_left hk, List.getD_cons_succ, List.getD_eq_getElem?_getD, List.getElem?_eq_getElem hk]
      rfl
theorem prs_at {row : List Nat} {k : Nat} (h : k < row.length) : (prs row)[k]? = some ((rot row).getD k 0, row.getD k 0) := by
  unfold prs
  rw [List.getElem?_zip_eq_some]
  have h2 : k < (rot row).length := by rw [rot_perm.length_eq]; exact h
  dsimp only
  constructor
  · rw [List.getD_eq_getElem?_getD, List.getElem?_eq_getElem h2]; rfl
  · rw [List.getD_eq_getElem?_getD, List.getElem?_eq_getElem h]; rfl
theorem prs_ne {row : List Nat} (hn : row.Nodup) (h2 : 2 ≤ row.length) : ∀ p ∈ prs row, p.2 ≠ p.1 := by
  intro p hp e
  obtain ⟨k, hk⟩ := List.getElem?_of_mem hp
  have hk0 : k < row.length := by rw [← prs_len]; exact (List.getElem?_eq_some_iff.mp hk).1
  rw [prs_at hk0] at hk
  have hp' := Option.some.inj hk
  subst hp'
  dsimp only at e
  rcases List.eq_nil_or_concat row with z | ⟨l, x, z⟩
  · subst z; exact absurd h2 (by decide)
  · subst z
    rw [List.concat_eq_append] at *
    have er : rot (l ++ [x]) = x :: l := by unfold rot; rw [List.getLast?_concat, List.dropLast_concat]; rfl
    rw [er] at e
    obtain ⟨n1, n2, n3⟩ := List.nodup_append.mp hn
    rw [List.length_append] at h2 hk0
    have hl : 1 ≤ l.length := by simp at h2; omega
    cases k with
    | zero =>
      rw [List.getD_cons_zero, List.getD_eq_getElem?_getD, List.getElem?_append_left (by omega), List.getElem?_eq_getElem (by omega)] at e
      exact n3 _ (List.getElem_mem (h := (by omega : 0 < l.length))) x (List.mem_singleton.mpr rfl) e
    | succ k =>
      have hk1 : k < l.length := by simp at hk0; omega
      rw [List.getD_cons_succ, List.getD_eq_getElem?_getD, List.getD_eq_getElem?_getD, List.getElem?_eq_getElem hk1] at e
      by_cases hk2 : k + 1 < l.length
      · rw [List.getElem?_append_left hk2, List.getElem?_eq_getElem hk2] at e
        have := (List.nodup_iff_pairwise_ne.mp n1 |> fun h => (List.pairwise_iff_getElem.mp h) k (k + 1) hk1 hk2 (Nat.lt_succ_self _)) (show l[k + 1] = l[k] from e).symm
        exact this.elim
      · have e3 : k + 1 = l.length := by omega
        rw [e3, List.getElem?_append_right (Nat.le_refl _), Nat.sub_self] at e
        exact n3 _ (List.getElem_mem (h := hk1)) x (List.mem_singleton.mpr rfl) (show x = l[k] from e).symm
/-- the row's ties can be laid -/
def canJoin (g : Nat → List Nat) (row : List Nat) : Bool := (prs row).all fun p => decide (p.2 ∉ g p.1) && decide ((g p.1).length < 8)
def joinG (g : Nat → List Nat) (row : List Nat) : Nat → List Nat := if canJoin g row = true then (prs row).foldl addP g else g
theorem good_join {g : Nat → List Nat} {row : List Nat} {n : Nat} (G : Good n g) (hn : row.Nodup) (h2 : 2 ≤ row.length) (hl : ∀ x ∈ row, x < n) :
    Good n (joinG g row) ∧ (∀ h, h ∉ row → joinG g row h = g h) ∧ ∀ h, (joinG g row h).length ≤ (g h).length + 1 := by
  unfold joinG
  by_cases hc : canJoin g row = true
  · rw [if_pos hc]
    have hc' := List.all_eq_true.mp hc
    have nr : (rot row).Nodup := rot_perm.nodup_iff.mpr hn
    obtain ⟨r1, r2, r3, r4, r5, r6⟩ := foldP (prs row) g n (by rw [prs_fst]; exact nr) (fun p hp => by
      have := hc' p hp
      rw [Bool.and_eq_true, decide_eq_true_iff, decide_eq_true_iff] at this
      refine ⟨hl _ (rot_perm.mem_iff.mp (by rw [← prs_fst]; exact List.mem_map_of_mem hp)), hl _ (by rw [← prs_snd (row := row)]; exact List.mem_map_of_mem hp), prs_ne hn h2 p hp, this.1, this.2⟩) G.nd G.lt G.le
    refine ⟨⟨r1, r2, r3, fun h hh => ?_⟩, fun h hh => ?_, fun h => ?_⟩
    · rw [r4, r5, prs_fst, prs_snd, rot_perm.count_eq, G.bal h hh]
    · refine r6 h (fun z => hh ?_)
      rw [prs_fst] at z
      exact rot_perm.mem_iff.mp z
    · rw [r4, prs_fst]
      have := List.nodup_iff_count.mp nr h
      omega
  · rw [if_neg hc]
    exact ⟨G, fun h _ => rfl, fun h => by omega⟩
end K61

set_option maxHeartbeats 4000000
namespace K61
open PySem L2
theorem getAs {as : List Addr} {i : Nat} {x : V} (h : (as.map V.ref)[i]? = some x) : i < as.length ∧ x = .ref (as.getD i 0) := by
  rw [List.getElem?_map] at h
  cases e : as[i]? with
  | none => rw [e] at h; cases h
  | some a =>
    rw [e] at h
    refine ⟨(List.getElem?_eq_some_iff.mp e).1, ?_⟩
    rw [List.getD_eq_getElem?_getD, e]
    exact (Option.some.inj h).symm
/-! ### a net of houses and their lists, as the law keeps it -/
def outsKV (as : List Addr) (n : Nat) : List (Key × V) := (List.range n).map fun (h : Nat) => (Sum.inl (h : Int), V.ref (as.getD h 0))
theorem outs_val {as : List Addr} : ∀ {n h : Nat}, h < n → valV (outsKV as n) (.inl (h : Int)) = some (.ref (as.getD h 0)) := by
  have no : ∀ n m : Nat, n ≤ m → valV (outsKV as n) (.inl (m : Int)) = none := by
    intro n
    induction n with
    | zero => intro m _; rfl
    | succ n ih =>
      intro m hm
      unfold outsKV at ih ⊢
      rw [List.range_succ, List.map_append, List.map_cons, List.map_nil, valV_snoc _ _ _ _ (ih n (Nat.le_refl _)), if_neg, ih m (by omega)]
      intro z; have := Sum.inl.inj z; omega
  intro n
  induction n with
  | zero => intro h hh; omega
  | succ n ih =>
    intro h hh
    have e : outsKV as (n + 1) = outsKV as n ++ [(.inl (n : Int), .ref (as.getD n 0))] := by unfold outsKV; rw [List.range_succ, List.map_append]; rfl
    rw [e, valV_snoc _ _ _ _ (no n n (Nat.le_refl _))]
    by_cases z : h = n
    · rw [if_pos (by rw [z]), z]
    · rw [if_neg (fun y => z (by have := Sum.inl.inj y; omega)), ih (by omega)]
structure OutsAt (H : Hp) (O : Addr) (as : List Addr) (n : Nat) (g : Nat → List Nat) : Prop where
  dict : H O = some (.dK (outsKV as n))
  rows : Holds H as n (fun h => .lst (NV (g h)))
  inj : ∀ i j, i < n → j < n → as.getD i 0 = as.getD j 0 → i = j
theorem OutsAt.same {H H' : Hp} {O : Addr} {as : List Addr} {n : Nat} {g : Nat → List Nat} (h : OutsAt H O as n g) (s : Same H H') : OutsAt H' O as n g := ⟨s _ _ h.dict, h.rows.mono fun j _ e => s _ _ e, h.inj⟩
/-- p is none of the lists -/
def Off (as : List Addr) (n : Nat) (p : Addr) : Prop := ∀ h, h < n → p ≠ as.getD h 0
theorem OutsAt.sameE {H H' : Hp} {O p : Addr} {as : List Addr} {n : Nat} {g : Nat → List Nat} (h : OutsAt H O as n g) (s : SameE p H H') (hp : PotAt H p) (f : Off as n p) : OutsAt H' O as n g := by
  obtain ⟨a, b, e, _⟩ := hp
  exact ⟨s _ _ h.dict (ne_of h.dict e (by intro z; cases z)), h.rows.mono fun j hj x => s _ _ x (f j hj).symm, h.inj⟩
/-- all but the lists stays -/
def SameO (as : List Addr) (n : Nat) (H H' : Hp) : Prop := ∀ b o, H b = some o → Off as n b → H' b = some o
theorem SameO.of {as : List Addr} {n : Nat} {H H' : Hp} (s : Same H H') : SameO as n H H' := fun b o e _ => s b o e
theorem SameO.trans {as : List Addr} {n : Nat} {H H1 H2 : Hp} (a : SameO as n H H1) (b : SameO as n H1 H2) : SameO as n H H2 := fun c o e f => b c o (a c o e f) f
theorem OutsAt.off {H : Hp} {O b : Addr} {as : List Addr} {n : Nat} {g : Nat → List Nat} (h : OutsAt H O as n g) {o : HO} (e : H b = some o) (no : ∀ xs, o ≠ .lst xs) : Off as n b := fun j hj => ne_of e (h.rows.2 j hj) (no _)
theorem OutsAt.offN {H : Hp} {O b : Addr} {as : List Addr} {n : Nat} {g : Nat → List Nat} (h : OutsAt H O as n g) (e : H b = none) : Off as n b := fun j hj => (ne_of_none (h.rows.2 j hj) e).symm
theorem OutsAt.get {H : Hp} {O : Addr} {as : List Addr} {n : Nat} {g : Nat → List Nat} (h : OutsAt H O as n g) {x : Nat} (hx : x < n) : DGet H O (.int x) (some (.ref (as.getD x 0))) := by
  have := DGet.k (k := .inl (x : Int)) h.dict
  rw [outs_val hx] at this
  exact this
theorem OutsAt.app {H : Hp} {O : Addr} {as : List Addr} {n : Nat} {g : Nat → List Nat} (h : OutsAt H O as n g) {x y : Nat} (hx : x < n) :
    OutsAt (upd H (as.getD x 0) (.lst (NV (g x) ++ [.int (y : Nat)]))) O as n (addP g (x, y)) ∧ SameO as n H (upd H (as.getD x 0) (.lst (NV (g x) ++ [.int (y : Nat)]))) := by
  refine ⟨⟨?_, ⟨h.rows.1, fun j hj => ?_⟩, h.inj⟩, fun b o e f => by rw [upd_ne (f x hx)]; exact e⟩
  · rw [upd_ne (ne_of h.dict (h.rows.2 x hx) (by intro z; cases z))]; exact h.dict
  · by_cases e : j = x
    · subst e
      rw [upd_same]
      show _ = some (HO.lst (NV (addP g (j, y) j)))
      rw [addP_at]
      unfold NV
      rw [List.map_append]
      rfl
    · rw [upd_ne (fun z => e (h.inj j x hj hx z))]
      show _ = some (HO.lst (NV (addP g (x, y) j)))
      rw [addP_ne (p := (x, y)) e]; exact h.rows.2 j hj
theorem inV_nat {x : Nat} : ∀ {js : List Nat}, inV (.int x) (NV js) = decide (x ∈ js)
  | [] => by simp [inV, NV]
  | j :: js => by
    have ih := inV_nat (x := x) (js := js)
    unfold inV NV at ih ⊢
    rw [List.map_cons, List.any_cons, ih]
    have e : eqV (.int (j : Int)) (.int (x : Int)) = decide (x = j) := by
      show ((j : Int) == (x : Int)) = _
      by_cases z : x = j
      · subst z; simp
      · rw [decide_eq_false z, beq_eq_false_iff_ne]; omega
    rw [e]
    by_cases z : x = j
    · subst z; simp
    · simp [z]
theorem flat_nat {js : List Nat} : (NV js).all flatV = true := by
  rw [List.all_eq_true]
  intro v hv
  obtain ⟨j, _, rfl⟩ := List.mem_map.mp hv
  rfl
theorem nv_at {js : List Nat} {k : Nat} (h : k < js.length) : atI (NV js) (k : Int) = some (.int (js.getD k 0 : Nat)) := by
  refine atI_nat ?_
  rw [List.getElem?_map, List.getElem?_eq_getElem h, List.getD_eq_getElem?_getD, List.getElem?_eq_getElem h]
  rfl
abbrev sJoin : Stmt := top 12
theorem nbKR : (["_law_k", "_law_row"] : List Str).Nodup := by decide +kernel
theorem nbHOO : (["_law_house", "_law_other", "_law_outs"] : List Str).Nodup := by decide +kernel
section
variable {P : Program} {w : World} {K : PySem.W.Frag} {mg : Str → Option Value} {base : Heap}
theorem scJoin : FnScope ["_law_outs", "_law_row", "_law_pairs", "_law_house", "_law_other"] ["_law_outs", "_law_row"] (defScope sJoin) := ⟨rfl, rfl, rfl, by decide +kernel, rfl, by decide +kernel, by decide +kernel⟩
def spJoin : Sp := fun vs H Q _ => ∃ (O l : Addr) (as : List Addr) (n : Nat) (g : Nat → List Nat) (row : List Nat), vs = [.ref O, .ref l] ∧ OutsAt H O as n g ∧ H l = some (.lst (NV row)) ∧ Off as n l ∧ (∀ x ∈ row, x < n) ∧ row.length ≤ 32 ∧ (∀ h, h < n → (g h).length ≤ 8) ∧
  ∀ H', OutsAt H' O as n (joinG g row) → SameO as n H H' → Q .non H'
theorem foldP_le : ∀ (ps : List (Nat × Nat)) (g : Nat → List Nat) (h : Nat), (ps.foldl addP g h).length ≤ (g h).length + ps.length
  | [], _, _ => by simp
  | p :: ps, g, h => by
    have := foldP_le ps (addP g p) h
    rw [addP_len] at this
    rw [List.foldl_cons, List.length_cons]
    split at this <;> omega
theorem rot_lt {row : List Nat} {n k : Nat} (hl : ∀ x ∈ row, x < n) (h : k < row.length) : (rot row).getD k 0 < n ∧ row.getD k 0 < n := by
  have h2 : k < (rot row).length := by rw [rot_perm.length_eq]; exact h
  constructor
  · rw [List.getD_eq_getElem?_getD, List.getElem?_eq_getElem h2]; exact hl _ (rot_perm.mem_iff.mp (List.getElem_mem h2))
  · rw [List.getD_eq_getElem?_getD, List.getElem?_eq_getElem h]; exact hl _ (List.getElem_mem h)
/-- may the pair be tied -/
def okP (g : Nat → List Nat) (p : Nat × Nat) : Bool := decide (p.2 ∉ g p.1) && decide ((g p.1).length < 8)
theorem ok_join {f : Addr} {fd : FuncData} (F : Fun K "_law_joined" "_law_joined" sJoin f fd) (B : Bl mg) : FnOk P w K mg base CX0 1 f fd ["_law_outs", "_law_row"] spJoin := by
  refine F.ok scJoin (fun vs H Q E h => ?_) (fun cdv A outer s H vs Q E hr h => ?_)
  · obtain ⟨O, l, as, n, g, row, rfl, _⟩ := h
    rfl
  · obtain ⟨O, l, as, n, g, row, rfl, hO, hl, ol, rl, rz, gz, q⟩ := h
    have hu : (A.deeper (PyProof.Rows.envOfC "_law_joined" (defScope sJoin) s.heap.objs.size f cdv)).units + 1 < cLine := by have := hr.un; omega
    refine' ⟨_, pss_cons (ps_setComp (i := 2) (g := gName 0) (te := tTup (tCons (tOp (rIxL K) (tVar 1) (tOp (rI0 fun i j => .int (i - j)) (tVar 0) (tC (.int 1)))) (tCons (tOp (rIxL K) (tVar 1) (tVar 0)) tNil))) (NB := ["_law_k", "_law_row"]) (src := [none, some 1]) (blk_of (by kernel_rfl)) rfl
        (pi_range1 rfl B.range (pa_cons (pe_callB call_len_seq (by rfl) B.len PySem.boot_len (pa_cons (pv 1) pa_nil)) pa_nil)) ?g ?t ?e scJoin.nd rfl rfl rfl)
      (pss_one (ps_if (pt_val (pe_callB (call_allB rfl) (by rfl) B.all PyProof.Rows.boot_all (pa_cons ?c2 pa_nil)))
        (pss_one (ps_for PassesOwn.never rfl (pi_list (pv 2)) (pg_tup (n := 2) rfl (pgs_cons (pg_name (i := 3) scJoin.nd rfl (Or.inl rfl)) (pgs_cons (pg_name (i := 4) scJoin.nd rfl (Or.inl rfl)) pgs_nil)))
          (pss_one (ps_expr (pe_bm PySem.F.plainAttrs_list PySem.F.slot_list_append PySem.F.type_list_append mt_append (pe_dget hu (pv 0) (pv 3) (fun _ _ => rfl)) (pa_cons (pv 4) pa_nil))))))
        pss_nil)), ?_⟩
    case g => exact fun cl C s₃ H₃ fp => pg_name (i := 0) nbKR rfl (Or.inl rfl) (Or.inr rfl)
    case t => exact fun cl C s₃ H₃ fp => pts_nil
    case e => exact fun cl C s₃ H₃ fp => pe_tup (pa_cons (pe_ix ix_list (pv 1) (pe_op op_sub (pv 0) pe_int) (fun _ _ => rfl)) (pa_cons (pe_ix ix_list (pv 1) (pv 0) (fun _ _ => rfl)) pa_nil))
    case c2 =>
      refine' pe_comp (g := gTup K 2 (gCons (gName 0) (gCons (gName 1) gNil))) (te := tAndV (tOp (rIn K true) (tVar 1) (tDGet (tVar 2) (tVar 0))) (tOp (rI0 fun i j => .bl (decide (i < j))) (tCB (fun xs H Q => ∃ p ys, xs = [V.ref p] ∧ (SqL K H p ys ∨ SqT K H p ys) ∧ Q (.int ys.length) H) (tCons (tDGet (tVar 2) (tVar 0)) tNil)) (tC (.int 8)))) (NB := ["_law_house", "_law_other", "_law_outs"]) (src := [none, none, some 0]) (blk_of (by kernel_rfl)) rfl
        (pi_list (pv 2)) ?g ?t ?e
      case g => exact fun cl C s₃ H₃ fp => pg_tup (n := 2) rfl (pgs_cons (pg_name (i := 0) nbHOO rfl (Or.inl rfl) (Or.inr rfl)) (pgs_cons (pg_name (i := 1) nbHOO rfl (Or.inl rfl) (Or.inr rfl)) pgs_nil))
      case t => exact fun cl C s₃ H₃ fp => pts_nil
      case e => exact fun cl C s₃ H₃ fp => pe_and (pe_cmpR op_notIn_seq (pv 1) (pe_dget hu (pv 2) (pv 0) (fun _ _ => rfl)) (by rfl)) (pe_one (pe_cmpR op_lt (pe_callB call_len_seq (by rfl) B.len PySem.boot_len (pa_cons (pe_dget hu (pv 2) (pv 0) (fun _ _ => rfl)) pa_nil)) pe_int (nomark _)))
    refine ⟨_, rfl, l, NV row, rfl, .inl (SqL.of hl), row.length, by rw [List.length_map], by omega, by omega, fun D hD => ?_⟩
    refine comp_range (n := row.length) (lo := 0) (fun i ys σ H2 => (∃ k, σ = [k, some (.ref l)]) ∧ ∃ ts, ys = ts.map V.ref ∧ Holds H2 ts i (fun j => .tup [.int ((rot row).getD j 0 : Nat), .int (row.getD j 0 : Nat)]) ∧ Same H H2 ∧ H2 D = some (.lst ys))
      ⟨⟨_, rfl⟩, [], rfl, Holds.nil, same_new hD, upd_same⟩ ?_ ?_
    · rintro i ys σ H2 Kt Kf hi ⟨⟨a, rfl⟩, ts, rfl, hh, sm, hD2⟩ kt kf
      have hl2 := sm _ _ hl
      refine ⟨_, rfl, _, rfl, _, _, rfl, rfl, l, NV row, _, _, rfl, rfl, SqL.of hl2, by rw [Int.zero_add]; exact rot_at hi, _, rfl, _, rfl, l, NV row, _, _, rfl, rfl, SqL.of hl2, by rw [Int.zero_add]; exact nv_at hi, by show 2 ≤ sizeLine; decide, fun t ht => ?_⟩
      have nDt : D ≠ t := ne_of_none hD2 ht
      refine kt _ _ _ (by rw [upd_ne nDt]; exact hD2) (by rw [List.length_map, hh.1]; exact Nat.lt_of_lt_of_le hi (Nat.le_trans rz (by decide))) ⟨⟨_, rfl⟩, ts ++ [t], by rw [List.map_append]; rfl, ?_, ?_, upd_same⟩
      · refine Holds.snoc (hh.mono fun j hj e => ?_) (by rw [upd_ne nDt.symm, upd_same])
        rw [upd_ne (ne_of e hD2 (by intro z; cases z)), upd_ne (ne_of_none e ht)]; exact e
      · intro b o e
        rw [upd_ne (ne_of_none e hD), upd_ne (ne_of_none (sm _ _ e) ht)]; exact sm _ _ e
    · rintro ys σ H2 ⟨_, ts, rfl, hh, sm, hD2⟩
      have hO2 := hO.same sm
      have od : Off as n D := hO.offN hD
      have ot : ∀ j, j < row.length → Off as n (ts.getD j 0) := fun j hj => hO2.off (hh.2 j hj) (by intro xs z; cases z)
      refine ⟨_, rfl, D, rfl, ⟨_, SqL.of hD2⟩, fun D2 hD2' => ?_⟩
      refine comp_list (xs := ts.map V.ref) (fun i ys σ H3 => (∃ a b, σ = [a, b, some (.ref O)]) ∧ ys = (((prs row).take i).map (okP g)).map V.bl ∧ H3 = upd H2 D2 (.lst ys))
        ⟨⟨_, _, rfl⟩, rfl, rfl⟩ (fun i ys σ H3 _ ⟨_, _, e⟩ => by rw [e]; exact SqL.of (by rw [upd_ne (ne_of_none hD2 hD2')]; exact hD2)) ?_ ?_
      · rintro i x ys σ H3 Kt Kf hx ⟨⟨a, b, rfl⟩, hys, rfl⟩ kt kf
        obtain ⟨hi, rfl⟩ := getAs hx
        rw [hh.1] at hi
        have nt := ne_of_none (hh.2 i hi) hD2'
        have hO3 := hO2.same (same_new (o := .lst ys) hD2')
        obtain ⟨lt1, lt2⟩ := rot_lt rl hi
        refine ⟨_, _, rfl, SqT.of (by rw [upd_ne nt]; exact hh.2 i hi), rfl, _, _, rfl, _, _, rfl, rfl, ?_⟩
        refine ⟨_, rfl, _, rfl, _, rfl, O, _, rfl, hO3.get lt1, _, _, rfl, .inl (SqL.of (hO3.rows.2 _ lt1)), rfl, flat_nat, _, rfl, ?_⟩
        have hz : ys.length < sizeLine := by
          rw [hys, List.length_map, List.length_map, List.length_take]
          exact Nat.lt_of_lt_of_le (Nat.lt_of_le_of_lt (Nat.min_le_left _ _) hi) (Nat.le_trans rz (by decide))
        have step : ∀ c : Bool, okP g ((rot row).getD i 0, row.getD i 0) = c → ys ++ [.bl c] = (((prs row).take (i + 1)).map (okP g)).map V.bl := by
          intro c e
          rw [List.take_add_one, prs_at hi, hys, ← e]
          simp
        have fin : ∀ c : Bool, okP g ((rot row).getD i 0, row.getD i 0) = c → Kt (.bl c) [some (.int ((rot row).getD i 0 : Nat)), some (.int (row.getD i 0 : Nat)), some (.ref O)] (upd H2 D2 (.lst ys)) := fun c e =>
          kt _ _ _ upd_same hz ⟨⟨_, _, rfl⟩, step c e, upd_upd⟩
        have iv : (!inV (.int (row.getD i 0 : Nat)) (NV (g ((rot row).getD i 0)))) = decide (row.getD i 0 ∉ g ((rot row).getD i 0)) := by rw [inV_nat]; simp
        refine ite2 (fun e => ?_) (fun e => ?_)
        · have e' : (!inV (.int (row.getD i 0 : Nat)) (NV (g ((rot row).getD i 0)))) = true := e
          rw [iv] at e'
          refine ⟨_, rfl, _, rfl, O, _, rfl, hO3.get lt1, _, _, rfl, .inl (SqL.of (hO3.rows.2 _ lt1)), _, _, rfl, rfl, fin _ ?_⟩
          unfold okP
          dsimp only
          rw [e', Bool.true_and]
          show _ = decide (((NV (g ((rot row).getD i 0))).length : Int) < 8)
          rw [List.length_map]
          exact decide_eq_decide.mpr (by omega)
        · have e' : ¬ (!inV (.int (row.getD i 0 : Nat)) (NV (g ((rot row).getD i 0)))) = true := e
          rw [iv] at e'
          refine fin _ ?_
          unfold okP
          dsimp only
          rw [Bool.eq_false_iff.mpr e', Bool.false_and]
      · rintro ys σ H3 ⟨_, hys, rfl⟩
        rw [List.length_map, hh.1, ← prs_len, List.take_length] at hys
        have hO3 := hO2.same (same_new (o := .lst ys) hD2')
        refine ⟨D2, _, rfl, SqL.of (by rw [upd_same, hys]), _, rfl, ?_⟩
        have hc : ((prs row).map (okP g)).all id = canJoin g row := by
          rw [List.all_map]; rfl
        refine ite2 (fun e => ?_) (fun e => ?_)
        · have cj : canJoin g row = true := by rw [← hc]; exact e
          have s3 : Same H (upd H2 D2 (.lst ys)) := sm.trans (same_new hD2')
          refine ⟨_, rfl, D, rfl, ⟨_, SqL.of (same_new hD2' _ _ hD2)⟩, for_list (K := K) (a := D) (xs := ts.map V.ref) (fun i σ H4 => (∃ u v, σ = [some (.ref O), some (.ref l), some (.ref D), u, v]) ∧ OutsAt H4 O as n (((prs row).take i).foldl addP g) ∧ SameO as n (upd H2 D2 (.lst ys)) H4) ⟨⟨_, _, rfl⟩, hO3, SameO.of (Same.refl _)⟩ (fun i σ H4 _ ⟨_, _, so⟩ => SqL.of (so _ _ (same_new hD2' _ _ hD2) od)) ?_ ?_⟩
          · rintro i x σ H4 hx ⟨⟨u, v, rfl⟩, o4, so⟩
            obtain ⟨hi, rfl⟩ := getAs hx
            rw [hh.1] at hi
            obtain ⟨lt1, lt2⟩ := rot_lt rl hi
            refine ⟨_, _, rfl, SqT.of (so _ _ (same_new hD2' _ _ (hh.2 i hi)) (ot i hi)), rfl, _, _, rfl, _, _, rfl, rfl, ?_⟩
            refine ⟨_, rfl, _, rfl, O, _, rfl, o4.get lt1, .inl ⟨rfl, _, SqL.of (o4.rows.2 _ lt1)⟩, _, rfl, _, _, _, rfl, rfl, o4.rows.2 _ lt1, ?_, ?_⟩
            · rw [List.length_map]
              have h1 := foldP_le ((prs row).take i) g ((rot row).getD i 0)
              have h2 := gz _ lt1
              have h3 : ((prs row).take i).length ≤ 32 := by rw [List.length_take]; exact Nat.le_trans (Nat.min_le_left _ _) (by omega)
              exact Nat.lt_of_lt_of_le (show _ < 41 by omega) (by decide)
            · obtain ⟨p1, p2⟩ := o4.app (y := row.getD i 0) lt1
              refine ⟨⟨_, _, rfl⟩, ?_, so.trans p2⟩
              rw [List.take_add_one, prs_at hi]
              rw [Option.toList_some, List.foldl_append]
              exact p1
          · rintro σ H4 ⟨_, o4, so⟩
            rw [List.length_map, hh.1, ← prs_len, List.take_length] at o4
            refine q H4 ?_ ((SameO.of s3).trans so)
            unfold joinG
            rw [if_pos cj]
            exact o4
        · have cj : ¬ canJoin g row = true := by rw [← hc]; exact e
          refine q _ ?_ (SameO.of (sm.trans (same_new hD2')))
          unfold joinG
          rw [if_neg cj]
          exact hO3
end
end K61

set_option maxHeartbeats 4000000
namespace K61
open PySem L2
/-! ### words -/
def tPairsC : List (Int × Int) → TA
  | [] => tNil
  | p :: ps => tCons (tTup (tCons (tC (.int p.1)) (tCons (tC (.int p.2)) tNil))) (tPairsC ps)
theorem pairsC : ∀ (ps : List (Int × Int)) (σ : St) (H : Hp) (Q : List V → Hp → Prop), (∀ ts H', Same H H' → Holds H' ts ps.length (fun j => .tup [.int (ps.getD j (0, 0)).1, .int (ps.getD j (0, 0)).2]) → Q (ts.map V.ref) H') → tPairsC ps σ H Q
  | [], σ, H, Q, q => q [] H (Same.refl _) Holds.nil
  | p :: ps, σ, H, Q, q => by
    refine ⟨by show 2 ≤ sizeLine; decide, fun t ht => pairsC ps σ _ _ fun ts H' sm hh => ?_⟩
    refine q (t :: ts) H' ((same_new ht).trans sm) ⟨by rw [List.length_cons, hh.1, List.length_cons], fun j hj => ?_⟩
    cases j with
    | zero => exact sm _ _ upd_same
    | succ j => exact hh.2 j (by rw [List.length_cons] at hj; omega)
def wTab : List (Int × Int) := [(1, 2), (2, 2), (3, 2), (4, 2), (1, 3), (2, 3), (1, 4), (2, 4), (1, 5)]
def wTabN : List (Nat × Nat) := [(1, 2), (2, 2), (3, 2), (4, 2), (1, 3), (2, 3), (1, 4), (2, 4), (1, 5)]
def wRow (b h j : Nat) : List Nat := ((List.range b).filter fun o => decide (o ≠ h / b ^ j % b)).map fun o => h + o * b ^ j - h / b ^ j % b * b ^ j
def wOuts (f b h : Nat) : List Nat := (List.range f).flatMap (wRow b h)
def goodB (n : Nat) (g : Nat → List Nat) : Bool := (List.range n).all fun h => decide (g h).Nodup && ((g h).all fun o => decide (o < n ∧ o ≠ h)) && decide ((g h).length ≤ 8) && decide ((g h).length = inn g n h)
theorem good_of {n : Nat} {g : Nat → List Nat} (e : goodB n g = true) : Good n g := by
  have all : ∀ h, h < n → (((g h).Nodup ∧ (∀ o ∈ g h, o < n ∧ o ≠ h)) ∧ (g h).length ≤ 8) ∧ (g h).length = inn g n h := by
    intro h hh
    have := List.all_eq_true.mp e h (List.mem_range.mpr hh)
    rw [Bool.and_eq_true, Bool.and_eq_true, Bool.and_eq_true, decide_eq_true_iff, decide_eq_true_iff, decide_eq_true_iff, List.all_eq_true] at this
    exact ⟨⟨⟨this.1.1.1, fun o ho => of_decide_eq_true (this.1.1.2 o ho)⟩, this.1.2⟩, this.2⟩
  exact ⟨fun h hh => (all h hh).1.1.1, fun h hh => (all h hh).1.1.2, fun h hh => (all h hh).1.2, fun h hh => (all h hh).2⟩
theorem wGood : ∀ p ∈ wTabN, Good (p.2 ^ p.1) (wOuts p.1 p.2) ∧ 2 ≤ p.2 ^ p.1 ∧ p.2 ^ p.1 ≤ 32 ∧ 1 ≤ p.1 ∧ p.1 ≤ 4 ∧ 2 ≤ p.2 ∧ p.2 ≤ 5 := by
  have e : (wTabN.all fun p => goodB (p.2 ^ p.1) (wOuts p.1 p.2) && decide (2 ≤ p.2 ^ p.1 ∧ p.2 ^ p.1 ≤ 32 ∧ 1 ≤ p.1 ∧ p.1 ≤ 4 ∧ 2 ≤ p.2 ∧ p.2 ≤ 5)) = true := by decide +kernel
  intro p hp
  have := List.all_eq_true.mp e p hp
  rw [Bool.and_eq_true, decide_eq_true_iff] at this
  exact ⟨good_of this.1, this.2⟩
def pws (b k : Nat) : List Nat := (List.range (k + 1)).map fun j => b ^ j
theorem pws_succ {b k : Nat} : pws b (k + 1) = pws b k ++ [b ^ (k + 1)] := by unfold pws; rw [List.range_succ, List.map_append]; rfl
theorem pws_last {b k : Nat} : atI (NV (pws b k)) (-1) = some (.int (b ^ k : Nat)) := by
  have e : NV (pws b k) = NV ((List.range k).map fun j => b ^ j) ++ [.int (b ^ k : Nat)] := by unfold pws NV; rw [List.range_succ, List.map_append, List.map_append]; rfl
  rw [e]; exact atI_last _ _
theorem pws_cut {b k : Nat} : cutV (NV (pws b k)) none (some (-1)) = NV ((List.range k).map fun j => b ^ j) := by
  have e : NV (pws b k) = NV ((List.range k).map fun j => b ^ j) ++ [.int (b ^ k : Nat)] := by unfold pws NV; rw [List.range_succ, List.map_append, List.map_append]; rfl
  have hl : (NV (pws b k)).length = k + 1 := by rw [e]; simp
  unfold cutV
  have h1 : HT.sIx (k + 1) 0 none = 0 := rfl
  have h2 : HT.sIx (k + 1) (k + 1) (some (-1)) = k := by
    unfold HT.sIx
    simp
    try omega
  rw [hl, h1, h2, List.drop_zero, Nat.sub_zero, e, List.take_append_of_le_length (by simp)]
  rw [List.take_of_length_le (by simp)]
theorem pow_le {b f j : Nat} (hb : 2 ≤ b) (h : j ≤ f) (h32 : b ^ f ≤ 32) : b ^ j ≤ 32 ∧ 1 ≤ b ^ j := ⟨Nat.le_trans (Nat.pow_le_pow_right (by omega) h) h32, Nat.one_le_pow _ _ (by omega)⟩
theorem wInt {b h o p : Nat} : (((h + o * p - h / p % b * p : Nat)) : Int) = (h : Int) + ((o : Int) - ((h : Int) / (p : Int) % (b : Int))) * (p : Int) := by
  have h1 : h / p % b * p ≤ h := Nat.le_trans (Nat.mul_le_mul_right _ (Nat.mod_le _ _)) (Nat.div_mul_le_self _ _)
  rw [Int.ofNat_sub (by omega), Int.sub_mul, Int.natCast_add, Int.natCast_mul, Int.natCast_mul, Int.natCast_emod, Int.natCast_ediv]
  omega
/-! ### a net grows -/
theorem outsKV_snoc {as : List Addr} {t : Addr} {n : Nat} (h : as.length = n) : outsKV (as ++ [t]) (n + 1) = outsKV as n ++ [(.inl (n : Int), .ref t)] := by
  unfold outsKV
  rw [List.range_succ, List.map_append, List.map_cons, List.map_nil, getD_snoc h, if_pos rfl]
  congr 1
  refine List.map_congr_left fun i hi => ?_
  rw [getD_snoc h, if_neg (by have := List.mem_range.mp hi; omega)]
theorem outs_none {as : List Addr} {n m : Nat} (h : n ≤ m) : valV (outsKV as n) (.inl (m : Int)) = none := by
  cases e : valV (outsKV as n) (.inl (m : Int)) with
  | none => rfl
  | some v =>
    have := valV_in e
    unfold outsKV at this
    rw [List.map_map] at this
    obtain ⟨i, hi, z⟩ := List.mem_map.mp this
    have := List.mem_range.mp hi
    have := Sum.inl.inj z
    omega
def setG (g : Nat → List Nat) (x : Nat) (ys : List Nat) : Nat → List Nat := fun h => if h = x then ys else g h
theorem setG_at {g : Nat → List Nat} {x : Nat} {ys : List Nat} : setG g x ys x = ys := by unfold setG; rw [if_pos rfl]
theorem setG_ne {g : Nat → List Nat} {x h : Nat} {ys : List Nat} (e : h ≠ x) : setG g x ys h = g h := by unfold setG; rw [if_neg e]
theorem OutsAt.put {H : Hp} {O : Addr} {as : List Addr} {n : Nat} {g : Nat → List Nat} (h : OutsAt H O as n g) {x : Nat} {ys : List Nat} (hx : x < n) : OutsAt (upd H (as.getD x 0) (.lst (NV ys))) O as n (setG g x ys) := by
  refine ⟨?_, ⟨h.rows.1, fun j hj => ?_⟩, h.inj⟩
  · rw [upd_ne (ne_of h.dict (h.rows.2 x hx) (by intro z; cases z))]; exact h.dict
  · by_cases e : j = x
    · subst e
      rw [upd_same]
      show _ = some (HO.lst (NV (setG g j ys j)))
      rw [setG_at]
    · rw [upd_ne (fun z => e (h.inj j x hj hx z))]
      show _ = some (HO.lst (NV (setG g x ys j)))
      rw [setG_ne e]; exact h.rows.2 j hj
theorem OutsAt.cong {H : Hp} {O : Addr} {as : List Addr} {n : Nat} {g g' : Nat → List Nat} (h : OutsAt H O as n g) (e : ∀ x, x < n → g' x = g x) : OutsAt H O as n g' := by
  refine ⟨h.dict, ⟨h.rows.1, fun j hj => ?_⟩, h.inj⟩
  show _ = some (HO.lst (NV (g' j)))
  rw [e j hj]; exact h.rows.2 j hj
theorem OutsAt.push {H : Hp} {O t : Addr} {as : List Addr} {n : Nat} {g : Nat → List Nat} {ys : List Nat} (h : OutsAt H O as n g) (ht : H t = some (.lst (NV ys))) (off : Off as n t) :
    OutsAt (upd H O (.dK (putK (outsKV as n) (.inl (n : Int)) (.ref t)))) O (as ++ [t]) (n + 1) (setG g n ys) := by
  have tO : t ≠ O := ne_of ht h.dict (by intro z; cases z)
  have eO : ∀ j, j < n → as.getD j 0 ≠ O := fun j hj => ne_of (h.rows.2 j hj) h.dict (by intro z; cases z)
  refine ⟨by rw [upd_same, putK_new _ (outs_none (Nat.le_refl _)), outsKV_snoc h.rows.1], ⟨by rw [List.length_append, h.rows.1]; rfl, fun j hj => ?_⟩, fun i j hi hj e => ?_⟩
  · rw [getD_snoc h.rows.1]
    show _ = some (HO.lst (NV (setG g n ys j)))
    by_cases e : j = n
    · rw [if_pos e, e, setG_at, upd_ne tO]; exact ht
    · rw [if_neg e, setG_ne e, upd_ne (eO j (by omega))]; exact h.rows.2 j (by omega)
  · rw [getD_snoc h.rows.1, getD_snoc h.rows.1] at e
    by_cases ei : i = n <;> by_cases ej : j = n
    · omega
    · rw [if_pos ei, if_neg ej] at e; exact absurd e (off j (by omega))
    · rw [if_neg ei, if_pos ej] at e; exact absurd e.symm (off i (by omega))
    · rw [if_neg ei, if_neg ej] at e; exact h.inj i j (by omega) (by omega) e
theorem sameE_put {p c : Addr} {H H2 : Hp} {o : HO} (s : SameE p H H2) (h : H c = none) : SameE p H (upd H2 c o) := fun b u e n => by rw [upd_ne (ne_of_none e h)]; exact s b u e n
end K61

set_option maxHeartbeats 600000
namespace K61
open PySem L2
theorem se_tup {es l : List Expr} {k : Nat} {pos : Pos} {env : Env} : starEach (.Tuple es k pos :: l) env = (false, eval (.Tuple es k pos) env) :: starEach l env := by rfl
theorem pa_tc {X : Cx} {a b : Int} {p q r : Pos} {es : List Expr} {t : TA} (h : PA X es t) : PA X (.Tuple [.Constant (.int a) 0 p, .Constant (.int b) 0 q] 0 r :: es) (tCons (tTup (tCons (tC (.int a)) (tCons (tC (.int b)) tNil))) t) :=
  pa_cons (pe_tup (pa_cons pe_int (pa_cons pe_int pa_nil))) h se_tup
def tc1 : Expr → Option (Int × Int)
  | .Tuple [.Constant (.int a) _ _, .Constant (.int b) _ _] _ _ => some (a, b)
  | _ => none
def tcs : List Expr → Option (List (Int × Int))
  | [] => some []
  | e :: es => match tc1 e, tcs es with
    | some p, some ps => some (p :: ps)
    | _, _ => none
theorem tc1_eq {e : Expr} {a b : Int} (h : tc1 e = some (a, b)) : ∃ j p k q x r, e = .Tuple [.Constant (.int a) j p, .Constant (.int b) k q] x r := by
  unfold tc1 at h
  split at h
  · cases h; exact ⟨_, _, _, _, _, _, rfl⟩
  · cases h
theorem pa_tcs {X : Cx} : ∀ {es : List Expr} {ps : List (Int × Int)}, tcs es = some ps → PA X es (tPairsC ps)
  | [], ps, h => by
    cases h; exact pa_nil
  | e :: es, ps, h => by
    unfold tcs at h
    split at h
    · rename_i p ps' h1 h2
      cases h
      obtain ⟨a, b⟩ := p
      obtain ⟨j, p, k, q, x, r, rfl⟩ := tc1_eq h1
      exact pa_cons (pe_tup (pa_cons pe_int (pa_cons pe_int pa_nil))) (pa_tcs h2) se_tup
    · cases h
theorem pe_ixl {X : Cx} {es : List Expr} {t : TA} {i : Expr} {ti : TE} {p pos : Pos} (h : PA X es t) (hi : PE X i ti) (hs : PlainIx i) : PE X (.Subscript (.List es p) i pos) (tOp (rIxL X.K) (tLst t) ti) := pe_ix ix_list (pe_lst h) hi hs
theorem pe_ixt {X : Cx} {es : List Expr} {ps : List (Int × Int)} {i : Expr} {ti : TE} {p pos : Pos} (h : tcs es = some ps) (hi : PE X i ti) (hs : PlainIx i) : PE X (.Subscript (.List es p) i pos) (tOp (rIxL X.K) (tLst (tPairsC ps)) ti) := pe_ix ix_list (pe_lst (pa_tcs h)) hi hs
theorem wTab_at : ∀ j, j < 9 → wTab.getD j (0, 0) = (((wTabN.getD j (0, 0)).1 : Int), ((wTabN.getD j (0, 0)).2 : Int)) ∧ wTabN.getD j (0, 0) ∈ wTabN := by decide +kernel
theorem seq_pairs {ps : List (Int × Int)} {r : R2} {tb : TE} {g : TG} {u : TS} {D : Ends} {σ : St} {H : Hp}
    (h : ∀ ts H1, Same H H1 → Holds H1 ts ps.length (fun j => .tup [.int (ps.getD j (0, 0)).1, .int (ps.getD j (0, 0)).2]) → ((ts.map V.ref).length ≤ sizeLine ∧ ∀ L, H1 L = none → tb σ (upd H1 L (.lst (ts.map V.ref))) fun y H2 => r (.ref L) y H2 fun x H3 => g x σ H3 fun σ' H' => u D σ' H')) :
    tSeq (tAsg (tOp r (tLst (tPairsC ps)) tb) g) u D σ H := by
  unfold tSeq tAsg tOp tLst
  exact pairsC ps _ _ _ h
theorem wRow_len {b h j : Nat} : (wRow b h j).length ≤ b := by
  unfold wRow
  rw [List.length_map]
  have := List.length_filter_le (fun o => decide (o ≠ h / b ^ j % b)) (List.range b)
  rw [List.length_range] at this
  exact this
theorem wFlat_len {b h : Nat} : ∀ j, ((List.range j).flatMap (wRow b h)).length ≤ j * b
  | 0 => by simp
  | j + 1 => by
    have ih := wFlat_len (b := b) (h := h) j
    have h1 := wRow_len (b := b) (h := h) (j := j)
    rw [List.range_succ, List.flatMap_append, List.length_append, Nat.succ_mul]
    have e : (List.flatMap (wRow b h) [j]).length = (wRow b h j).length := by simp
    omega
abbrev sWords : Stmt := top 13
theorem nbW : (["_law_other", "_law_house", "_law_digit", "_law_power"] : List Str).Nodup := by decide +kernel
section
variable {P : Program} {w : World} {K : PySem.W.Frag} {mg : Str → Option Value} {base : Heap}
theorem scWords : FnScope ["_law_pot_here", "_law_figures", "_law_base", "_law_powers", "_law_k", "_law_outs", "_law_house", "_law_power", "_law_digit"] ["_law_pot_here"] (defScope sWords) := ⟨rfl, rfl, rfl, by decide +kernel, rfl, by decide +kernel, by decide +kernel⟩
/-- a right net, newly laid -/
def NewNet (H H' : Hp) (O : Addr) (as : List Addr) (n : Nat) (g : Nat → List Nat) : Prop := Good n g ∧ 2 ≤ n ∧ n ≤ 32 ∧ OutsAt H' O as n g ∧ H O = none ∧ ∀ h, h < n → H (as.getD h 0) = none
def spNet : Sp := fun vs H Q _ => ∃ (p : Addr), vs = [.ref p] ∧ PotAt H p ∧ ∀ (O : Addr) (as : List Addr) (n : Nat) (g : Nat → List Nat) (H' : Hp), NewNet H H' O as n g → SameE p H H' → PotAt H' p → Q (.ref O) H'
theorem ok_words {f : Addr} {fd : FuncData} (F : Fun K "_law_words" "_law_words" sWords f fd) (B : Bl mg) (T : Cal P w K mg base CX0 1 "_law_take" ["_law_pot_here", "_law_many"] spTake) : FnOk P w K mg base CX0 2 f fd ["_law_pot_here"] spNet := by
  refine F.ok scWords (fun vs H Q E h => ?_) (fun cdv A outer s H vs Q E hr h => ?_)
  · obtain ⟨p, rfl, _⟩ := h
    rfl
  · obtain ⟨p, rfl, hp, q⟩ := h
    have hu : (A.deeper (PyProof.Rows.envOfC "_law_words" (defScope sWords) s.heap.objs.size f cdv)).units + 1 < cLine := by have := hr.un; omega
    refine' ⟨_, pss_cons (t := tAsg (tOp (rIxL K) (tLst (tPairsC wTab)) (tCall spTake [] E0 (tCons (tVar 0) (tCons (tC (.int 9)) tNil)))) (gTup K 2 (gCons (gName 1) (gCons (gName 2) gNil)))) ?a ?b, ?_⟩
    case a =>
      refine' ps_asg ?x ?g ?z1 ?z2 ?z3
      case x =>
        refine' pe_ixt ?y1 ?y2 ?y3
        case y1 => kernel_rfl
        case y2 => exact pe_cal T hr pass0 (pa_cons (pv 0) (pa_cons pe_int pa_nil))
        case y3 => exact fun _ _ => rfl
      case g => exact pg_tup (n := 2) rfl (pgs_cons (pg_name (i := 1) scWords.nd rfl (Or.inl rfl)) (pgs_cons (pg_name (i := 2) scWords.nd rfl (Or.inl rfl)) pgs_nil))
      case z1 => rfl
      case z2 => rfl
      case z3 => rfl
    case b =>
      refine' (pss_cons (ps_set (i := 3) scWords.nd rfl (Or.inl rfl) (pe_lst (pa_cons pe_int pa_nil)))
      (pss_cons (ps_for PassesOwn.never rfl (pi_range1 rfl B.range (pa_cons (pv 1) pa_nil)) (pg_name (i := 4) scWords.nd rfl (Or.inl rfl))
        (pss_one (ps_expr (pe_bm PySem.F.plainAttrs_list PySem.F.slot_list_append PySem.F.type_list_append mt_append (pv 3) (pa_cons (pe_op op_mul (pe_ix ix_list (pv 3) (pe_un un_neg pe_int) (fun _ _ => rfl)) (pv 2)) pa_nil)))))
      (pss_cons (ps_set (i := 5) scWords.nd rfl (Or.inl rfl) pe_dnewK)
      (pss_cons (ps_for PassesOwn.never rfl (pi_range1 rfl B.range (pa_cons (pe_ix ix_list (pv 3) (pe_un un_neg pe_int) (fun _ _ => rfl)) pa_nil)) (pg_name (i := 6) scWords.nd rfl (Or.inr rfl))
        (pss_cons (ps_dput hu (pv 5) (pv 6) (pe_lst pa_nil) rfl)
        (pss_one (ps_for PassesOwn.never rfl (pi_list (pe_slice sl_list (pv 3) po_none (po_some (pe_un un_neg pe_int)))) (pg_name (i := 7) scWords.nd rfl (Or.inr rfl))
          (pss_cons (ps_set (i := 8) scWords.nd rfl (Or.inr rfl) (pe_op op_mod (pe_op op_fdiv (pv 6) (pv 7)) (pv 2)))
          (pss_one (ps_expr (pe_bm PySem.F.plainAttrs_list PySem.F.slot_list_extend PySem.F.type_list_extend mt_extend (pe_dget hu (pv 5) (pv 6) (fun _ _ => rfl)) (pa_cons ?c pa_nil)))))))))
      (pss_one (ps_ret (pv 5)))))))
      case c =>
        refine' pe_comp (g := gName 0) (tt := tTest (tOp rNe (tVar 0) (tVar 2))) (te := tOp (rI0 fun i j => .int (i + j)) (tVar 1) (tOp (rI CMul fun i j => .int (i * j)) (tOp (rI0 fun i j => .int (i - j)) (tVar 0) (tVar 2)) (tVar 3))) (NB := ["_law_other", "_law_house", "_law_digit", "_law_power"]) (src := [none, some 6, some 8, some 7]) (blk_of (by kernel_rfl)) rfl
          (pi_range1 rfl B.range (pa_cons (pv 2) pa_nil)) ?g ?t ?e
        case g => exact fun cl C s₃ H₃ fp => pg_name (i := 0) nbW rfl (Or.inl rfl) (Or.inr rfl)
        case t => exact fun cl C s₃ H₃ fp => pts_one (pt_cmpR op_ne (pv 0) (pv 2) (nomark _))
        case e => exact fun cl C s₃ H₃ fp => pe_op op_add (pv 1) (pe_op op_mul (pe_op op_sub (pv 0) (pv 2)) (pv 3))
    refine seq_pairs fun ts H1 sm1 hts => ⟨by rw [List.length_map, hts.1]; show 9 ≤ sizeLine; decide, fun L hL => ?_⟩
    have s1 : Same H (upd H1 L (.lst (ts.map V.ref))) := sm1.trans (same_new hL)
    refine ⟨_, rfl, p, 9, rfl, by decide, by decide, hp.same s1, fun d a b d0 d1 a0 b0 b1 => ?_⟩
    have hH1 : H L = none := sm1.free hL
    have npL : p ≠ L := by obtain ⟨_, _, e, _⟩ := hp; exact ne_of_none e hH1
    have hd : d.toNat < ts.length := by rw [hts.1]; show d.toNat < 9; omega
    obtain ⟨w1, w2⟩ := wTab_at d.toNat (by omega)
    obtain ⟨gG, g1, g2, g3, g4, g5, g6⟩ := wGood _ w2
    generalize hfb : wTabN.getD d.toNat (0, 0) = fb at *
    obtain ⟨fg, bs⟩ := fb
    dsimp only at w1 gG g1 g2 g3 g4 g5 g6
    have ht := hts.2 d.toNat (by show d.toNat < 9; omega)
    dsimp only at ht
    rw [w1] at ht
    dsimp only at ht
    have npt : ts.getD d.toNat 0 ≠ p := by
      obtain ⟨x, y, e, _⟩ := hp
      exact ne_of ht (sm1 _ _ e) (by intro z; cases z)
    refine ⟨L, ts.map V.ref, d, .ref (ts.getD d.toNat 0), rfl, rfl, SqL.of (by rw [upd_ne npL.symm, upd_same]), ?_, ?_⟩
    · have := atI_nat (xs := ts.map V.ref) (j := d.toNat) (v := .ref (ts.getD d.toNat 0)) (by rw [List.getElem?_map, List.getElem?_eq_getElem hd, List.getD_eq_getElem?_getD, List.getElem?_eq_getElem hd]; rfl)
      rw [Int.toNat_of_nonneg d0] at this
      exact this
    refine ⟨_, _, rfl, SqT.of (by rw [upd_ne npt, upd_ne (ne_of_none ht hL)]; exact ht), rfl, _, _, rfl, _, _, rfl, rfl, ?_⟩
    refine ⟨by show 1 ≤ sizeLine; decide, fun Pw hPw => ?_⟩
    have se0 : SameE p H (upd (upd (upd H1 L (.lst (ts.map V.ref))) p (.lst [.int a, .int b])) Pw (.lst [.int 1])) := by
      intro c o e n
      have e1 : (upd (upd H1 L (.lst (ts.map V.ref))) p (.lst [.int a, .int b])) c = some o := by rw [upd_ne n]; exact s1 _ _ e
      rw [upd_ne (ne_of_none e1 hPw)]; exact e1
    have npP : p ≠ Pw := ne_of_none upd_same hPw
    have po0 : PotAt (upd (upd (upd H1 L (.lst (ts.map V.ref))) p (.lst [.int a, .int b])) Pw (.lst [.int 1])) p := ⟨a, b, by rw [upd_ne npP, upd_same], a0, b0, b1⟩
    have hPH : H Pw = none := by
      cases z : H Pw with
      | none => rfl
      | some o =>
        have e1 : (upd (upd H1 L (.lst (ts.map V.ref))) p (.lst [.int a, .int b])) Pw = some o := by rw [upd_ne npP.symm]; exact s1 _ _ z
        rw [e1] at hPw; cases hPw
    refine ⟨_, rfl, fg, rfl, by omega, by omega, for_range (n := fg) (lo := 0) (fun i σ H2 => (∃ v, σ = [some (.ref p), some (.int fg), some (.int bs), some (.ref Pw), v, none, none, none, none]) ∧ SameE p H H2 ∧ PotAt H2 p ∧ H2 Pw = some (.lst (NV (pws bs i)))) ⟨⟨_, rfl⟩, se0, po0, upd_same⟩ ?_ ?_⟩
    · rintro i σ H2 hi ⟨⟨v, rfl⟩, se, po, hw⟩
      obtain ⟨pl, pg⟩ := pow_le (j := i) g5 (by omega) g2
      refine ⟨_, rfl, .inl ⟨rfl, _, SqL.of hw⟩, _, rfl, _, rfl, Pw, _, _, _, rfl, rfl, SqL.of hw, pws_last, _, rfl, _, _, rfl, rfl, .inl ⟨by omega, by omega⟩, Pw, _, _, rfl, rfl, hw, ?_, ?_⟩
      · rw [List.length_map]; unfold pws; rw [List.length_map, List.length_range]; exact Nat.lt_of_lt_of_le (show i + 1 < 6 by omega) (by decide)
      · refine ⟨⟨_, rfl⟩, sameE_put se hPH, ?_, ?_⟩
        · obtain ⟨x, y, e, r⟩ := po
          exact ⟨x, y, by rw [upd_ne npP]; exact e, r⟩
        · rw [upd_same, pws_succ]
          unfold NV
          rw [List.map_append, Nat.pow_succ, List.map_cons, List.map_nil, Int.natCast_mul]
    · rintro σ H2 ⟨⟨kk, rfl⟩, se, po, hw⟩ O hO
      have hOH : H O = none := se.free (by obtain ⟨x, y, e, _⟩ := po; rw [e]; intro z; cases z) hO
      have npO : p ≠ O := by obtain ⟨x, y, e, _⟩ := po; exact ne_of_none e hO
      have nPO : Pw ≠ O := ne_of_none hw hO
      obtain ⟨N, hN⟩ : ∃ N, N = bs ^ fg := ⟨_, rfl⟩
      have hlast : atI (NV (pws bs fg)) (-1) = some (.int (N : Nat)) := by rw [hN]; exact pws_last
      have g2' := g2
      rw [← hN] at g1 g2 gG
      refine ⟨_, rfl, _, rfl, Pw, _, _, _, rfl, rfl, SqL.of (by rw [upd_ne nPO]; exact hw), hlast, N, rfl, by omega, by omega, for_range (n := N) (lo := 0) (fun i σ H3 => (∃ v6 v7 v8, σ = [some (.ref p), some (.int fg), some (.int bs), some (.ref Pw), kk, some (.ref O), v6, v7, v8]) ∧ ∃ as, OutsAt H3 O as i (wOuts fg bs) ∧ SameE p H H3 ∧ PotAt H3 p ∧ H3 Pw = some (.lst (NV (pws bs fg))) ∧ (∀ h, h < i → H (as.getD h 0) = none) ∧ Off as i Pw)
        ⟨⟨_, _, _, rfl⟩, [], ⟨show upd H2 O (.dK []) O = some (.dK (outsKV [] 0)) from upd_same, Holds.nil, fun i j hi => absurd hi (by omega)⟩, sameE_put se hOH, po.same (same_new hO), by rw [upd_ne nPO]; exact hw, fun h hh => absurd hh (by omega), fun h hh => absurd hh (by omega)⟩ ?_ ?_⟩
      · rintro i σ H3 hi ⟨⟨v6, v7, v8, rfl⟩, as, ho, se3, po3, hw3, fr, ofw⟩
        have e0 : (0 : Int) + (i : Int) = i := Int.zero_add _
        rw [e0]
        refine ⟨by show 0 ≤ sizeLine; decide, fun t ht => ?_⟩
        have htH : H t = none := se3.free (by obtain ⟨x, y, e, _⟩ := po3; rw [e]; intro z; cases z) ht
        have oft : Off as i t := ho.offN ht
        have ho4 := ho.same (same_new (o := .lst []) ht)
        have ho5 := ho4.push (ys := []) upd_same oft
        have npt2 : p ≠ t := by obtain ⟨x, y, e, _⟩ := po3; exact ne_of_none e ht
        have nPt : Pw ≠ t := ne_of_none hw3 ht
        have po5 : PotAt (upd (upd H3 t (.lst [])) O (.dK (putK (outsKV as i) (.inl (i : Int)) (.ref t)))) p := by
          obtain ⟨x, y, e, r⟩ := po3
          exact ⟨x, y, by rw [upd_ne npO, upd_ne npt2]; exact e, r⟩
        refine ⟨_, rfl, _, rfl, O, _, rfl, DPut.k (k := .inl (i : Int)) ho4.dict (by unfold outsKV; rw [List.length_map, List.length_range]; exact Nat.lt_of_lt_of_le (show i < 32 by omega) (by decide)), ?_⟩
        have hw5 : (upd (upd H3 t (.lst [])) O (.dK (putK (outsKV as i) (.inl (i : Int)) (.ref t)))) Pw = some (.lst (NV (pws bs fg))) := by rw [upd_ne nPO, upd_ne nPt]; exact hw3
        refine ⟨_, rfl, _, rfl, _, rfl, Pw, _, rfl, SqL.of hw5, fun S hS => ?_⟩
        rw [pws_cut]
        have fr' : ∀ h, h < i + 1 → H ((as ++ [t]).getD h 0) = none := fun h hh => by
          rw [getD_snoc ho.rows.1]
          by_cases e : h = i
          · rw [if_pos e]; exact htH
          · rw [if_neg e]; exact fr h (by omega)
        have ofw' : Off (as ++ [t]) (i + 1) Pw := fun h hh => by
          rw [getD_snoc ho.rows.1]
          by_cases e : h = i
          · rw [if_pos e]; exact nPt
          · rw [if_neg e]; exact ofw h (by omega)
        have ofp' : Off (as ++ [t]) (i + 1) p := fun h hh z => by
          have := fr' h hh
          rw [← z] at this
          obtain ⟨x, y, e, _⟩ := hp
          rw [e] at this; cases this
        have se5 : SameE p H (upd (upd H3 t (.lst [])) O (.dK (putK (outsKV as i) (.inl (i : Int)) (.ref t)))) := sameE_put (sameE_put se3 htH) hOH
        have hSH : H S = none := se5.free (by obtain ⟨x, y, e, _⟩ := po5; rw [e]; intro z; cases z) hS
        have ofS : Off (as ++ [t]) (i + 1) S := ho5.offN hS
        refine ⟨S, rfl, ⟨_, SqL.of upd_same⟩, for_list (K := K) (a := S) (xs := NV ((List.range fg).map fun j => bs ^ j)) (fun j σ H4 => (∃ v7 v8, σ = [some (.ref p), some (.int fg), some (.int bs), some (.ref Pw), kk, some (.ref O), some (.int (i : Int)), v7, v8]) ∧ OutsAt H4 O (as ++ [t]) (i + 1) (setG (wOuts fg bs) i ((List.range j).flatMap (wRow bs i))) ∧ SameE p H H4 ∧ PotAt H4 p ∧ H4 Pw = some (.lst (NV (pws bs fg))) ∧ H4 S = some (.lst (NV ((List.range fg).map fun j => bs ^ j))))
          ⟨⟨_, _, rfl⟩, ho5.same (same_new hS), sameE_put se5 hSH, po5.same (same_new hS), same_new hS _ _ hw5, upd_same⟩ (fun j σ H4 _ ⟨_, _, _, _, _, z⟩ => SqL.of z) ?_ ?_⟩
        · rintro j x σ H4 hx ⟨⟨v7, v8, rfl⟩, o4, se4, po4, hw4, hS4⟩
          rw [List.getElem?_map] at hx
          have hj : j < fg := by
            cases z : ((List.range fg).map fun j => bs ^ j)[j]? with
            | none => rw [z] at hx; cases hx
            | some y => have := (List.getElem?_eq_some_iff.mp z).1; rw [List.length_map, List.length_range] at this; exact this
          have hxe : x = .int ((bs ^ j : Nat) : Int) := by
            rw [List.getElem?_map, List.getElem?_range hj] at hx
            exact (Option.some.inj hx).symm
          subst hxe
          obtain ⟨pl, pg⟩ := pow_le (j := j) g5 (by omega) g2'
          obtain ⟨pw, hpw⟩ : ∃ pw, pw = bs ^ j := ⟨_, rfl⟩
          rw [← hpw] at pl pg ⊢
          have hdg : ((i : Int) / (pw : Int)) % (bs : Int) = ((i / pw % bs : Nat) : Int) := by rw [Int.natCast_emod, Int.natCast_ediv]
          refine ⟨_, rfl, _, rfl, _, _, rfl, rfl, ⟨by omega, by omega⟩, _, rfl, _, _, rfl, rfl, by omega, ?_⟩
          change gName 8 (V.int ((i : Int) / (pw : Int) % (bs : Int))) _ H4 _
          rw [hdg]
          have hlt : i < i + 1 := Nat.lt_succ_self _
          refine ⟨_, rfl, _, rfl, O, _, rfl, o4.get hlt, .inl ⟨rfl, _, SqL.of (o4.rows.2 _ hlt)⟩, _, rfl, bs, rfl, by omega, by omega, fun D hD => ?_⟩
          refine comp_range (n := bs) (lo := 0) (fun k ys σ H5 => (∃ o, σ = [o, some (.int (i : Int)), some (.int ((i / pw % bs : Nat) : Int)), some (.int (pw : Int))]) ∧ ys = NV (((List.range k).filter fun o => decide (o ≠ i / pw % bs)).map fun o => i + o * pw - i / pw % bs * pw) ∧ H5 = upd H4 D (.lst ys)) ⟨⟨_, rfl⟩, rfl, rfl⟩ ?_ ?_
          · rintro k ys σ H5 Kt Kf hk ⟨⟨o, rfl⟩, hys, rfl⟩ kt kf
            have e2 : (0 : Int) + (k : Int) = k := Int.zero_add _
            rw [e2]
            refine ⟨_, rfl, _, rfl, rfl, _, rfl, ?_⟩
            have dgl : i / pw % bs < bs := Nat.mod_lt _ (by omega)
            have hz : ys.length < sizeLine := by
              rw [hys, List.length_map, List.length_map]
              have := List.length_filter_le (fun o => decide (o ≠ i / pw % bs)) (List.range k)
              rw [List.length_range] at this
              exact Nat.lt_of_lt_of_le (show _ < 6 by omega) (by decide)
            refine ite2 (fun e => ?_) (fun e => ?_)
            · have hne : k ≠ i / pw % bs := by
                intro z
                rw [← z] at e
                simp at e
              refine ⟨_, rfl, _, rfl, _, rfl, _, _, rfl, rfl, _, rfl, _, _, rfl, rfl, .inl ⟨by omega, by omega⟩, _, _, rfl, rfl, ?_⟩
              refine kt _ _ _ upd_same hz ⟨⟨_, rfl⟩, ?_, upd_upd⟩
              rw [List.range_succ, List.filter_append, hys]
              have e4 : [k].filter (fun o => decide (o ≠ i / pw % bs)) = [k] := by rw [List.filter_cons, if_pos (by simpa using hne)]; rfl
              rw [e4, List.map_append]
              unfold NV
              rw [List.map_append, List.map_cons, List.map_nil, List.map_cons, List.map_nil, wInt, Int.natCast_emod, Int.natCast_ediv]
            · have heq : k = i / pw % bs := by
                by_cases z : k = i / pw % bs
                · exact z
                · exfalso
                  apply e
                  have : ¬ (V.int (k : Int) = V.int ((i / pw % bs : Nat) : Int)) := fun y => z (by have := V.int.inj y; omega)
                  simp only [decide_eq_false this]
                  rfl
              refine kf _ _ ⟨⟨_, rfl⟩, ?_, rfl⟩
              rw [List.range_succ, List.filter_append, hys]
              have e4 : [k].filter (fun o => decide (o ≠ i / pw % bs)) = [] := by rw [List.filter_cons, if_neg (by simpa using heq)]; rfl
              rw [e4, List.append_nil]
          · rintro ys σ H5 ⟨_, hys, rfl⟩
            have hys' : ys = NV (wRow bs i j) := by rw [hys]; unfold wRow; rw [hpw]
            have ofD : Off (as ++ [t]) (i + 1) D := o4.offN hD
            have o5 := o4.same (same_new (o := .lst ys) hD)
            refine ⟨_, D, _, _, rfl, rfl, o5.rows.2 _ hlt, upd_same, ?_, ?_⟩
            · rw [List.length_map, setG_at, hys', List.length_map]
              have h1 := wFlat_len (b := bs) (h := i) j
              have h2 := wRow_len (b := bs) (h := i) (j := j)
              have h3 : j * bs ≤ 4 * 5 := Nat.mul_le_mul (by omega) g6
              exact Nat.le_trans (show _ ≤ 25 by omega) (by decide)
            · have e6 : NV (setG (wOuts fg bs) i ((List.range j).flatMap (wRow bs i)) i) ++ ys = NV ((List.range (j + 1)).flatMap (wRow bs i)) := by
                rw [setG_at, hys', List.range_succ, List.flatMap_append]
                unfold NV
                rw [List.map_append]
                simp
              rw [e6]
              have hDH : H D = none := se4.free (by obtain ⟨x, y, e, _⟩ := po4; rw [e]; intro z; cases z) hD
              have nSD : S ≠ D := ne_of_none hS4 hD
              have nPD : Pw ≠ D := ne_of_none hw4 hD
              have npD : p ≠ D := by obtain ⟨x, y, e, _⟩ := po4; exact ne_of_none e hD
              refine ⟨⟨_, _, rfl⟩, (o5.put hlt).cong fun x hx => ?_, sameE_put (sameE_put se4 hDH) (fr' i hlt), ?_, ?_, ?_⟩
              · by_cases e : x = i
                · rw [e, setG_at, setG_at]
                · rw [setG_ne e, setG_ne e, setG_ne e]
              · obtain ⟨x, y, e, r⟩ := po4
                exact ⟨x, y, by rw [upd_ne (ofp' i hlt), upd_ne npD]; exact e, r⟩
              · rw [upd_ne (ofw' i hlt), upd_ne nPD]; exact hw4
              · rw [upd_ne (ofS i hlt), upd_ne nSD]; exact hS4
        · rintro σ H4 ⟨⟨v7, v8, rfl⟩, o4, se4, po4, hw4, _⟩
          rw [List.length_map, List.length_map, List.length_range] at o4
          refine ⟨⟨_, _, _, rfl⟩, as ++ [t], o4.cong fun x hx => ?_, se4, po4, hw4, fr', ofw'⟩
          by_cases e : x = i
          · rw [e, setG_at]; rfl
          · rw [setG_ne e]
      · rintro σ H3 ⟨⟨v6, v7, v8, rfl⟩, as, ho, se3, po3, hw3, fr, _⟩
        exact ⟨_, rfl, q O as N (wOuts fg bs) H3 ⟨gG, g1, g2, ho, hOH, fr⟩ se3 po3⟩
end
end K61

set_option maxHeartbeats 1500000
namespace K61
open PySem L2
abbrev sNet : Stmt := top 14
theorem nbH1 : (["_law_house"] : List Str).Nodup := by decide +kernel
theorem nbHO : (["_law_house", "_law_outs"] : List Str).Nodup := by decide +kernel
def natV : V → Nat
  | .int i => i.toNat
  | _ => 0
theorem nv_perm {ys : List V} {xs : List Nat} (h : ys.Perm (NV xs)) : ∃ zs : List Nat, ys = NV zs ∧ zs.Perm xs := by
  refine ⟨ys.map natV, ?_, ?_⟩
  · unfold NV
    rw [List.map_map]
    have : ∀ v ∈ ys, ((fun (j : Nat) => V.int j) ∘ natV) v = v := by
      intro v hv
      obtain ⟨j, _, rfl⟩ := List.mem_map.mp (h.mem_iff.mp hv)
      show V.int (((j : Int).toNat : Nat) : Int) = _
      rw [Int.toNat_natCast]
    conv => lhs; rw [← List.map_id ys]
    exact List.map_congr_left fun v hv => (this v hv).symm
  · have := h.map natV
    unfold NV at this
    rw [List.map_map] at this
    have e : xs.map (natV ∘ fun (j : Nat) => V.int j) = xs := by
      conv => rhs; rw [← List.map_id xs]
      exact List.map_congr_left fun j _ => Int.toNat_natCast j
    rw [e] at this
    exact this
theorem NewNet.up {H G H' : Hp} {p O : Addr} {as : List Addr} {n : Nat} {g : Nat → List Nat} (h : NewNet G H' O as n g) (s : SameE p H G) (hp : G p ≠ none) : NewNet H H' O as n g :=
  ⟨h.1, h.2.1, h.2.2.1, h.2.2.2.1, s.free hp h.2.2.2.2.1, fun x hx => s.free hp (h.2.2.2.2.2 x hx)⟩
theorem PotAt.some {H : Hp} {p : Addr} (h : PotAt H p) : H p ≠ none := by obtain ⟨a, b, e, _⟩ := h; rw [e]; intro z; cases z
theorem outsKV_run {as : List Addr} : ∀ n, dictRun [] (outsKV as n) = outsKV as n
  | 0 => rfl
  | n + 1 => by
    have e : outsKV as (n + 1) = outsKV as n ++ [(.inl (n : Int), .ref (as.getD n 0))] := by unfold outsKV; rw [List.range_succ, List.map_append]; rfl
    have ih := outsKV_run (as := as) n
    rw [e]
    unfold dictRun at ih ⊢
    rw [List.foldl_append, ih]
    exact putK_new _ (outs_none (Nat.le_refl _))
theorem good_none {n : Nat} : Good n (fun _ => []) := ⟨fun _ _ => List.nodup_nil, fun _ _ o ho => (nomatch ho), fun _ _ => by simp, fun h _ => by
  unfold inn
  symm
  rw [List.length_nil, List.countP_eq_zero]
  intro o _
  simp⟩
theorem ite_c {c : Prop} [Decidable c] {A : Prop} {C : Hp → Prop} {H0 : Hp} (G : Hp → Prop) (hC : ∀ Hc, G Hc → C Hc) (h1 : c → (∀ Hc, G Hc → C Hc) → A) (h2 : ¬ c → G H0) : if c then A else C H0 := by
  by_cases h : c
  · rw [if_pos h]; exact h1 h hC
  · rw [if_neg h]; exact hC _ (h2 h)
theorem cut_take {js : List Nat} {k : Nat} : cutV (NV js) none (some (k : Int)) = NV (js.take k) := by
  have h1 : HT.sIx (NV js).length 0 none = 0 := rfl
  have h2 : HT.sIx (NV js).length (NV js).length (some (k : Int)) = min k js.length := by
    unfold HT.sIx
    simp
    try omega
  unfold cutV
  rw [h1, h2, List.drop_zero, Nat.sub_zero]
  unfold NV
  rw [List.map_take, List.take_eq_take_iff]
  simp
  try omega
theorem getD_mem {js : List Nat} {k : Nat} (h : k < js.length) : js.getD k 0 ∈ js := by rw [List.getD_eq_getElem?_getD, List.getElem?_eq_getElem h]; exact List.getElem_mem h
theorem getD_lt {js : List Nat} {k : Nat} (h : k < js.length) : js.getD k 0 = js[k] := by rw [List.getD_eq_getElem?_getD, List.getElem?_eq_getElem h]; rfl
theorem nd_ne {js : List Nat} (nn : js.Nodup) {x y : Nat} (hx : x < js.length) (hy : y < js.length) (e : js.getD x 0 = js.getD y 0) : x = y := by
  rw [getD_lt hx, getD_lt hy] at e
  have := List.pairwise_iff_getElem.mp (List.nodup_iff_pairwise_ne.mp nn)
  rcases Nat.lt_trichotomy x y with z | z | z
  · exact absurd e (this x y hx hy z)
  · exact z
  · exact absurd e.symm (this y x hy hx z)
theorem mem_take_getD {js : List Nat} {k a : Nat} (h : a ∈ js.take k) : ∃ x, x < k ∧ x < js.length ∧ js.getD x 0 = a := by
  obtain ⟨x, hx, e⟩ := List.mem_take_iff_getElem.mp h
  exact ⟨x, by omega, by omega, by rw [getD_lt (by omega)]; exact e⟩
section
variable {P : Program} {w : World} {K : PySem.W.Frag} {mg : Str → Option Value} {base : Heap}
theorem scNet : FnScope ["_law_pot_here", "_law_way", "_law_many", "_law_names", "_law_outs", "_law_k", "_law_some", "_law_turn", "_law_wide"] ["_law_pot_here"] (defScope sNet) := ⟨rfl, rfl, rfl, by decide +kernel, rfl, by decide +kernel, by decide +kernel⟩
theorem ok_net {f : Addr} {fd : FuncData} (F : Fun K "_law_net" "_law_net" sNet f fd) (B : Bl mg) (T : Cal P w K mg base CX0 1 "_law_take" ["_law_pot_here", "_law_many"] spTake) (SH : Cal P w K mg base CX0 2 "_law_shuffled" ["_law_pot_here", "_law_some"] (spShuf K))
    (J : Cal P w K mg base CX0 1 "_law_joined" ["_law_outs", "_law_row"] spJoin) (W : Cal P w K mg base CX0 2 "_law_words" ["_law_pot_here"] spNet) : FnOk P w K mg base CX0 3 f fd ["_law_pot_here"] spNet := by
  refine F.ok scNet (fun vs H Q E h => ?_) (fun cdv A outer s H vs Q E hr h => ?_)
  · obtain ⟨p, rfl, _⟩ := h
    rfl
  · obtain ⟨p, rfl, hp, q⟩ := h
    have hu : (A.deeper (PyProof.Rows.envOfC "_law_net" (defScope sNet) s.heap.objs.size f cdv)).units + 1 < cLine := by have := hr.un; omega
    have hr1 : Room 1 (A.deeper (PyProof.Rows.envOfC "_law_net" (defScope sNet) s.heap.objs.size f cdv)) := hr.mono (by decide)
    refine' ⟨_, pss_cons (ps_set (i := 1) scNet.nd rfl (Or.inl rfl) (pe_cal T hr1 pass0 (pa_cons (pv 0) (pa_cons pe_int pa_nil))))
      (pss_cons (ps_if (pt_cmpR op_eq (pv 1) pe_int (nomark _)) (pss_one (ps_ret (pe_cal W hr pass0 (pa_cons (pv 0) pa_nil)))) pss_nil)
      (pss_cons (ps_set (i := 2) scNet.nd rfl (Or.inl rfl) (pe_op op_add pe_int (pe_cal T hr1 pass0 (pa_cons (pv 0) (pa_cons pe_int pa_nil)))))
      (pss_cons (ps_set (i := 3) scNet.nd rfl (Or.inl rfl) (pe_cal SH hr pass0 (pa_cons (pv 0) (pa_cons (pe_callTy (call_listR rfl) (by rfl) B.lst PyProof.Rows.boot_list (pa_cons (pe_callTy call_rangeV (by rfl) B.range PyProof.Rows.boot_range (pa_cons (pv 2) pa_nil)) pa_nil)) pa_nil))))
      (pss_cons (ps_set (i := 4) scNet.nd rfl (Or.inr rfl) (pe_callTy (call_dictP rfl) (by rfl) B.dict PyProof.Rows.boot_dict (pa_cons ?c1 pa_nil)))
      (pss_cons (ps_if (pt_cmpR op_eq (pv 1) pe_int (nomark _)) (pss_one (ps_expr (pe_cal J hr1 pass0 (pa_cons (pv 4) (pa_cons (pv 3) pa_nil))))) pss_nil)
      (pss_cons (ps_for PassesOwn.never rfl (pi_range2 rfl B.range (pa_cons pe_int (pa_cons (pe_op op_mul (pv 2) (pe_callTy call_int1 (by rfl) B.int PyProof.Rows.boot_int (pa_cons (pe_cmpR op_gt (pv 1) pe_int (nomark _)) pa_nil))) pa_nil))) (pg_name (i := 5) scNet.nd rfl (Or.inl rfl))
        (pss_cons (ps_setComp (i := 6) (g := gName 0) (tt := tTest (tOp (rI0 fun i j => .bl (decide (i < j))) (tCB (fun xs H Q => ∃ p ys, xs = [V.ref p] ∧ (SqL K H p ys ∨ SqT K H p ys) ∧ Q (.int ys.length) H) (tCons (tDGet (tVar 1) (tVar 0)) tNil)) (tC (.int 8)))) (te := tVar 0) (NB := ["_law_house", "_law_outs"]) (src := [none, some 4]) (blk_of (by kernel_rfl)) rfl (pi_list (pe_slice sl_list (pv 3) po_none (po_some (pv 5)))) ?g2 ?t2 ?e2 scNet.nd rfl rfl rfl)
        (pss_one (ps_expr (pe_cal J hr1 pass0 (pa_cons (pv 4) (pa_cons (pe_lst (pa_cons (pe_ix ix_list (pv 3) (pv 5) (fun _ _ => rfl)) (pa_cons (pe_ix ix_list (pv 6) (pe_cal T hr1 pass0 (pa_cons (pv 0) (pa_cons (pe_callB call_len_seq (by rfl) B.len PySem.boot_len (pa_cons (pv 6) pa_nil)) pa_nil))) (fun _ _ => rfl)) pa_nil))) pa_nil)))))))
      (pss_cons (ps_for PassesOwn.never rfl (pi_range1 rfl B.range (pa_cons (pe_cal T hr1 pass0 (pa_cons (pv 0) (pa_cons pe_int pa_nil))) pa_nil)) (pg_name (i := 7) scNet.nd rfl (Or.inl rfl))
        (pss_cons (ps_set (i := 8) scNet.nd rfl (Or.inl rfl) (pe_op op_add pe_int (pe_op op_mul (pe_cal T hr1 pass0 (pa_cons (pv 0) (pa_cons pe_int pa_nil))) (pe_callTy call_int1 (by rfl) B.int PyProof.Rows.boot_int (pa_cons (pe_cmpR op_eq (pv 1) pe_int (nomark _)) pa_nil)))))
        (pss_one (ps_expr (pe_cal J hr1 pass0 (pa_cons (pv 4) (pa_cons (pe_slice sl_list (pe_cal SH hr pass0 (pa_cons (pv 0) (pa_cons (pv 3) pa_nil))) po_none (po_some (pv 8))) pa_nil)))))))
      (pss_one (ps_ret (pv 4)))))))))), ?_⟩
    case c1 =>
      refine' pe_comp (g := gName 0) (te := tTup (tCons (tVar 0) (tCons (tLst tNil) tNil))) (NB := ["_law_house"]) (src := [none]) (blk_of (by kernel_rfl)) rfl
        (pi_range1 rfl B.range (pa_cons (pv 2) pa_nil)) ?g ?t ?e
      case g => exact fun cl C s₃ H₃ fp => pg_name (i := 0) nbH1 rfl (Or.inl rfl) (Or.inr rfl)
      case t => exact fun cl C s₃ H₃ fp => pts_nil
      case e => exact fun cl C s₃ H₃ fp => pe_tup (pa_cons (pv 0) (pa_cons (pe_lst pa_nil) pa_nil))
    case g2 => exact fun cl C s₃ H₃ fp => pg_name (i := 0) nbHO rfl (Or.inl rfl) (Or.inr rfl)
    case t2 => exact fun cl C s₃ H₃ fp => pts_one (pt_cmpR op_lt (pe_callB call_len_seq (by rfl) B.len PySem.boot_len (pa_cons (pe_dget hu (pv 1) (pv 0) (fun _ _ => rfl)) pa_nil)) pe_int (nomark _))
    case e2 => exact fun cl C s₃ H₃ fp => pv 0
    refine ⟨_, rfl, p, 4, rfl, by decide, by decide, hp, fun way a b y0 y1 a0 b0 b1 => ?_⟩
    have po1 : PotAt (upd H p (.lst [.int a, .int b])) p := PotAt.upd a0 b0 b1
    have se1 : SameE p H (upd H p (.lst [.int a, .int b])) := SameE.upd
    refine ⟨_, rfl, rfl, _, rfl, ?_⟩
    refine ite2 (fun e => ?_) (fun e => ?_)
    · exact ⟨_, rfl, p, rfl, po1, fun O as n g H' nn se po => q O as n g H' (nn.up se1 po1.some) (se1.trans se) po⟩
    · refine ⟨_, rfl, p, 19, rfl, by decide, by decide, po1, fun mm a2 b2 m0 m1 c0 c1 c2 => ⟨_, _, rfl, rfl, ?_⟩⟩
      rw [upd_upd]
      have po2 : PotAt (upd H p (.lst [.int a2, .int b2])) p := PotAt.upd c0 c1 c2
      have se2 : SameE p H (upd H p (.lst [.int a2, .int b2])) := SameE.upd
      obtain ⟨n, hn⟩ : ∃ n : Nat, (n : Int) = 2 + mm := ⟨(2 + mm).toNat, by omega⟩
      change gName 2 (V.int (2 + mm)) _ _ _
      rw [← hn]
      refine ⟨_, rfl, _, rfl, n, rfl, fun R hR => ⟨R, n, rfl, upd_same, by omega, fun L hL => ?_⟩⟩
      have s12 : Same (upd H p (.lst [.int a2, .int b2])) (upd (upd (upd H p (.lst [.int a2, .int b2])) R (.rng 0 n)) L (.lst ((List.range n).map fun (i : Nat) => V.int i))) := (same_new hR).trans (same_new hL)
      have npL : p ≠ L := by obtain ⟨_, _, e, _⟩ := po2; exact ne_of_none ((same_new hR) _ _ e) hL
      refine ⟨p, L, _, rfl, po2.same s12, upd_same, npL.symm, by rw [List.length_map, List.length_range]; omega, fun nm ys H3 pm se3 po3 hn3 hy3 => ?_⟩
      obtain ⟨names, rfl, pn⟩ := nv_perm (xs := List.range n) pm
      have nl : names.length = n := by rw [pn.length_eq, List.length_range]
      have nn : names.Nodup := pn.nodup_iff.mpr List.nodup_range
      have nlt : ∀ x ∈ names, x < n := fun x hx => List.mem_range.mp (pn.mem_iff.mp hx)
      have seH : SameE p H H3 := se2.trans ((SameE.of s12).trans se3)
      refine ⟨_, rfl, n, rfl, by omega, by omega, fun D hD => ?_⟩
      refine comp_range (n := n) (lo := 0) (fun i ys σ H4 => (∃ k, σ = [k]) ∧ ∃ ts as, ys = ts.map V.ref ∧ Holds H4 ts i (fun j => .tup [.int (j : Int), .ref (as.getD j 0)]) ∧ Holds H4 as i (fun _ => .lst []) ∧ (∀ x y, x < i → y < i → as.getD x 0 = as.getD y 0 → x = y) ∧ (∀ h, h < i → H3 (as.getD h 0) = none ∧ as.getD h 0 ≠ D) ∧ Same H3 H4 ∧ H4 D = some (.lst ys))
        ⟨⟨_, rfl⟩, [], [], rfl, Holds.nil, Holds.nil, fun x y hx => absurd hx (by omega), fun h hh => absurd hh (by omega), same_new hD, upd_same⟩ ?_ ?_
      · rintro i ys σ H4 Kt Kf hi ⟨⟨k, rfl⟩, ts, as, rfl, hts, has, inj, fr, sm, hD4⟩ kt kf
        refine ⟨_, rfl, by show 0 ≤ sizeLine; decide, fun l hl => ⟨by show 2 ≤ sizeLine; decide, fun t ht => ?_⟩⟩
        have nDl : D ≠ l := ne_of_none hD4 hl
        have nlt' : l ≠ t := ne_of_none upd_same ht
        have nDt : D ≠ t := ne_of_none (show (upd H4 l (.lst [])) D = _ by rw [upd_ne nDl]; exact hD4) ht
        have keep : ∀ b o, H4 b = some o → b ≠ D → (upd (upd (upd H4 l (.lst [])) t (.tup [.int (0 + (i : Int)), .ref l])) D (.lst (ts.map V.ref ++ [.ref t]))) b = some o := fun b o e n => by
          have e1 : (upd H4 l (.lst [])) b = some o := by rw [upd_ne (ne_of_none e hl)]; exact e
          rw [upd_ne n, upd_ne (ne_of_none e1 ht)]; exact e1
        have lNew : (upd (upd (upd H4 l (.lst [])) t (.tup [.int (0 + (i : Int)), .ref l])) D (.lst (ts.map V.ref ++ [.ref t]))) l = some (.lst []) := by rw [upd_ne nDl.symm, upd_ne nlt', upd_same]
        refine kt _ _ _ (by rw [upd_ne nDt, upd_ne nDl]; exact hD4) (by rw [List.length_map, hts.1]; exact Nat.lt_of_lt_of_le hi (Nat.le_trans (show n ≤ 32 by omega) (by decide))) ⟨⟨_, rfl⟩, ts ++ [t], as ++ [l], by rw [List.map_append]; rfl, ?_, ?_, ?_, ?_, ?_, upd_same⟩
        · refine ⟨by rw [List.length_append, hts.1]; rfl, fun j hj => ?_⟩
          rw [getD_snoc hts.1]
          show _ = some (HO.tup [.int (j : Int), .ref ((as ++ [l]).getD j 0)])
          rw [getD_snoc has.1]
          by_cases e : j = i
          · rw [if_pos e, if_pos e, upd_ne nDt.symm, upd_same, e, Int.zero_add]
          · rw [if_neg e, if_neg e]
            have := hts.2 j (by omega)
            exact keep _ _ this (ne_of this hD4 (by intro z; cases z))
        · refine Holds.snoc (has.mono fun j hj e => keep _ _ e (fr j hj).2) lNew
        · intro x y hx hy e
          rw [getD_snoc has.1, getD_snoc has.1] at e
          by_cases ex : x = i <;> by_cases ey : y = i
          · omega
          · rw [if_pos ex, if_neg ey] at e
            have := has.2 y (by omega)
            rw [← e, hl] at this; cases this
          · rw [if_neg ex, if_pos ey] at e
            have := has.2 x (by omega)
            rw [e, hl] at this; cases this
          · rw [if_neg ex, if_neg ey] at e; exact inj x y (by omega) (by omega) e
        · intro h hh
          rw [getD_snoc has.1]
          by_cases e : h = i
          · rw [if_pos e]; exact ⟨sm.free hl, nDl.symm⟩
          · rw [if_neg e]; exact fr h (by omega)
        · intro b' o e
          exact keep _ _ (sm _ _ e) (ne_of_none e hD)
      · rintro ys σ H4 ⟨_, ts, as, rfl, hts, has, inj, fr, sm, hD4⟩
        refine ⟨D, ts, outsKV as n, rfl, hD4, by unfold outsKV; rw [hts.1, List.length_map, List.length_range], fun i hi => ?_, ?_, fun O hO => ?_⟩
        · have hi' : i < n := by unfold outsKV at hi; rw [List.length_map, List.length_range] at hi; exact hi
          refine ⟨.inl (i : Int), .ref (as.getD i 0), ?_, hts.2 i hi'⟩
          unfold outsKV
          rw [List.getElem?_map, List.getElem?_range hi']
          rfl
        · unfold outsKV; rw [List.length_map, List.length_range]; omega
        rw [outsKV_run]
        have hO3 : H3 O = none := sm.free hO
        have oA : OutsAt (upd H4 O (.dK (outsKV as n))) O as n (fun _ => []) := ⟨upd_same, has.mono fun j _ e => same_new hO _ _ e, inj⟩
        have frH : ∀ h, h < n → H (as.getD h 0) = none := fun h hh => seH.free po3.some (fr h hh).1
        have offp : Off as n p := fun h hh z => by have := frH h hh; rw [← z] at this; exact hp.some this
        have offn : Off as n nm := fun h hh => ne_of_none hy3 (fr h hh).1
        have hnH : H nm = none := se2.free po2.some (s12.free hn3)
        have npn : nm ≠ p := by rintro rfl; exact hp.some hnH
        let I : (Nat → List Nat) → Hp → Prop := fun g Hc => OutsAt Hc O as n g ∧ Good n g ∧ SameE p H Hc ∧ PotAt Hc p ∧ Hc nm = some (.lst (NV names))
        have stepJ : ∀ g row Hc H', I g Hc → row.Nodup → 2 ≤ row.length → (∀ x ∈ row, x < n) → OutsAt H' O as n (joinG g row) → SameO as n Hc H' → I (joinG g row) H' := by
          rintro g row Hc H' ⟨o1, o2, o3, o4, o5⟩ r1 r2 r3 oj so
          refine ⟨oj, (good_join o2 r1 r2 r3).1, fun b' o e hne => so _ _ (o3 _ _ e hne) (fun h hh => ne_of_none e (frH h hh)), ?_, so _ _ o5 offn⟩
          obtain ⟨x, y, e, r⟩ := o4
          exact ⟨x, y, so _ _ e offp, r⟩
        have stepP : ∀ g Hc H', I g Hc → SameE p Hc H' → PotAt H' p → I g H' := by
          rintro g Hc H' ⟨o1, o2, o3, o4, o5⟩ se po
          exact ⟨o1.sameE se o4 offp, o2, o3.trans se, po, se _ _ o5 npn⟩
        have stepN : ∀ g Hc H', I g Hc → Same Hc H' → I g H' := fun g Hc H' i s => stepP g Hc H' i (SameE.of s) (i.2.2.2.1.same s)
        have sA : SameE p H (upd H4 O (.dK (outsKV as n))) := seH.trans ((SameE.of sm).trans (SameE.of (same_new hO)))
        have I0 : I (fun _ => []) (upd H4 O (.dK (outsKV as n))) := ⟨oA, good_none, sA, (po3.same sm).same (same_new hO), same_new hO _ _ (sm _ _ hy3)⟩
        have hOH : H O = none := seH.free po3.some hO3
        refine ⟨_, rfl, rfl, _, rfl, ?_⟩
        refine ite_c (fun Hc => ∃ g, I g Hc ∧ (way ≠ 0 → g = fun _ => [])) ?_ (fun e kc => ?_) (fun e => ⟨_, I0, fun _ => rfl⟩)
        · rintro Hc ⟨g, Ig, gz⟩
          refine ⟨_, rfl, _, rfl, _, _, rfl, rfl, .inr ⟨_, rfl, _, _, rfl, rfl, .inl ⟨by omega, by omega⟩, _, _, rfl, ⟨by decide, by decide, ?_, ?_⟩, for_range (lo := 1) (fun i σ H5 => (∃ v5 v6, σ = [some (.ref p), some (.int way), some (.int n), some (.ref nm), some (.ref O), v5, v6, none, none]) ∧ ∃ g, I g H5 ∧ (way ≠ 0 → (∀ j, i + 1 ≤ j → j < n → g (names.getD j 0) = []) ∧ (g (names.getD i 0)).length ≤ 1)) ⟨⟨_, _, rfl⟩, g, Ig, fun z => ?_⟩ ?_ ?_⟩⟩
          · split <;> omega
          · split <;> omega
          · rw [gz z]
            exact ⟨fun _ _ _ => rfl, by simp⟩
          · rintro i σ H5 hi ⟨⟨v5, v6, rfl⟩, g1, I1, gw⟩
            have hwi : way ≠ 0 ∧ i + 1 < n := by
              by_cases z : 0 < way
              · refine ⟨by omega, ?_⟩
                simp [z] at hi; omega
              · simp [z] at hi
            obtain ⟨gw1, gw2⟩ := gw hwi.1
            have e1 : (1 : Int) + (i : Int) = ((i + 1 : Nat) : Int) := by omega
            rw [e1]
            refine ⟨_, rfl, _, rfl, _, rfl, nm, _, rfl, SqL.of I1.2.2.2.2, fun S hS => ?_⟩
            rw [cut_take]
            have I2 := stepN _ _ _ I1 (same_new (o := .lst (NV (names.take (i + 1)))) hS)
            have hSs : (upd H5 S (.lst (NV (names.take (i + 1))))) S = some (.lst (NV (names.take (i + 1)))) := upd_same
            revert I2 hSs
            generalize upd H5 S (.lst (NV (names.take (i + 1)))) = HS
            intro I2 hSs
            refine ⟨S, rfl, ⟨_, SqL.of hSs⟩, fun D hD => ?_⟩
            refine comp_list (K := K) (a := S) (xs := NV (names.take (i + 1))) (fun j ys σ H6 => (∃ v, σ = [v, some (.ref O)]) ∧ ys = NV (((names.take (i + 1)).take j).filter fun h => decide ((g1 h).length < 8)) ∧ H6 = upd HS D (.lst ys)) ⟨⟨_, rfl⟩, by rw [List.take_zero]; rfl, rfl⟩ ?_ ?_ ?_
            · rintro j ys σ H6 _ ⟨_, _, rfl⟩
              exact SqL.of (by rw [upd_ne (ne_of_none hSs hD)]; exact hSs)
            · rintro j x ys σ H6 Kt Kf hx ⟨⟨v, rfl⟩, hys, rfl⟩ kt kf
              rw [List.getElem?_map] at hx
              obtain ⟨h, hh, rfl⟩ := Option.map_eq_some_iff.mp hx
              have hm : h ∈ names := List.mem_of_mem_take (List.mem_of_getElem? hh)
              have hlt := nlt h hm
              have I3 := stepN _ _ _ I2 (same_new (o := .lst ys) hD)
              have tk : (names.take (i+1)).take (j+1) = (names.take (i+1)).take j ++ [h] := by rw [List.take_add_one, hh]; rfl
              refine ⟨_, rfl, _, rfl, O, _, rfl, I3.1.get hlt, as.getD h 0, NV (g1 h), rfl, .inl (SqL.of (I3.1.rows.2 h hlt)), _, _, rfl, rfl, _, rfl, ?_⟩
              refine ite2 (fun e => ?_) (fun e => ?_)
              · have e' : (g1 h).length < 8 := by simp at e; omega
                refine ⟨_, rfl, kt _ _ _ upd_same ?_ ⟨⟨_, rfl⟩, ?_, ?_⟩⟩
                · rw [hys, List.length_map]
                  exact Nat.lt_of_le_of_lt (Nat.le_trans (List.length_filter_le _ _) (List.length_take_le _ _)) (Nat.lt_of_lt_of_le (show j < 33 by have := (List.getElem?_eq_some_iff.mp hh).1; rw [List.length_take, nl] at this; omega) (by decide))
                · rw [tk, List.filter_append, List.filter_cons_of_pos (by simpa using e'), List.filter_nil, hys]
                  unfold NV
                  rw [List.map_append]; rfl
                · rw [upd_upd]
              · have e' : ¬ (g1 h).length < 8 := by simp at e; omega
                refine kf _ _ ⟨⟨_, rfl⟩, ?_, rfl⟩
                rw [tk, List.filter_append, List.filter_cons_of_neg (by simpa using e'), List.filter_nil, List.append_nil, hys]
            · rintro ys σ H6 ⟨_, hys, rfl⟩
              have tl : (NV (names.take (i + 1))).length = (names.take (i + 1)).length := List.length_map _
              rw [tl, List.take_length] at hys
              subst hys
              obtain ⟨fl, hfl⟩ : ∃ fl, fl = (names.take (i + 1)).filter fun h => decide ((g1 h).length < 8) := ⟨_, rfl⟩
              rw [← hfl]
              have I4 := stepN _ _ _ I2 (same_new (o := .lst (NV fl)) hD)
              have fl0 : 0 < fl.length := by
                refine List.length_pos_of_mem (a := names.getD i 0) ?_
                rw [hfl]
                refine List.mem_filter.mpr ⟨?_, decide_eq_true (by omega)⟩
                rw [getD_lt (show i < names.length by omega)]
                exact List.mem_take_iff_getElem.mpr ⟨i, by omega, rfl⟩
              have fl1 : fl.length ≤ 32 := by
                rw [hfl]
                refine Nat.le_trans (List.length_filter_le _ _) ?_
                rw [List.length_take]; omega
              have fm : ∀ x ∈ fl, x ∈ names.take (i + 1) := fun x hx => by rw [hfl] at hx; exact (List.mem_filter.mp hx).1
              refine ⟨_, rfl, _, rfl, _, rfl, nm, _, _, _, rfl, rfl, SqL.of I4.2.2.2.2, nv_at (by omega), ?_⟩
              refine ⟨_, rfl, _, rfl, _, rfl, D, _, rfl, .inl (SqL.of upd_same), p, _, rfl, by rw [List.length_map]; omega, by rw [List.length_map]; omega, I4.2.2.2.1, fun d a3 b3 d0 d1 k0 k1 k2 => ?_⟩
              rw [List.length_map] at d1
              have I5 := stepP _ _ _ I4 SameE.upd (PotAt.upd k0 k1 k2)
              have nDp : D ≠ p := by rintro rfl; exact I2.2.2.2.1.some hD
              obtain ⟨dn, rfl⟩ : ∃ dn : Nat, (dn : Int) = d := ⟨d.toNat, by omega⟩
              refine ⟨D, _, _, _, rfl, rfl, SqL.of (by rw [upd_ne nDp]; exact upd_same), nv_at (by omega), by show 2 ≤ sizeLine; decide, fun L hL => ?_⟩
              have I6 := stepN _ _ _ I5 (same_new (o := .lst [.int (names.getD (i + 1) 0 : Nat), .int (fl.getD dn 0 : Nat)]) hL)
              have m1 : names.getD (i + 1) 0 ∈ names := getD_mem (by omega)
              have m2 : fl.getD dn 0 ∈ names.take (i + 1) := fm _ (getD_mem (by omega))
              have m12 : names.getD (i + 1) 0 ≠ fl.getD dn 0 := by
                intro z
                rw [← z] at m2
                obtain ⟨x, hx, hx2, e⟩ := mem_take_getD m2
                have := nd_ne nn hx2 (by omega) e
                omega
              have rn : [names.getD (i + 1) 0, fl.getD dn 0].Nodup := List.nodup_cons.mpr ⟨by simpa using m12, List.nodup_cons.mpr ⟨by simp, List.nodup_nil⟩⟩
              have rt : ∀ x ∈ [names.getD (i + 1) 0, fl.getD dn 0], x < n := by
                intro x hx
                rcases List.mem_cons.mp hx with rfl | hx
                · exact nlt _ m1
                · rw [List.mem_singleton.mp hx]; exact nlt _ (List.mem_of_mem_take m2)
              refine ⟨O, L, as, n, _, [names.getD (i + 1) 0, fl.getD dn 0], rfl, I6.1, upd_same, I5.1.offN hL, rt, by show 2 ≤ 32; decide, I6.2.1.le, fun H' oj so => ⟨⟨_, _, rfl⟩, _, stepJ _ _ _ _ I6 rn (by show 2 ≤ 2; decide) rt oj so, fun _ => ⟨fun j hj1 hj2 => ?_, ?_⟩⟩⟩
              · rw [(good_join I6.2.1 rn (by show 2 ≤ 2; decide) rt).2.1 _ (fun z => ?_)]
                · exact gw1 j (by omega) hj2
                · rcases List.mem_cons.mp z with z | z
                  · have := nd_ne nn (show j < names.length by omega) (show i + 1 < names.length by omega) z
                    omega
                  · rw [← List.mem_singleton.mp z] at m2
                    obtain ⟨x, hx, hx2, e⟩ := mem_take_getD m2
                    have := nd_ne nn hx2 (by omega) e
                    omega
              · have := (good_join I6.2.1 rn (by show 2 ≤ 2; decide) rt).2.2 (names.getD (i + 1) 0)
                rw [gw1 (i + 1) (by omega) (by omega)] at this
                exact this
          · rintro σ H5 ⟨⟨v5, v6, rfl⟩, g1, I1, _⟩
            refine ⟨_, rfl, p, 8, rfl, by decide, by decide, I1.2.2.2.1, fun d a3 b3 d0 d1 k0 k1 k2 => ⟨d, rfl, by omega, by omega, for_range (n := d.toNat) (lo := 0) (fun i σ H6 => (∃ v7 v8, σ = [some (.ref p), some (.int way), some (.int n), some (.ref nm), some (.ref O), v5, v6, v7, v8]) ∧ ∃ g, I g H6) ⟨⟨_, _, rfl⟩, g1, stepP _ _ _ I1 SameE.upd (PotAt.upd k0 k1 k2)⟩ ?_ ?_⟩⟩
            · rintro i σ H6 hi ⟨⟨v7, v8, rfl⟩, g2, I2⟩
              refine ⟨_, rfl, p, 4, rfl, by decide, by decide, I2.2.2.2.1, fun d2 a4 b4 e0 e1 l0 l1 l2 => ⟨_, rfl, rfl, .inr ⟨_, rfl, _, _, rfl, rfl, .inl ⟨by omega, by omega⟩, _, _, rfl, rfl, ?_⟩⟩⟩
              have I3 := stepP _ _ _ I2 (SameE.upd (o := .lst [.int a4, .int b4])) (PotAt.upd l0 l1 l2)
              obtain ⟨wd, hwd⟩ : ∃ wd : Nat, (wd : Int) = 2 + d2 * (if decide (V.int way = V.int 0) = true then 1 else 0) := ⟨(2 + d2 * (if decide (V.int way = V.int 0) = true then 1 else 0)).toNat, by split <;> omega⟩
              have wd2 : 2 ≤ wd := by split at hwd <;> omega
              change gName 8 (V.int (2 + d2 * (if decide (V.int way = V.int 0) = true then 1 else 0))) _ _ _
              rw [← hwd]
              refine ⟨_, rfl, _, rfl, _, rfl, p, nm, NV names, rfl, I3.2.2.2.1, I3.2.2.2.2, npn, by rw [List.length_map]; omega, fun r ys H7 pm se po hr' hy => ?_⟩
              obtain ⟨zs, rfl, pz⟩ := nv_perm pm
              have I4 := stepP _ _ _ I3 se po
              refine ⟨_, rfl, _, rfl, r, _, rfl, SqL.of hy, fun S hS => ?_⟩
              rw [cut_take]
              have I5 := stepN _ _ _ I4 (same_new (o := .lst (NV (zs.take wd))) hS)
              have zn : (zs.take wd).Nodup := (pz.nodup_iff.mpr nn).sublist (List.take_sublist _ _)
              have zl : (zs.take wd).length = min wd n := by rw [List.length_take, pz.length_eq, nl]
              have zt : ∀ x ∈ zs.take wd, x < n := fun x hx => nlt x (pz.mem_iff.mp (List.mem_of_mem_take hx))
              exact ⟨O, S, as, n, _, zs.take wd, rfl, I5.1, upd_same, I4.1.offN hS, zt, by omega, I5.2.1.le, fun H' oj so => ⟨⟨_, _, rfl⟩, _, stepJ _ _ _ _ I5 zn (by omega) zt oj so⟩⟩
            · rintro σ H6 ⟨⟨v7, v8, rfl⟩, g2, I2⟩
              exact ⟨_, rfl, q O as n g2 H6 ⟨I2.2.1, by omega, by omega, I2.1, hOH, frH⟩ I2.2.2.1 I2.2.2.2.1⟩
        · have w0 : way = 0 := by
            have := of_decide_eq_true e
            exact V.int.inj this
          exact ⟨_, rfl, _, rfl, O, nm, as, n, _, names, rfl, oA, I0.2.2.2.2, offn, nlt, by omega, fun h hh => by simp, fun H' oj so => kc H' ⟨_, stepJ _ _ _ _ I0 nn (by omega) nlt oj so, fun z => absurd w0 z⟩⟩
end
end K61

set_option maxHeartbeats 1500000
namespace K61
open PySem L2
abbrev sGR : Stmt := top 15
/-! ### a net's houses, going round -/
def grS (n : Nat) (g : Nat → List Nat) (h k : Nat) : List Nat := ((List.range k).map fun s => (h + (1 + s)) % n).filter fun o => decide (o ∈ g h)
def gr (n : Nat) (g : Nat → List Nat) (h : Nat) : List Nat := grS n g h (n - 1)
theorem grS_succ {n : Nat} {g : Nat → List Nat} {h k : Nat} : grS n g h (k + 1) = grS n g h k ++ (if (h + (1 + k)) % n ∈ g h then [(h + (1 + k)) % n] else []) := by
  unfold grS
  rw [List.range_succ, List.map_append, List.filter_append]
  congr 1
  rw [List.map_cons, List.map_nil]
  by_cases e : (h + (1 + k)) % n ∈ g h
  · rw [if_pos e, List.filter_cons_of_pos (by simpa using e), List.filter_nil]
  · rw [if_neg e, List.filter_cons_of_neg (by simpa using e), List.filter_nil]
theorem mod_if {n h s : Nat} (hh : h < n) (hs : s < n - 1) : (h + (1 + s)) % n = if h + (1 + s) < n then h + (1 + s) else h + (1 + s) - n := by
  by_cases e : h + (1 + s) < n
  · rw [if_pos e, Nat.mod_eq_of_lt e]
  · rw [if_neg e, Nat.mod_eq_sub_mod (by omega), Nat.mod_eq_of_lt (by omega)]
theorem gr_perm {n : Nat} {g : Nat → List Nat} (G : Good n g) {h : Nat} (hh : h < n) : (gr n g h).Perm (g h) := by
  have nd : (gr n g h).Nodup := by
    unfold gr grS
    refine List.Pairwise.filter _ ?_
    refine List.pairwise_map.mpr ?_
    refine List.Pairwise.imp_of_mem ?_ (List.nodup_range (n := n - 1))
    intro a b ha hb hab e
    rw [mod_if hh (List.mem_range.mp ha), mod_if hh (List.mem_range.mp hb)] at e
    have := List.mem_range.mp ha
    have := List.mem_range.mp hb
    split at e <;> split at e <;> omega
  refine (List.perm_ext_iff_of_nodup nd (G.nd h hh)).mpr fun o => ?_
  unfold gr grS
  rw [List.mem_filter, decide_eq_true_iff]
  refine ⟨fun z => z.2, fun z => ⟨List.mem_map.mpr ?_, z⟩⟩
  obtain ⟨o1, o2⟩ := G.lt h hh o z
  by_cases e : h < o
  · refine ⟨o - h - 1, List.mem_range.mpr (by omega), ?_⟩
    rw [mod_if hh (by omega), if_pos (by omega)]; omega
  · refine ⟨o + n - h - 1, List.mem_range.mpr (by omega), ?_⟩
    rw [mod_if hh (by omega), if_neg (by omega)]; omega
theorem good_gr {n : Nat} {g : Nat → List Nat} (G : Good n g) : Good n (gr n g) := by
  refine ⟨fun h hh => (gr_perm G hh).nodup_iff.mpr (G.nd h hh), fun h hh o ho => G.lt h hh o ((gr_perm G hh).mem_iff.mp ho), fun h hh => by rw [(gr_perm G hh).length_eq]; exact G.le h hh, fun h hh => ?_⟩
  rw [(gr_perm G hh).length_eq, G.bal h hh]
  unfold inn
  refine List.countP_congr fun o ho => ?_
  simp only [decide_eq_true_eq]
  exact (gr_perm G (List.mem_range.mp ho)).mem_iff.symm
theorem outsKV_len {as : List Addr} {n : Nat} : (outsKV as n).length = n := by unfold outsKV; rw [List.length_map, List.length_range]
theorem outsKV_at {as : List Addr} {n i : Nat} {k : Key} {v : V} (h : (outsKV as n)[i]? = some (k, v)) : i < n ∧ k = .inl (i : Int) := by
  have hi : i < n := by have := (List.getElem?_eq_some_iff.mp h).1; rw [outsKV_len] at this; exact this
  refine ⟨hi, ?_⟩
  unfold outsKV at h
  rw [List.getElem?_map, List.getElem?_range hi] at h
  exact (congrArg Prod.fst (Option.some.inj h)).symm
theorem nbG : (["_law_step", "_law_house", "_law_many", "_law_outs"] : List Str).Nodup := by decide +kernel
section
variable {P : Program} {w : World} {K : PySem.W.Frag} {mg : Str → Option Value} {base : Heap}
theorem scGR : FnScope ["_law_outs", "_law_many", "_law_found", "_law_house"] ["_law_outs"] (defScope sGR) := ⟨rfl, rfl, rfl, by decide +kernel, rfl, by decide +kernel, by decide +kernel⟩
def spGR : Sp := fun vs H Q _ => ∃ (O : Addr) (as : List Addr) (n : Nat) (g : Nat → List Nat), vs = [.ref O] ∧ Good n g ∧ 2 ≤ n ∧ n ≤ 32 ∧ OutsAt H O as n g ∧
  ∀ (O' : Addr) (as' : List Addr) (g' : Nat → List Nat) (H' : Hp), NewNet H H' O' as' n g' → SameE O H H' → H' O ≠ none → Q (.ref O') H'
theorem ok_gr {f : Addr} {fd : FuncData} (F : Fun K "_law_going_round" "_law_going_round" sGR f fd) (B : Bl mg) : FnOk P w K mg base CX0 1 f fd ["_law_outs"] spGR := by
  refine F.ok scGR (fun vs H Q E h => ?_) (fun cdv A outer s H vs Q E hr h => ?_)
  · obtain ⟨O, as, n, g, rfl, _⟩ := h
    rfl
  · obtain ⟨O, as, n, g, rfl, G, n2, n32, hO, q⟩ := h
    have hu : (A.deeper (PyProof.Rows.envOfC "_law_going_round" (defScope sGR) s.heap.objs.size f cdv)).units + 1 < cLine := by have := hr.un; omega
    refine' ⟨_, pss_cons (ps_set (i := 1) scGR.nd rfl (Or.inr rfl) (pe_callB call_lenD (by rfl) B.len PySem.boot_len (pa_cons (pv 0) pa_nil)))
      (pss_cons (ps_set (i := 2) scGR.nd rfl (Or.inl rfl) pe_dnewK)
      (pss_cons (ps_for PassesOwn.never rfl (pi_dict (pv 0)) (pg_name (i := 3) scGR.nd rfl (Or.inr rfl)) (pss_one (ps_dput hu (pv 2) (pv 3) ?c rfl)))
      (pss_one (ps_ret (pv 2))))), ?_⟩
    case c =>
      refine' pe_comp (g := gName 0) (tt := tTest (tOp (rIn K false) (tOp (rI (fun _ j => 0 < j) fun i j => .int (i % j)) (tOp (rI0 fun i j => .int (i + j)) (tVar 1) (tVar 0)) (tVar 2)) (tDGet (tVar 3) (tVar 1)))) (te := tOp (rI (fun _ j => 0 < j) fun i j => .int (i % j)) (tOp (rI0 fun i j => .int (i + j)) (tVar 1) (tVar 0)) (tVar 2)) (NB := ["_law_step", "_law_house", "_law_many", "_law_outs"]) (src := [none, some 3, some 1, some 0]) (blk_of (by kernel_rfl)) rfl
        (pi_range2 rfl B.range (pa_cons pe_int (pa_cons (pv 1) pa_nil))) ?g ?t ?e
      case g => exact fun cl C s₃ H₃ fp => pg_name (i := 0) nbG rfl (Or.inl rfl) (Or.inr rfl)
      case t => exact fun cl C s₃ H₃ fp => pts_one (pt_cmpR op_in_seq (pe_op op_mod (pe_op op_add (pv 1) (pv 0)) (pv 2)) (pe_dget hu (pv 3) (pv 1) (fun _ _ => rfl)) (by rfl))
      case e => exact fun cl C s₃ H₃ fp => pe_op op_mod (pe_op op_add (pv 1) (pv 0)) (pv 2)
    refine ⟨_, rfl, O, _, rfl, hO.dict, ?_⟩
    change gName 1 (V.int (((outsKV as n).length : Nat) : Int)) _ _ _
    rw [outsKV_len]
    intro F' hF
    have nOF : O ≠ F' := ne_of_none hO.dict hF
    have hO1 : OutsAt (upd H F' (.dK [])) O as n g := hO.same (same_new hF)
    refine ⟨_, rfl, O, _, rfl, hO1.dict, fun o => ?_⟩
    refine for_dict (fun i σ H3 => (∃ v3, σ = [some (.ref O), some (.int n), some (.ref F'), v3]) ∧ H3 O = some (.frz o (.dK (outsKV as n))) ∧ SameE O H H3 ∧ ∃ bs, OutsAt H3 F' bs i (gr n g) ∧ ∀ h, h < i → H (bs.getD h 0) = none)
      ⟨⟨_, rfl⟩, upd_same, fun b u e hne => by rw [upd_ne hne, upd_ne (ne_of_none e hF)]; exact e, [], ⟨by rw [upd_ne nOF.symm, upd_same]; rfl, Holds.nil, fun i j hi => absurd hi (by omega)⟩, fun h hh => absurd hh (by omega)⟩ (fun i σ H3 _ ⟨_, z, _⟩ => z) ?_ ?_
    · rintro i k v σ H3 hk ⟨⟨v3, rfl⟩, hf, se, bs, hB, fr⟩
      obtain ⟨hi, rfl⟩ := outsKV_at hk
      have rows3 : Holds H3 as n (fun h => .lst (NV (g h))) := hO.rows.mono fun j hj e => se _ _ e (fun z => by rw [z] at e; rw [hO.dict] at e; cases e)
      change gName 3 (V.int (i : Int)) _ _ _
      refine ⟨_, rfl, 1, n, rfl, ⟨by decide, by decide, by omega, by omega⟩, fun D hD => ?_⟩
      have hn1 : ((n : Int) - 1).toNat = n - 1 := by omega
      have nOD : O ≠ D := ne_of_none hf hD
      have hDH : H D = none := by
        cases z : H D with
        | none => rfl
        | some u => rw [se _ _ z nOD.symm] at hD; cases hD
      refine comp_range (fun j ys σ H4 => (∃ v, σ = [v, some (.int i), some (.int n), some (.ref O)]) ∧ ys = NV (grS n g i j) ∧ H4 = upd H3 D (.lst ys)) ⟨⟨_, rfl⟩, rfl, rfl⟩ ?_ ?_
      · rintro j ys σ H4 Kt Kf hj ⟨⟨v, rfl⟩, rfl, rfl⟩ kt kf
        rw [hn1] at hj
        have rows4 : Holds (upd H3 D (.lst (NV (grS n g i j)))) as n (fun h => .lst (NV (g h))) := rows3.mono fun x _ e => same_new hD _ _ e
        have em : ((i : Int) + (1 + (j : Int))) % (n : Int) = (((i + (1 + j)) % n : Nat) : Int) := by
          rw [Int.natCast_emod]; rfl
        have gt : DGet (upd H3 D (.lst (NV (grS n g i j)))) O (.int (i : Int)) (some (.ref (as.getD i 0))) := .inl ⟨outsKV as n, .inl (i : Int), .inr ⟨o, by rw [upd_ne nOD]; exact hf⟩, rfl, (outs_val hi).symm⟩
        refine ⟨_, rfl, _, rfl, _, _, rfl, rfl, _, rfl, _, _, rfl, rfl, by omega, _, rfl, _, rfl, O, _, rfl, gt, as.getD i 0, NV (g i), rfl, .inl (SqL.of (rows4.2 i hi)), rfl, flat_nat, _, rfl, ?_⟩
        have ei : inV (V.int (((i : Int) + (1 + (j : Int))) % (n : Int))) (NV (g i)) = decide ((i + (1 + j)) % n ∈ g i) := by rw [em, inV_nat]
        refine ite2 (fun e => ?_) (fun e => ?_)
        · have e' : (i + (1 + j)) % n ∈ g i := by
            have e2 : inV (V.int (((i : Int) + (1 + (j : Int))) % (n : Int))) (NV (g i)) = true := e
            rw [ei] at e2
            exact of_decide_eq_true e2
          refine ⟨_, rfl, _, rfl, _, _, rfl, rfl, _, rfl, _, _, rfl, rfl, by omega, kt _ _ _ upd_same ?_ ⟨⟨_, rfl⟩, ?_, ?_⟩⟩
          · rw [List.length_map]
            unfold grS
            refine Nat.lt_of_le_of_lt (List.length_filter_le _ _) ?_
            rw [List.length_map, List.length_range]
            exact Nat.lt_of_lt_of_le (show j < 32 by omega) (by decide)
          · rw [grS_succ, if_pos e']
            show _ ++ [V.int (((i : Int) + (1 + (j : Int))) % (n : Int))] = _
            rw [em]
            unfold NV
            rw [List.map_append]; rfl
          · rw [upd_upd]
        · have e' : ¬ (i + (1 + j)) % n ∈ g i := by
            have e2 : ¬ inV (V.int (((i : Int) + (1 + (j : Int))) % (n : Int))) (NV (g i)) = true := e
            rw [ei] at e2
            simpa using e2
          refine kf _ _ ⟨⟨_, rfl⟩, ?_, rfl⟩
          rw [grS_succ, if_neg e', List.append_nil]
      · rintro ys σ H4 ⟨_, rfl, rfl⟩
        rw [hn1]
        have off : Off bs i D := hB.offN hD
        have hB4 := hB.same (same_new (o := .lst (NV (grS n g i (n - 1)))) hD)
        have hB5 := hB4.push (ys := grS n g i (n - 1)) upd_same off
        have nFD : F' ≠ D := ne_of_none hB.dict hD
        refine ⟨_, rfl, _, rfl, F', _, rfl, DPut.k (k := .inl (i : Int)) hB4.dict (by rw [outsKV_len]; exact Nat.lt_of_lt_of_le (show i < 32 by omega) (by decide)), ⟨_, rfl⟩, ?_, ?_, bs ++ [D], hB5.cong ?_, ?_⟩
        · rw [upd_ne nOF, upd_ne nOD]; exact hf
        · intro b u e hne
          rw [upd_ne (ne_of_none e hF), upd_ne (ne_of_none e hDH)]; exact se _ _ e hne
        · intro x hx
          by_cases e : x = i
          · subst e; rw [setG_at]; rfl
          · rw [setG_ne e]
        · intro h hh
          rw [getD_snoc hB.rows.1]
          by_cases e : h = i
          · rw [if_pos e]; exact hDH
          · rw [if_neg e]; exact fr h (by omega)
    · rintro σ H3 ⟨⟨v3, rfl⟩, hf, se, bs, hB, fr⟩
      rw [outsKV_len] at hB fr
      exact ⟨_, rfl, q F' bs (gr n g) H3 ⟨good_gr G, n2, n32, hB, hF, fr⟩ se (by rw [hf]; intro z; cases z)⟩
end
end K61

set_option maxHeartbeats 1500000
namespace K61
open PySem L2
abbrev sLet : Stmt := top 16
/-! ### stands -/
def stV : Option Nat → V
  | none => .non
  | some h => .int h
abbrev SV (s : List (Option Nat)) : List V := s.map stV
abbrev HV (s : List Int) : List V := s.map V.int
def RightS (n : Nat) (g : Nat → List Nat) (s : List (Option Nat)) : Prop := (∀ h, some h ∈ s → h < n) ∧ ∀ h, h < n → s.count (some h) ≤ (g h).length
theorem flat_sv {s : List (Option Nat)} : (SV s).all flatV = true := by
  rw [List.all_eq_true]
  intro v hv
  obtain ⟨j, _, rfl⟩ := List.mem_map.mp hv
  cases j <;> rfl
theorem stV_inj {a b : Option Nat} (h : stV a = stV b) : a = b := by
  cases a <;> cases b
  · rfl
  · cases h
  · cases h
  · have := V.int.inj h
    congr 1; omega
theorem count_sv {h : Nat} : ∀ {s : List (Option Nat)}, (SV s).countP (fun z => eqV z (.int h)) = s.count (some h)
  | [] => rfl
  | x :: s => by
    have ih := count_sv (h := h) (s := s)
    unfold SV at ih ⊢
    rw [List.map_cons, List.countP_cons, ih, List.count_cons]
    have e : eqV (stV x) (.int (h : Int)) = (x == some h) := by
      cases x with
      | none => rfl
      | some y =>
        show ((y : Int) == (h : Int)) = (some y == some h)
        rw [Bool.eq_iff_iff]
        simp
        omega
    rw [e]
theorem pick2 {a b : Int} {c : Bool} : atI [V.int a, V.int b] (if c = true then 1 else 0) = some (V.int (if c = true then b else a)) := by cases c <;> rfl
theorem pickM {a b w : Int} (h : 0 ≤ w) : atI [V.int a, V.int b] (w % 2) = some (V.int (if w % 2 = 1 then b else a)) := by
  rcases (by omega : w % 2 = 0 ∨ w % 2 = 1) with e | e <;> rw [e] <;> rfl
theorem ite_s {c : Prop} [Decidable c] {A : Prop} {C : St → Hp → Prop} {σ0 : St} {H0 : Hp} (G : St → Hp → Prop) (hC : ∀ σ H, G σ H → C σ H) (h1 : c → (∀ σ H, G σ H → C σ H) → A) (h2 : ¬ c → G σ0 H0) : if c then A else C σ0 H0 := by
  by_cases h : c
  · rw [if_pos h]; exact h1 h hC
  · rw [if_neg h]; exact hC _ _ (h2 h)
theorem ite_t {A B : Prop} (h : A) : if true = true then A else B := by rw [if_pos rfl]; exact h
theorem ite_f {A B : Prop} (h : B) : if false = true then A else B := by rw [if_neg (by decide)]; exact h
theorem RightS.push {n : Nat} {g : Nat → List Nat} {s : List (Option Nat)} {x : Option Nat} (h : RightS n g s) (hx : ∀ y, x = some y → y < n ∧ s.count (some y) < (g y).length) : RightS n g (s ++ [x]) := by
  refine ⟨fun y hy => ?_, fun y hy => ?_⟩
  · rcases List.mem_append.mp hy with z | z
    · exact h.1 y z
    · exact (hx y (List.mem_singleton.mp z).symm).1
  · rw [List.count_append, List.count_singleton]
    by_cases e : x = some y
    · have := (hx y e).2
      rw [if_pos (by rw [e]; simp)]; omega
    · rw [if_neg (by simpa using e)]; exact h.2 y hy
section
variable {P : Program} {w : World} {K : PySem.W.Frag} {mg : Str → Option Value} {base : Heap}
theorem scLet : FnScope ["_law_pot_here", "_law_outs", "_law_most", "_law_many", "_law_way", "_law_first", "_law_homes", "_law_stand", "_law_k", "_law_start", "_law_home"] ["_law_pot_here", "_law_outs", "_law_most"] (defScope sLet) := ⟨rfl, rfl, rfl, by decide +kernel, rfl, by decide +kernel, by decide +kernel⟩
def spLet : Sp := fun vs H Q _ => ∃ (p O : Addr) (as : List Addr) (n : Nat) (g : Nat → List Nat), vs = [.ref p, .ref O, .int 16] ∧ PotAt H p ∧ OutsAt H O as n g ∧ Off as n p ∧ 2 ≤ n ∧ n ≤ 32 ∧
  ∀ (t a b : Addr) (hs : List Int) (s : List (Option Nat)) (H' : Hp), H' t = some (.tup [.ref a, .ref b]) → H' a = some (.tup (HV hs)) → H' b = some (.tup (SV s)) → hs.length = s.length → s.length ≤ 16 → RightS n g s → (∀ h ∈ hs, 0 ≤ h ∧ h < 32) → SameE p H H' → PotAt H' p → Q (.ref t) H'
theorem ok_let {f : Addr} {fd : FuncData} (F : Fun K "_law_letters" "_law_letters" sLet f fd) (B : Bl mg) (T : Cal P w K mg base CX0 1 "_law_take" ["_law_pot_here", "_law_many"] spTake) : FnOk P w K mg base CX0 2 f fd ["_law_pot_here", "_law_outs", "_law_most"] spLet := by
  refine F.ok scLet (fun vs H Q E h => ?_) (fun cdv A outer s H vs Q E hr h => ?_)
  · obtain ⟨p, O, as, n, g, rfl, _⟩ := h
    rfl
  · obtain ⟨p, O, as, n, g, rfl, hp, hO, offp, n2, n32, q⟩ := h
    have hu : (A.deeper (PyProof.Rows.envOfC "_law_letters" (defScope sLet) s.heap.objs.size f cdv)).units + 1 < cLine := by have := hr.un; omega
    refine' ⟨_, pss_cons (ps_set (i := 3) scLet.nd rfl (Or.inl rfl) (pe_callB call_lenD (by rfl) B.len PySem.boot_len (pa_cons (pv 1) pa_nil)))
      (pss_cons (ps_set (i := 4) scLet.nd rfl (Or.inl rfl) (pe_cal T hr pass0 (pa_cons (pv 0) (pa_cons pe_int pa_nil))))
      (pss_cons (ps_set (i := 5) scLet.nd rfl (Or.inl rfl) (pe_cal T hr pass0 (pa_cons (pv 0) (pa_cons (pv 3) pa_nil))))
      (pss_cons (ps_set (i := 6) scLet.nd rfl (Or.inl rfl) (pe_lst pa_nil))
      (pss_cons (ps_set (i := 7) scLet.nd rfl (Or.inl rfl) (pe_lst pa_nil))
      (pss_cons (ps_for PassesOwn.never rfl (pi_range1 rfl B.range (pa_cons (pe_cal T hr pass0 (pa_cons (pv 0) (pa_cons (pe_op op_add (pv 2) pe_int) pa_nil))) pa_nil)) (pg_name (i := 8) scLet.nd rfl (Or.inl rfl))
        (pss_cons (ps_set (i := 9) scLet.nd rfl (Or.inl rfl) (pe_op op_mod (pe_ixl (pa_cons (pe_op op_add (pv 5) (pe_cal T hr pass0 (pa_cons (pv 0) (pa_cons pe_int pa_nil)))) (pa_cons (pe_cal T hr pass0 (pa_cons (pv 0) (pa_cons (pv 3) pa_nil))) pa_nil)) (pe_callTy call_int1 (by rfl) B.int PyProof.Rows.boot_int (pa_cons (pe_cmpR op_lt (pv 4) pe_int (nomark _)) pa_nil)) (fun _ _ => rfl)) (pv 3)))
        (pss_cons (ps_set (i := 10) scLet.nd rfl (Or.inl rfl) (pe_ixl (pa_cons (pv 5) (pa_cons (pe_cal T hr pass0 (pa_cons (pv 0) (pa_cons (pv 3) pa_nil))) pa_nil)) (pe_callTy call_int1 (by rfl) B.int PyProof.Rows.boot_int (pa_cons (pe_op op_mod (pv 4) pe_int) pa_nil)) (fun _ _ => rfl)))
        (pss_cons (ps_if (pt_cmpR op_eq (pv 10) (pv 9) (nomark _)) (pss_one (ps_set (i := 10) scLet.nd rfl (Or.inl rfl) (pe_op op_mod (pe_op op_add (pe_op op_add (pv 10) pe_int) (pe_cal T hr pass0 (pa_cons (pv 0) (pa_cons (pe_op op_sub (pv 3) pe_int) pa_nil)))) (pv 3)))) pss_nil)
        (pss_cons (ps_if (PW.pt (pw_or (pt_cmpR op_eq (pe_cal T hr pass0 (pa_cons (pv 0) (pa_cons pe_int pa_nil))) pe_int (nomark _)) (pw_or1 (pt_cmpR op_eq (pe_bm PySem.F.plainAttrs_list PySem.F.slot_list_count PySem.F.type_list_count mt_count (pv 7) (pa_cons (pv 9) pa_nil)) (pe_callB call_len_seq (by rfl) B.len PySem.boot_len (pa_cons (pe_dget hu (pv 1) (pv 9) (fun _ _ => rfl)) pa_nil)) (nomark _)))))
          (pss_one (ps_set (i := 9) scLet.nd rfl (Or.inl rfl) pe_non)) pss_nil)
        (pss_cons (ps_expr (pe_bm PySem.F.plainAttrs_list PySem.F.slot_list_append PySem.F.type_list_append mt_append (pv 6) (pa_cons (pv 10) pa_nil)))
        (pss_one (ps_expr (pe_bm PySem.F.plainAttrs_list PySem.F.slot_list_append PySem.F.type_list_append mt_append (pv 7) (pa_cons (pv 9) pa_nil))))))))))
      (pss_one (ps_ret (pe_tup (pa_cons (pe_callTy call_tuple_of (by rfl) B.tup PyProof.Rows.boot_tuple (pa_cons (pv 6) pa_nil)) (pa_cons (pe_callTy call_tuple_of (by rfl) B.tup PyProof.Rows.boot_tuple (pa_cons (pv 7) pa_nil)) pa_nil)))))))))), ?_⟩
    refine ⟨_, rfl, O, _, rfl, hO.dict, ?_⟩
    change gName 3 (V.int (((outsKV as n).length : Nat) : Int)) _ _ _
    rw [outsKV_len]
    refine ⟨_, rfl, p, 4, rfl, by decide, by decide, hp, fun way a b y0 y1 a0 b0 b1 => ?_⟩
    refine ⟨_, rfl, _, rfl, p, n, rfl, by omega, by omega, PotAt.upd a0 b0 b1, fun first a2 b2 z0 z1 c0 c1 c2 => ?_⟩
    rw [upd_upd]
    have po2 : PotAt (upd H p (.lst [.int a2, .int b2])) p := PotAt.upd c0 c1 c2
    have se2 : SameE p H (upd H p (.lst [.int a2, .int b2])) := SameE.upd
    refine ⟨by show 0 ≤ sizeLine; decide, fun Lh hLh => ⟨by show 0 ≤ sizeLine; decide, fun Ls hLs => ?_⟩⟩
    have nhs : Lh ≠ Ls := ne_of_none upd_same hLs
    have hLs1 : (upd H p (.lst [.int a2, .int b2])) Ls = none := (same_new hLh).free hLs
    have hhH : H Lh = none := se2.free po2.some hLh
    have hsH : H Ls = none := se2.free po2.some hLs1
    have nph : Lh ≠ p := by rintro rfl; exact hp.some hhH
    have nps : Ls ≠ p := by rintro rfl; exact hp.some hsH
    have s3 := (same_new (o := .lst []) hLh).trans (same_new (o := .lst []) hLs)
    let J : List Int → List (Option Nat) → Hp → Prop := fun hs st Hc => SameE p H Hc ∧ PotAt Hc p ∧ Hc Lh = some (.lst (HV hs)) ∧ Hc Ls = some (.lst (SV st))
    have stepP : ∀ hs st Hc H', J hs st Hc → SameE p Hc H' → PotAt H' p → J hs st H' := by
      rintro hs st Hc H' ⟨o1, o2, o3, o4⟩ se po
      exact ⟨o1.trans se, po, se _ _ o3 nph, se _ _ o4 nps⟩
    have stepN : ∀ hs st Hc H', J hs st Hc → Same Hc H' → J hs st H' := fun hs st Hc H' i s => stepP hs st Hc H' i (SameE.of s) (i.2.1.same s)
    have outs : ∀ hs st Hc, J hs st Hc → OutsAt Hc O as n g := fun hs st Hc j => hO.sameE j.1 hp offp
    have J0 : J [] [] (upd (upd (upd H p (.lst [.int a2, .int b2])) Lh (.lst [])) Ls (.lst [])) := ⟨se2.trans (SameE.of s3), po2.same s3, by rw [upd_ne nhs]; exact upd_same, upd_same⟩
    refine ⟨_, rfl, _, rfl, _, _, rfl, rfl, p, _, rfl, by decide, by decide, J0.2.1, fun d a3 b3 d0 d1 k0 k1 k2 => ⟨d, rfl, by omega, by omega, for_range (n := d.toNat) (lo := 0) (fun i σ H3 => (∃ v8 v9 v10, σ = [some (.ref p), some (.ref O), some (.int 16), some (.int n), some (.int way), some (.int first), some (.ref Lh), some (.ref Ls), v8, v9, v10]) ∧ ∃ hs st, J hs st H3 ∧ hs.length = i ∧ st.length = i ∧ RightS n g st ∧ ∀ h ∈ hs, 0 ≤ h ∧ h < 32)
      ⟨⟨_, _, _, rfl⟩, [], [], stepP _ _ _ _ J0 SameE.upd (PotAt.upd k0 k1 k2), rfl, rfl, ⟨fun h hh => (nomatch hh), fun h hh => by simp⟩, fun h hh => (nomatch hh)⟩ ?_ ?_⟩⟩
    · rintro i σ H3 hi ⟨⟨v8, v9, v10, rfl⟩, hs, st, J3, lh, ls, R, BH⟩
      have i16 : i < 17 := by
        have : d < 17 := d1
        omega
      refine ⟨_, rfl, _, rfl, p, 3, rfl, by decide, by decide, J3.2.1, fun d4 a4 b4 p4 q4 r4 s4 t4 => ⟨_, _, rfl, rfl, _, rfl, _, rfl, p, n, rfl, by omega, by omega, PotAt.upd r4 s4 t4, fun d5 a5 b5 p5 q5 r5 s5 t5 => ⟨by show 2 ≤ sizeLine; decide, fun L1 hL1 => ?_⟩⟩⟩
      have J5 := stepN _ _ _ _ (stepP _ _ _ _ (stepP _ _ _ _ J3 SameE.upd (PotAt.upd r4 s4 t4)) SameE.upd (PotAt.upd r5 s5 t5)) (same_new (o := .lst [.int (first + d4), .int d5]) hL1)
      refine ⟨_, rfl, _, _, rfl, rfl, .inr ⟨_, rfl, L1, _, _, _, rfl, rfl, SqL.of upd_same, pick2, _, rfl, _, _, rfl, rfl, by omega, ?_⟩⟩
      obtain ⟨x, hx⟩ : ∃ x : Nat, (x : Int) = (if (decide (way < 2)) = true then d5 else first + d4) % (n : Int) := ⟨((if (decide (way < 2)) = true then d5 else first + d4) % (n : Int)).toNat, Int.toNat_of_nonneg (Int.emod_nonneg _ (by omega))⟩
      have xn : x < n := by
        have := Int.emod_lt_of_pos (if (decide (way < 2)) = true then d5 else first + d4) (show (0 : Int) < n by omega)
        omega
      change gName 9 (V.int ((if (decide (way < 2)) = true then d5 else first + d4) % (n : Int))) _ _ _
      rw [← hx]
      revert J5
      generalize upd _ L1 _ = H5
      intro J5
      refine ⟨_, rfl, _, rfl, _, rfl, p, n, rfl, by omega, by omega, J5.2.1, fun d6 a6 b6 p6 q6 r6 s6 t6 => ⟨by show 2 ≤ sizeLine; decide, fun L2 hL2 => ?_⟩⟩
      have J6 := stepN _ _ _ _ (stepP _ _ _ _ J5 SameE.upd (PotAt.upd r6 s6 t6)) (same_new (o := .lst [.int first, .int d6]) hL2)
      refine ⟨_, rfl, _, _, rfl, rfl, by show (0 : Int) < 2; decide, .inl ⟨_, rfl, L2, _, _, _, rfl, rfl, SqL.of upd_same, pickM y0, ?_⟩⟩
      change gName 10 (V.int (if way % 2 = 1 then d6 else first)) _ _ _
      have hb : 0 ≤ (if way % 2 = 1 then d6 else first) ∧ (if way % 2 = 1 then d6 else first) < 32 := by split <;> omega
      revert hb
      generalize (if way % 2 = 1 then d6 else first) = home
      intro hb
      revert J6
      generalize upd _ L2 _ = H6
      intro J6
      refine ⟨_, rfl, _, rfl, rfl, _, rfl, ?_⟩
      refine ite_s (fun σ Hc => ∃ hm, σ = [some (.ref p), some (.ref O), some (.int 16), some (.int n), some (.int way), some (.int first), some (.ref Lh), some (.ref Ls), some (.int (0 + (i : Int))), some (.int x), some (.int hm)] ∧ (0 ≤ hm ∧ hm < 32) ∧ J hs st Hc) ?_ (fun e kc => ?_) (fun e => ⟨_, rfl, hb, J6⟩)
      · rintro σ H7 ⟨hm, rfl, hmb, J7⟩
        refine ⟨_, rfl, p, 9, rfl, by decide, by decide, J7.2.1, fun d8 a8 b8 p8 q8 r8 s8 t8 => ⟨rfl, _, rfl, ?_⟩⟩
        have J8 := stepP _ _ _ _ J7 SameE.upd (PotAt.upd r8 s8 t8)
        have fin : ∀ (y : Option Nat) (H9 : Hp), J hs st H9 → (∀ z, y = some z → z < n ∧ st.count (some z) < (g z).length) → J (hs ++ [hm]) (st ++ [y]) (upd (upd H9 Lh (.lst (HV hs ++ [.int hm]))) Ls (.lst (SV st ++ [stV y]))) := by
          rintro y H9 ⟨o1, o2, o3, o4⟩ _
          refine ⟨sameE_put (sameE_put o1 hhH) hsH, ?_, ?_, ?_⟩
          · obtain ⟨u, v, e, r⟩ := o2
            exact ⟨u, v, by rw [upd_ne nps.symm, upd_ne nph.symm]; exact e, r⟩
          · rw [upd_ne nhs, upd_same]
            unfold HV; rw [List.map_append]; rfl
          · rw [upd_same]
            unfold SV; rw [List.map_append]; rfl
        have end' : ∀ (y : Option Nat) (H9 : Hp), J hs st H9 → (∀ z, y = some z → z < n ∧ st.count (some z) < (g z).length) → ∃ hs' st', J hs' st' (upd (upd H9 Lh (.lst (HV hs ++ [.int hm]))) Ls (.lst (SV st ++ [stV y]))) ∧ hs'.length = i + 1 ∧ st'.length = i + 1 ∧ RightS n g st' ∧ ∀ h ∈ hs', 0 ≤ h ∧ h < 32 :=
          fun y H9 j9 hy => ⟨_, _, fin y H9 j9 hy, by rw [List.length_append, lh]; rfl, by rw [List.length_append, ls]; rfl, R.push hy, fun h hh => by
            rcases List.mem_append.mp hh with z | z
            · exact BH h z
            · rw [List.mem_singleton.mp z]; exact hmb⟩
        have lhz : (HV hs).length < sizeLine := by rw [List.length_map, lh]; exact Nat.lt_of_lt_of_le i16 (by decide)
        have lsz : (SV st).length < sizeLine := by rw [List.length_map, ls]; exact Nat.lt_of_lt_of_le i16 (by decide)
        refine ite2 (fun e => ?_) (fun e => ?_)
        · refine ite_t ?_
          exact ⟨_, rfl, .inl ⟨rfl, _, SqL.of J8.2.2.1⟩, _, rfl, Lh, _, _, rfl, rfl, J8.2.2.1, lhz, _, rfl, .inl ⟨rfl, _, SqL.of (by rw [upd_ne nhs.symm]; exact J8.2.2.2)⟩, _, rfl, Ls, _, _, rfl, rfl, by rw [upd_ne nhs.symm]; exact J8.2.2.2, lsz, ⟨_, _, _, rfl⟩, end' none _ J8 (fun z hz => by cases hz)⟩
        · have hO8 := outs _ _ _ J8
          refine ⟨_, rfl, .inl ⟨rfl, _, SqL.of J8.2.2.2⟩, _, rfl, Ls, _, _, rfl, rfl, J8.2.2.2, rfl, flat_sv, _, rfl, _, rfl, O, _, rfl, hO8.get xn, as.getD x 0, NV (g x), rfl, .inl (SqL.of (hO8.rows.2 x xn)), rfl, _, rfl, ?_⟩
          refine ite2 (fun e2 => ?_) (fun e2 => ?_)
          · exact ⟨_, rfl, .inl ⟨rfl, _, SqL.of J8.2.2.1⟩, _, rfl, Lh, _, _, rfl, rfl, J8.2.2.1, lhz, _, rfl, .inl ⟨rfl, _, SqL.of (by rw [upd_ne nhs.symm]; exact J8.2.2.2)⟩, _, rfl, Ls, _, _, rfl, rfl, by rw [upd_ne nhs.symm]; exact J8.2.2.2, lsz, ⟨_, _, _, rfl⟩, end' none _ J8 (fun z hz => by cases hz)⟩
          · refine ⟨_, rfl, .inl ⟨rfl, _, SqL.of J8.2.2.1⟩, _, rfl, Lh, _, _, rfl, rfl, J8.2.2.1, lhz, _, rfl, .inl ⟨rfl, _, SqL.of (by rw [upd_ne nhs.symm]; exact J8.2.2.2)⟩, _, rfl, Ls, _, _, rfl, rfl, by rw [upd_ne nhs.symm]; exact J8.2.2.2, lsz, ⟨_, _, _, rfl⟩, end' (some x) _ J8 (fun z hz => ?_)⟩
            cases hz
            refine ⟨xn, ?_⟩
            have := R.2 x xn
            refine Nat.lt_of_le_of_ne this fun z => e2 (decide_eq_true ?_)
            rw [count_sv, z, List.length_map]
      · refine ⟨_, rfl, _, _, rfl, rfl, _, rfl, _, rfl, _, _, rfl, rfl, p, _, rfl, by omega, by omega, J6.2.1, fun d7 a7 b7 p7 q7 r7 s7 t7 => ⟨_, _, rfl, rfl, _, rfl, _, _, rfl, rfl, by omega, kc _ _ ⟨_, rfl, ⟨Int.emod_nonneg _ (by omega), Int.lt_of_lt_of_le (Int.emod_lt_of_pos _ (by omega)) (by omega)⟩, stepP _ _ _ _ J6 SameE.upd (PotAt.upd r7 s7 t7)⟩⟩⟩
    · rintro σ H3 ⟨⟨v8, v9, v10, rfl⟩, hs, st, J3, lh, ls, R, BH⟩
      refine ⟨_, rfl, Lh, _, rfl, .inl ⟨SqL.of J3.2.2.1, fun a hA => ?_⟩⟩
      have J4 := stepN _ _ _ _ J3 (same_new (o := .tup (HV hs)) hA)
      refine ⟨_, rfl, Ls, _, rfl, .inl ⟨SqL.of J4.2.2.2, fun b hB => ?_⟩⟩
      have J5 := stepN _ _ _ _ J4 (same_new (o := .tup (SV st)) hB)
      refine ⟨by show 2 ≤ sizeLine; decide, fun t ht => ?_⟩
      have J6 := stepN _ _ _ _ J5 (same_new (o := .tup [.ref a, .ref b]) ht)
      have : d < 17 := d1
      exact q t a b hs st _ upd_same (same_new ht _ _ (same_new hB _ _ upd_same)) (same_new ht _ _ upd_same) (by omega) (by omega) R BH J6.1 J6.2.1
end
end K61

set_option maxHeartbeats 1500000
namespace K61
open PySem L2
abbrev sBeh : Stmt := top 17
/-! ### the stand behind a handing -/
def bh1 (hs : List Int) (i : Nat) : Option Nat → Option Nat
  | none => none
  | some h => if (h : Int) = hs.getD i 0 then none else some h
def bhS (hs : List Int) (gs : List (Option Nat)) (k : Nat) : List (Option Nat) := (List.range k).map fun i => bh1 hs i (gs.getD i none)
def bh (hs : List Int) (gs : List (Option Nat)) : List (Option Nat) := bhS hs gs gs.length
theorem bhS_succ {hs : List Int} {gs : List (Option Nat)} {k : Nat} : bhS hs gs (k + 1) = bhS hs gs k ++ [bh1 hs k (gs.getD k none)] := by unfold bhS; rw [List.range_succ, List.map_append]; rfl
theorem bhS_len {hs : List Int} {gs : List (Option Nat)} {k : Nat} : (bhS hs gs k).length = k := by unfold bhS; rw [List.length_map, List.length_range]
theorem sv_get {s : List (Option Nat)} {i : Nat} {x : V} (h : (SV s)[i]? = some x) : i < s.length ∧ x = stV (s.getD i none) := by
  rw [List.getElem?_map] at h
  cases e : s[i]? with
  | none => rw [e] at h; cases h
  | some a =>
    rw [e] at h
    refine ⟨(List.getElem?_eq_some_iff.mp e).1, ?_⟩
    rw [List.getD_eq_getElem?_getD, e]
    exact (Option.some.inj h).symm
theorem sv_at {s : List (Option Nat)} {i : Nat} (h : i < s.length) : atI (SV s) (i : Int) = some (stV (s.getD i none)) := by
  refine atI_nat ?_
  rw [List.getElem?_map, List.getElem?_eq_getElem h, List.getD_eq_getElem?_getD, List.getElem?_eq_getElem h]
  rfl
theorem hv_at {s : List Int} {i : Nat} (h : i < s.length) : atI (HV s) (i : Int) = some (.int (s.getD i 0)) := by
  refine atI_nat ?_
  rw [List.getElem?_map, List.getElem?_eq_getElem h, List.getD_eq_getElem?_getD, List.getElem?_eq_getElem h]
  rfl
theorem sv_snoc {s : List (Option Nat)} {o : Option Nat} : SV (s ++ [o]) = SV s ++ [stV o] := by unfold SV; rw [List.map_append]; rfl
theorem nbIHH : (["_law_i", "_law_house", "_law_homes"] : List Str).Nodup := by decide +kernel
section
variable {P : Program} {w : World} {K : PySem.W.Frag} {mg : Str → Option Value} {base : Heap}
theorem scBeh : FnScope ["_law_homes", "_law_stand", "_law_gone"] ["_law_homes", "_law_stand", "_law_gone"] (defScope sBeh) := ⟨rfl, rfl, rfl, by decide +kernel, rfl, by decide +kernel, by decide +kernel⟩
def spBeh : Sp := fun vs H Q _ => ∃ (a c : Addr) (y : V) (hs : List Int) (gs : List (Option Nat)), vs = [.ref a, y, .ref c] ∧ H a = some (.tup (HV hs)) ∧ H c = some (.tup (SV gs)) ∧ gs.length = hs.length ∧ gs.length ≤ 16 ∧
  ∀ (r : Addr) (H' : Hp), Same H H' → H' r = some (.tup (SV (bh hs gs))) → Q (.ref r) H'
theorem ok_beh {f : Addr} {fd : FuncData} (F : Fun K "_law_behind" "_law_behind" sBeh f fd) (B : Bl mg) : FnOk P w K mg base CX0 1 f fd ["_law_homes", "_law_stand", "_law_gone"] spBeh := by
  refine F.ok scBeh (fun vs H Q E h => ?_) (fun cdv A outer s H vs Q E hr h => ?_)
  · obtain ⟨a, c, y, hs, gs, rfl, _⟩ := h
    rfl
  · obtain ⟨a, c, y, hs, gs, rfl, ha, hc, hl, l16, q⟩ := h
    refine' ⟨_, pss_one (ps_ret (pe_callTy call_tuple_of (by rfl) B.tup PyProof.Rows.boot_tuple (pa_cons ?c pa_nil))), ?_⟩
    case c =>
      refine' pe_comp (g := gTup K 2 (gCons (gName 0) (gCons (gName 1) gNil))) (te := tIf (tOr (tB (tIsN (tVar 1))) (tTest (tOp rEq (tVar 1) (tOp (rIxT K) (tVar 2) (tVar 0))))) (tC .non) (tVar 1)) (NB := ["_law_i", "_law_house", "_law_homes"]) (src := [none, none, some 0]) (blk_of (by kernel_rfl)) rfl
        (pi_enumT rfl B.enum (pa_cons (pv 2) pa_nil)) ?g ?t ?e
      case g => exact fun cl C s₃ H₃ fp => pg_tup (n := 2) rfl (pgs_cons (pg_name (i := 0) nbIHH rfl (Or.inl rfl) (Or.inr rfl)) (pgs_cons (pg_name (i := 1) nbIHH rfl (Or.inl rfl) (Or.inr rfl)) pgs_nil))
      case t => exact fun cl C s₃ H₃ fp => pts_nil
      case e => exact fun cl C s₃ H₃ fp => pe_ifExp (PW.pt (pw_or (pt_cmp (pc_isN (pv 1))) (pw_or1 (pt_cmpR op_eq (pv 1) (pe_ix ix_tup (pv 2) (pv 0) (fun _ _ => rfl)) (nomark _))))) pe_non (pv 1)
    refine ⟨_, rfl, c, _, rfl, SqT.of hc, fun D hD => ?_⟩
    have fin : ∀ i ys H3 t o, ys = SV (bhS hs gs i) → Same H H3 → H3 D = some (.lst ys) → H3 t = none → i < gs.length → bh1 hs i (gs.getD i none) = o →
        (upd H3 t (.tup [.int (i : Int), stV (gs.getD i none)])) D = some (.lst ys) ∧ ys.length < sizeLine ∧ ys ++ [stV o] = SV (bhS hs gs (i + 1)) ∧ Same H (upd (upd H3 t (.tup [.int (i : Int), stV (gs.getD i none)])) D (.lst (ys ++ [stV o]))) ∧ (upd (upd H3 t (.tup [.int (i : Int), stV (gs.getD i none)])) D (.lst (ys ++ [stV o]))) D = some (.lst (ys ++ [stV o])) := by
      rintro i ys H3 t o rfl sm hD3 ht hi rfl
      refine ⟨same_new ht _ _ hD3, ?_, ?_, fun b u e => ?_, upd_same⟩
      · rw [List.length_map, bhS_len]; exact Nat.lt_of_lt_of_le (show i < 17 by omega) (by decide)
      · rw [bhS_succ, sv_snoc]
      · rw [upd_ne (ne_of_none e hD)]
        exact same_new ht _ _ (sm _ _ e)
    refine comp_enumT (K := K) (a := c) (xs := SV gs) (fun i ys σ H3 => (∃ u v, σ = [u, v, some (.ref a)]) ∧ ys = SV (bhS hs gs i) ∧ Same H H3 ∧ H3 D = some (.lst ys)) ⟨⟨_, _, rfl⟩, rfl, same_new hD, upd_same⟩ (fun i ys σ H3 _ z => SqT.of (z.2.2.1 _ _ hc)) ?_ ?_
    · rintro i x t ys σ H3 Kt Kf hx ⟨⟨u, v, rfl⟩, hys, sm, hD3⟩ ht kt kf
      obtain ⟨hi, rfl⟩ := sv_get hx
      refine ⟨_, _, rfl, SqT.of upd_same, rfl, _, _, rfl, _, _, rfl, rfl, ?_⟩
      refine ⟨_, rfl, _, rfl, ?_⟩
      cases ho : gs.getD i none with
      | none =>
        obtain ⟨f1, f2, f3, f4, f5⟩ := fin i ys H3 t none hys sm hD3 ht hi (by rw [ho]; rfl)
        rw [ho] at f1 f4 f5
        refine ite2 (fun e => ?_) (fun e => absurd (decide_eq_true rfl) e)
        exact ite_t (kt _ _ _ f1 f2 ⟨⟨_, _, rfl⟩, f3, f4, f5⟩)
      | some h =>
        refine ite2 (fun e => absurd (of_decide_eq_true e) (by intro z; cases z)) (fun e => ?_)
        refine ⟨_, rfl, _, rfl, _, rfl, a, _, _, _, rfl, rfl, SqT.of (same_new ht _ _ (sm _ _ ha)), hv_at (by omega), rfl, _, rfl, ?_⟩
        refine ite2 (fun e2 => ?_) (fun e2 => ?_)
        · have e3 : (h : Int) = hs.getD i 0 := V.int.inj (of_decide_eq_true e2)
          obtain ⟨f1, f2, f3, f4, f5⟩ := fin i ys H3 t none hys sm hD3 ht hi (by rw [ho]; exact if_pos e3)
          rw [ho] at f1 f4 f5
          exact kt _ _ _ f1 f2 ⟨⟨_, _, rfl⟩, f3, f4, f5⟩
        · have e3 : ¬ (h : Int) = hs.getD i 0 := fun z => e2 (decide_eq_true (by show V.int (h : Int) = V.int (hs.getD i 0); rw [z]))
          obtain ⟨f1, f2, f3, f4, f5⟩ := fin i ys H3 t (some h) hys sm hD3 ht hi (by rw [ho]; exact if_neg e3)
          rw [ho] at f1 f4 f5
          exact ⟨_, rfl, kt _ _ _ f1 f2 ⟨⟨_, _, rfl⟩, f3, f4, f5⟩⟩
    · rintro ys σ H3 ⟨_, rfl, sm, hD3⟩
      rw [show (SV gs).length = gs.length from List.length_map _] at hD3
      exact ⟨D, _, rfl, .inl ⟨SqL.of hD3, fun r hr => q r _ (sm.trans (same_new hr)) upd_same⟩⟩
end
/-! ### right handings -/
theorem nd_le : ∀ {l m : List Nat}, l.Nodup → (∀ x ∈ l, x ∈ m) → l.length ≤ m.length
  | [], m, _, _ => Nat.zero_le _
  | a :: l, m, nd, sub => by
    have ha : a ∈ m := sub a List.mem_cons_self
    have ih := nd_le (l := l) (m := m.erase a) (List.nodup_cons.mp nd).2 fun x hx => (List.mem_erase_of_ne (show x ≠ a from fun z => (List.nodup_cons.mp nd).1 (by rw [← z]; exact hx))).mpr (sub x (List.mem_cons_of_mem _ hx))
    rw [List.length_erase_of_mem ha] at ih
    have := List.length_pos_of_mem ha
    rw [List.length_cons]
    omega
theorem count_ix {s : List (Option Nat)} {a : Option Nat} : s.count a = ((List.range s.length).filter fun i => s.getD i none == a).length := by
  have e : (List.range s.length).map (fun i => s.getD i none) = s := by
    apply List.ext_getElem?
    intro i
    rw [List.getElem?_map]
    by_cases hi : i < s.length
    · rw [List.getElem?_range hi, List.getElem?_eq_getElem hi]
      show some (s.getD i none) = _
      rw [List.getD_eq_getElem?_getD, List.getElem?_eq_getElem hi]; rfl
    · rw [List.getElem?_eq_none (by rw [List.length_range]; omega), List.getElem?_eq_none (by omega)]; rfl
  conv => lhs; rw [← e]
  rw [List.count_eq_countP, List.countP_map, List.countP_eq_length_filter]
  rfl
structure Handing (g : Nat → List Nat) (s gs : List (Option Nat)) : Prop where
  len : gs.length = s.length
  non : ∀ i, s.getD i none = none → gs.getD i none = none
  tie : ∀ i h, s.getD i none = some h → ∃ o, gs.getD i none = some o ∧ o ∈ g h
  uni : ∀ i j h o, s.getD i none = some h → s.getD j none = some h → gs.getD i none = some o → gs.getD j none = some o → i = j
theorem getD_mem_o {s : List (Option Nat)} {i h : Nat} (e : s.getD i none = some h) : i < s.length ∧ some h ∈ s := by
  rw [List.getD_eq_getElem?_getD] at e
  cases z : s[i]? with
  | none => rw [z] at e; cases e
  | some a =>
    rw [z] at e
    have e' : a = some h := e
    exact ⟨(List.getElem?_eq_some_iff.mp z).1, e' ▸ List.mem_of_getElem? z⟩
theorem mem_getD_o {s : List (Option Nat)} {h : Nat} (e : some h ∈ s) : ∃ i, i < s.length ∧ s.getD i none = some h := by
  obtain ⟨i, hi⟩ := List.getElem?_of_mem e
  exact ⟨i, (List.getElem?_eq_some_iff.mp hi).1, by rw [List.getD_eq_getElem?_getD, hi]; rfl⟩
/-- what stands behind a handing is right -/
theorem Handing.right {n : Nat} {g : Nat → List Nat} {s gs t : List (Option Nat)} (Hd : Handing g s gs) (G : Good n g) (R : RightS n g s) (hl : t.length = gs.length) (ht : ∀ i, t.getD i none = none ∨ t.getD i none = gs.getD i none) : RightS n g t := by
  have key : ∀ i x, t.getD i none = some x → ∃ h, s.getD i none = some h ∧ h < n ∧ x ∈ g h ∧ gs.getD i none = some x := by
    intro i x e
    have e2 : gs.getD i none = some x := by
      rcases ht i with z | z
      · rw [z] at e; cases e
      · rw [← z]; exact e
    cases es : s.getD i none with
    | none => rw [Hd.non i es] at e2; cases e2
    | some h =>
      obtain ⟨o, o1, o2⟩ := Hd.tie i h es
      rw [e2] at o1
      cases o1
      exact ⟨h, rfl, R.1 h (getD_mem_o es).2, o2, e2⟩
  refine ⟨fun x hx => ?_, fun x hx => ?_⟩
  · obtain ⟨i, _, e⟩ := mem_getD_o hx
    obtain ⟨h, _, hn, ho, _⟩ := key i x e
    exact (G.lt h hn x ho).1
  · rw [count_ix, G.bal x hx]
    unfold inn
    rw [List.countP_eq_length_filter, ← List.length_map (f := fun i => (s.getD i none).getD 0)]
    refine nd_le ?_ fun y hy => ?_
    · refine List.pairwise_map.mpr ?_
      refine List.Pairwise.imp_of_mem ?_ (List.Pairwise.filter _ (List.nodup_range (n := t.length)))
      intro i j hi hj hij e
      have ei := eq_of_beq (List.mem_filter.mp hi).2
      have ej := eq_of_beq (List.mem_filter.mp hj).2
      obtain ⟨h1, a1, _, _, b1⟩ := key i x ei
      obtain ⟨h2, a2, _, _, b2⟩ := key j x ej
      have e' : (s.getD i none).getD 0 = (s.getD j none).getD 0 := e
      rw [a1, a2] at e'
      have e'' : h1 = h2 := e'
      subst e''
      exact hij (Hd.uni i j h1 x a1 a2 b1 b2)
    · obtain ⟨i, hi, rfl⟩ := List.mem_map.mp hy
      obtain ⟨h, a, hn, ho, _⟩ := key i x (eq_of_beq (List.mem_filter.mp hi).2)
      refine List.mem_filter.mpr ⟨?_, ?_⟩
      · rw [a]; exact List.mem_range.mpr hn
      · rw [a]; exact decide_eq_true ho
theorem bh_at {hs : List Int} {gs : List (Option Nat)} (i : Nat) : (bh hs gs).getD i none = none ∨ (bh hs gs).getD i none = gs.getD i none := by
  by_cases hi : i < gs.length
  · have e : (bh hs gs).getD i none = bh1 hs i (gs.getD i none) := by
      unfold bh bhS
      rw [List.getD_eq_getElem?_getD, List.getElem?_map, List.getElem?_range hi]; rfl
    rw [e]
    cases gs.getD i none with
    | none => exact .inl rfl
    | some h =>
      unfold bh1
      dsimp only
      by_cases z : (h : Int) = hs.getD i 0
      · rw [if_pos z]; exact .inl rfl
      · rw [if_neg z]; exact .inr rfl
  · left
    rw [List.getD_eq_getElem?_getD, List.getElem?_eq_none (by unfold bh; rw [bhS_len]; omega)]; rfl
theorem bh_len {hs : List Int} {gs : List (Option Nat)} : (bh hs gs).length = gs.length := bhS_len
end K61

set_option maxHeartbeats 1500000
namespace K61
open PySem L2
abbrev sAny : Stmt := top 18
/-! ### taken ties -/
def pKey (p : Nat × Nat) : List Key := [.inl (p.1 : Int), .inl (p.2 : Int)]
def pKV (ps : List (Nat × Nat)) : List (List Key × V) := ps.map fun p => (pKey p, V.bl true)
theorem pKey_inj {p q : Nat × Nat} (h : pKey p = pKey q) : p = q := by
  obtain ⟨a, b⟩ := p
  obtain ⟨c, d⟩ := q
  unfold pKey at h
  have h1 := (List.cons.inj h).1
  have h2 := (List.cons.inj (List.cons.inj h).2).1
  have e1 := Sum.inl.inj h1
  have e2 := Sum.inl.inj h2
  dsimp only at e1 e2
  congr 1 <;> omega
theorem pKV_val {p : Nat × Nat} : ∀ {ps : List (Nat × Nat)}, (valV (pKV ps) (pKey p)).isSome = decide (p ∈ ps)
  | [] => by simp [pKV, valV]
  | q :: ps => by
    have ih := pKV_val (p := p) (ps := ps)
    unfold pKV valV at ih ⊢
    rw [List.map_cons, List.find?_cons]
    by_cases e : q = p
    · subst e
      simp
    · have : (decide (pKey q = pKey p)) = false := decide_eq_false fun z => e (pKey_inj z)
      simp only [this]
      rw [ih]
      have e' : ¬ p = q := fun z => e z.symm
      simp [e']
theorem pKV_none {p : Nat × Nat} {ps : List (Nat × Nat)} (h : p ∉ ps) : valV (pKV ps) (pKey p) = none := by
  have := pKV_val (p := p) (ps := ps)
  rw [decide_eq_false h] at this
  cases e : valV (pKV ps) (pKey p) with
  | none => rfl
  | some v => rw [e] at this; cases this
theorem pKV_snoc {p : Nat × Nat} {ps : List (Nat × Nat)} : pKV (ps ++ [p]) = pKV ps ++ [(pKey p, V.bl true)] := by unfold pKV; rw [List.map_append]; rfl
theorem rep_none {m : Nat} : (List.replicate m [V.non]).flatten = SV (List.replicate m none) := by
  induction m with
  | zero => rfl
  | succ m ih =>
    rw [List.replicate_succ, List.flatten_cons, ih, List.replicate_succ]
    rfl
/-- the letters under way -/
def unw (s : List (Option Nat)) (k : Nat) : List Nat := (List.range k).filter fun i => (s.getD i none).isSome
theorem unw_succ {s : List (Option Nat)} {k : Nat} : unw s (k + 1) = unw s k ++ (if (s.getD k none).isSome = true then [k] else []) := by
  unfold unw
  rw [List.range_succ, List.filter_append]
  congr 1
  by_cases e : (s.getD k none).isSome = true
  · rw [if_pos e, List.filter_cons_of_pos (p := fun i => (s.getD i none).isSome) e, List.filter_nil]
  · rw [if_neg e, List.filter_cons_of_neg (p := fun i => (s.getD i none).isSome) e, List.filter_nil]
theorem unw_len {s : List (Option Nat)} {k : Nat} : (unw s k).length ≤ k := by
  unfold unw
  refine Nat.le_trans (List.length_filter_le _ _) ?_
  rw [List.length_range]; exact Nat.le_refl _
/-- ties taken by the letters pre -/
def prt (s gl : List (Option Nat)) (pre : List Nat) : List (Nat × Nat) := pre.map fun i => ((s.getD i none).getD 0, (gl.getD i none).getD 0)
structure Mid (g : Nat → List Nat) (s gl : List (Option Nat)) (pre : List Nat) : Prop where
  len : gl.length = s.length
  out : ∀ i, i ∉ pre → gl.getD i none = none
  inn : ∀ i ∈ pre, ∃ h o, s.getD i none = some h ∧ gl.getD i none = some o ∧ o ∈ g h
  nd : (prt s gl pre).Nodup
theorem free_some {n : Nat} {g : Nat → List Nat} {s gl : List (Option Nat)} {pre : List Nat} {i h : Nat} (M : Mid g s gl pre) (np : (pre ++ [i]).Nodup) (R : RightS n g s) (G : Good n g) (hs : s.getD i none = some h) : 0 < ((g h).filter fun o => decide ((h, o) ∉ prt s gl pre)).length := by
  refine Nat.pos_of_ne_zero fun z => ?_
  have hn : h < n := R.1 h (getD_mem_o hs).2
  have all : ∀ o ∈ g h, (h, o) ∈ prt s gl pre := by
    intro o ho
    by_cases e : (h, o) ∈ prt s gl pre
    · exact e
    · have : o ∈ (g h).filter fun o => decide ((h, o) ∉ prt s gl pre) := List.mem_filter.mpr ⟨ho, decide_eq_true e⟩
      rw [List.eq_nil_of_length_eq_zero z] at this
      cases this
  have h1 : (g h).length ≤ ((prt s gl pre).filter fun p => p.1 == h).length := by
    rw [← List.length_map (f := fun p : Nat × Nat => p.2)]
    refine nd_le (G.nd h hn) fun o ho => List.mem_map.mpr ⟨(h, o), List.mem_filter.mpr ⟨all o ho, by simp⟩, rfl⟩
  have h2 : ((prt s gl pre).filter fun p => p.1 == h).length = (pre.filter fun i => (s.getD i none).getD 0 == h).length := by
    unfold prt
    rw [List.filter_map, List.length_map]
    rfl
  have h3 : (i :: pre.filter fun i => (s.getD i none).getD 0 == h).length ≤ s.count (some h) := by
    rw [count_ix]
    obtain ⟨n1, n2, n3⟩ := List.nodup_append.mp np
    refine nd_le (List.nodup_cons.mpr ⟨fun z => n3 i (List.mem_filter.mp z).1 i (List.mem_singleton.mpr rfl) rfl, List.Pairwise.filter _ n1⟩) fun x hx => ?_
    rcases List.mem_cons.mp hx with rfl | hx
    · exact List.mem_filter.mpr ⟨List.mem_range.mpr (getD_mem_o hs).1, by rw [hs]; simp⟩
    · obtain ⟨p1, p2⟩ := List.mem_filter.mp hx
      obtain ⟨h', o, a, _, _⟩ := M.inn x p1
      rw [a] at p2
      have p3 : h' = h := eq_of_beq p2
      subst p3
      exact List.mem_filter.mpr ⟨List.mem_range.mpr (getD_mem_o a).1, by rw [a]; simp⟩
  rw [List.length_cons] at h3
  have := R.2 h hn
  omega
theorem getD_set_o {gl : List (Option Nat)} {i j : Nat} {x : Option Nat} (h : i < gl.length) : (gl.set i x).getD j none = if j = i then x else gl.getD j none := by
  rw [List.getD_eq_getElem?_getD, List.getD_eq_getElem?_getD, List.getElem?_set]
  by_cases e : i = j
  · subst e
    rw [if_pos rfl, if_pos h, if_pos rfl]; rfl
  · rw [if_neg e, if_neg (fun z => e z.symm)]
theorem prt_set {s gl : List (Option Nat)} {pre : List Nat} {i : Nat} {x : Option Nat} (h : i < gl.length) (hp : i ∉ pre) : prt s (gl.set i x) pre = prt s gl pre := by
  unfold prt
  refine List.map_congr_left fun j hj => ?_
  have hji : j ≠ i := by rintro rfl; exact hp hj
  rw [getD_set_o h, if_neg hji]
theorem Mid.step {g : Nat → List Nat} {s gl : List (Option Nat)} {pre : List Nat} {i h o : Nat} (M : Mid g s gl pre) (hp : i ∉ pre) (hs : s.getD i none = some h) (ho : o ∈ g h) (hf : (h, o) ∉ prt s gl pre) : Mid g s (gl.set i (some o)) (pre ++ [i]) ∧ prt s (gl.set i (some o)) (pre ++ [i]) = prt s gl pre ++ [(h, o)] := by
  have hi : i < gl.length := by rw [M.len]; exact (getD_mem_o hs).1
  have e : prt s (gl.set i (some o)) (pre ++ [i]) = prt s gl pre ++ [(h, o)] := by
    have : prt s (gl.set i (some o)) (pre ++ [i]) = prt s (gl.set i (some o)) pre ++ prt s (gl.set i (some o)) [i] := by unfold prt; rw [List.map_append]
    rw [this, prt_set hi hp]
    congr 1
    unfold prt
    rw [List.map_cons, List.map_nil, getD_set_o hi, if_pos rfl, hs]
    rfl
  refine ⟨⟨by rw [List.length_set]; exact M.len, fun j hj => ?_, fun j hj => ?_, ?_⟩, e⟩
  · rw [getD_set_o hi, if_neg (fun z => hj (List.mem_append.mpr (.inr (List.mem_singleton.mpr z))))]
    exact M.out j (fun z => hj (List.mem_append.mpr (.inl z)))
  · rw [getD_set_o hi]
    rcases List.mem_append.mp hj with z | z
    · have hji : j ≠ i := by rintro rfl; exact hp z
      rw [if_neg hji]; exact M.inn j z
    · rw [if_pos (List.mem_singleton.mp z), List.mem_singleton.mp z]
      exact ⟨h, o, hs, rfl, ho⟩
  · rw [e]
    exact List.nodup_append.mpr ⟨M.nd, List.nodup_cons.mpr ⟨(fun z => nomatch z), List.nodup_nil⟩, fun u hu v hv z => hf (by rw [List.mem_singleton] at hv; rw [← hv, ← z]; exact hu)⟩
theorem Mid.done {g : Nat → List Nat} {s gl : List (Option Nat)} {pre : List Nat} (M : Mid g s gl pre) (hp : pre.Perm (unw s s.length)) : Handing g s gl := by
  have mem : ∀ i h, s.getD i none = some h → i ∈ pre := fun i h e => hp.mem_iff.mpr (List.mem_filter.mpr ⟨List.mem_range.mpr (getD_mem_o e).1, by rw [e]; rfl⟩)
  refine ⟨M.len, fun i e => ?_, fun i h e => ?_, fun i j h o a b c d => ?_⟩
  · refine M.out i fun z => ?_
    obtain ⟨h, _, y, _⟩ := M.inn i z
    rw [e] at y; cases y
  · obtain ⟨h', o, a, b, c⟩ := M.inn i (mem i h e)
    rw [e] at a
    cases a
    exact ⟨o, b, c⟩
  · have n1 := M.nd
    unfold prt at n1
    by_cases z : i = j
    · exact z
    · have hn := List.pairwise_map.mp n1
      have hi := mem i h a
      have hj := mem j h b
      obtain ⟨x, hx, ex⟩ := List.mem_iff_getElem.mp hi
      obtain ⟨y, hy, ey⟩ := List.mem_iff_getElem.mp hj
      have hq := List.pairwise_iff_getElem.mp hn
      rcases Nat.lt_trichotomy x y with l | l | l
      · refine absurd ?_ (hq x y hx hy l)
        rw [ex, ey, a, b, c, d]
      · subst l; rw [ex] at ey; exact ey
      · refine absurd ?_ (hq y x hy hx l)
        rw [ex, ey, a, b, c, d]
theorem Mid.nil {g : Nat → List Nat} {s : List (Option Nat)} : Mid g s (List.replicate s.length none) [] := by
  refine ⟨List.length_replicate, fun i _ => ?_, fun i hi => (nomatch hi), List.nodup_nil⟩
  rw [List.getD_eq_getElem?_getD, List.getElem?_replicate]
  split <;> rfl
end K61

set_option maxHeartbeats 1500000
namespace K61
open PySem L2
theorem nbIH : (["_law_i", "_law_house"] : List Str).Nodup := by decide +kernel
theorem nbHSIT : (["_law_house", "_law_stand", "_law_i", "_law_taken"] : List Str).Nodup := by decide +kernel
section
variable {P : Program} {w : World} {K : PySem.W.Frag} {mg : Str → Option Value} {base : Heap}
theorem scAny : FnScope ["_law_pot_here", "_law_outs", "_law_stand", "_law_gone", "_law_taken", "_law_i", "_law_free"] ["_law_pot_here", "_law_outs", "_law_stand"] (defScope sAny) := ⟨rfl, rfl, rfl, by decide +kernel, rfl, by decide +kernel, by decide +kernel⟩
def spAny : Sp := fun vs H Q _ => ∃ (p O S : Addr) (as : List Addr) (n : Nat) (g : Nat → List Nat) (s : List (Option Nat)), vs = [.ref p, .ref O, .ref S] ∧ PotAt H p ∧ OutsAt H O as n g ∧ Off as n p ∧ Good n g ∧ n ≤ 32 ∧ H S = some (.tup (SV s)) ∧ s.length ≤ 16 ∧ RightS n g s ∧
  ∀ (r : Addr) (gs : List (Option Nat)) (H' : Hp), H' r = some (.tup (SV gs)) → Handing g s gs → SameE p H H' → PotAt H' p → Q (.ref r) H'
theorem ok_any {f : Addr} {fd : FuncData} (F : Fun K "_law_any_handing" "_law_any_handing" sAny f fd) (B : Bl mg) (T : Cal P w K mg base CX0 1 "_law_take" ["_law_pot_here", "_law_many"] spTake) (SH : Cal P w K mg base CX0 2 "_law_shuffled" ["_law_pot_here", "_law_some"] (spShuf K)) : FnOk P w K mg base CX0 3 f fd ["_law_pot_here", "_law_outs", "_law_stand"] spAny := by
  refine F.ok scAny (fun vs H Q E h => ?_) (fun cdv A outer s0 H vs Q E hr h => ?_)
  · obtain ⟨p, O, S, as, n, g, s, rfl, _⟩ := h
    rfl
  · obtain ⟨p, O, S, as, n, g, s, rfl, hp, hO, offp, G, n32, hS, l16, R, q⟩ := h
    have hu : (A.deeper (PyProof.Rows.envOfC "_law_any_handing" (defScope sAny) s0.heap.objs.size f cdv)).units + 1 < cLine := by have := hr.un; omega
    have hr1 : Room 1 (A.deeper (PyProof.Rows.envOfC "_law_any_handing" (defScope sAny) s0.heap.objs.size f cdv)) := hr.mono (by decide)
    refine' ⟨_, pss_cons (ps_set (i := 3) scAny.nd rfl (Or.inl rfl) (pe_op op_rep (pe_lst (pa_cons pe_non pa_nil)) (pe_callB call_len_seq (by rfl) B.len PySem.boot_len (pa_cons (pv 2) pa_nil))))
      (pss_cons (ps_set (i := 4) scAny.nd rfl (Or.inr rfl) pe_dnewT)
      (pss_cons (ps_for PassesOwn.never rfl (pi_list (pe_cal SH hr pass0 (pa_cons (pv 0) (pa_cons ?c1 pa_nil)))) (pg_name (i := 5) scAny.nd rfl (Or.inr rfl))
        (pss_cons (ps_setComp (i := 6) (g := gName 0) (tt := tB (tDNotIn (tTup (tCons (tOp (rIxT K) (tVar 1) (tVar 2)) (tCons (tVar 0) tNil))) (tVar 3))) (te := tVar 0) (NB := ["_law_house", "_law_stand", "_law_i", "_law_taken"]) (src := [none, some 2, some 5, some 4]) (blk_of (by kernel_rfl)) rfl (pi_list (pe_dget hu (pv 1) (pe_ix ix_tup (pv 2) (pv 5) (fun _ _ => rfl)) (fun _ _ => rfl))) ?g2 ?t2 ?e2 scAny.nd rfl rfl rfl)
        (pss_cons (ps_asg (pe_ix ix_list (pv 6) (pe_cal T hr1 pass0 (pa_cons (pv 0) (pa_cons (pe_callB call_len_seq (by rfl) B.len PySem.boot_len (pa_cons (pv 6) pa_nil)) pa_nil))) (fun _ _ => rfl)) (pg_sub (pv 3) (pv 5) set_list))
        (pss_one (ps_dput hu (pv 4) (pe_tup (pa_cons (pe_ix ix_tup (pv 2) (pv 5) (fun _ _ => rfl)) (pa_cons (pe_ix ix_list (pv 3) (pv 5) (fun _ _ => rfl)) pa_nil))) pe_bl rfl)))))
      (pss_one (ps_ret (pe_callTy call_tuple_of (by rfl) B.tup PyProof.Rows.boot_tuple (pa_cons (pv 3) pa_nil)))))), ?_⟩
    case c1 =>
      refine' pe_comp (g := gTup K 2 (gCons (gName 0) (gCons (gName 1) gNil))) (tt := tB (tNotN (tVar 1))) (te := tVar 0) (NB := ["_law_i", "_law_house"]) (src := [none, none]) (blk_of (by kernel_rfl)) rfl
        (pi_enumT rfl B.enum (pa_cons (pv 2) pa_nil)) ?g ?t ?e
      case g => exact fun cl C s₃ H₃ fp => pg_tup (n := 2) rfl (pgs_cons (pg_name (i := 0) nbIH rfl (Or.inl rfl) (Or.inr rfl)) (pgs_cons (pg_name (i := 1) nbIH rfl (Or.inl rfl) (Or.inr rfl)) pgs_nil))
      case t => exact fun cl C s₃ H₃ fp => pts_one (pt_cmp (pc_notN (pv 1)))
      case e => exact fun cl C s₃ H₃ fp => pv 0
    case g2 => exact fun cl C s₃ H₃ fp => pg_name (i := 0) nbHSIT rfl (Or.inl rfl) (Or.inr rfl)
    case t2 => exact fun cl C s₃ H₃ fp => pts_one (pt_cmp (pc_dnotin hu (pe_tup (pa_cons (pe_ix ix_tup (pv 1) (pv 2) (fun _ _ => rfl)) (pa_cons (pv 0) pa_nil))) (pv 3)))
    case e2 => exact fun cl C s₃ H₃ fp => pv 0
    refine ⟨by show 1 ≤ sizeLine; decide, fun L hL => ⟨_, rfl, S, _, rfl, .inr (SqT.of (same_new hL _ _ hS)), L, _, _, rfl, rfl, upd_same, by omega, ?_, ?_, fun Gn hG => ?_⟩⟩
    · rw [List.length_map]; omega
    · rw [Int.toNat_natCast, List.length_map]
      exact Nat.le_trans (show 1 * s.length ≤ 16 by omega) (by decide)
    have eL : (List.replicate ((((SV s).length : Nat) : Int)).toNat [V.non]).flatten = SV (List.replicate s.length none) := by rw [Int.toNat_natCast, List.length_map]; exact rep_none
    rw [eL]
    have sm1 : Same H (upd (upd H L (.lst [.non])) Gn (.lst (SV (List.replicate s.length none)))) := (same_new hL).trans (same_new hG)
    have hGH : H Gn = none := (same_new hL).free hG
    have hGn1 : (upd (upd H L (.lst [.non])) Gn (.lst (SV (List.replicate s.length none)))) Gn = some (.lst (SV (List.replicate s.length none))) := upd_same
    revert sm1 hGn1
    generalize upd (upd H L (.lst [.non])) Gn (.lst (SV (List.replicate s.length none))) = H1
    intro sm1 hGn1 Tk hTk
    have hTH : H Tk = none := sm1.free hTk
    have nGT : Gn ≠ Tk := ne_of_none hGn1 hTk
    have sm2 : Same H (upd H1 Tk (.dT [])) := sm1.trans (same_new hTk)
    have hGn2 : (upd H1 Tk (.dT [])) Gn = some (.lst (SV (List.replicate s.length none))) := same_new hTk _ _ hGn1
    have hTk2 : (upd H1 Tk (.dT [])) Tk = some (.dT []) := upd_same
    revert sm2 hGn2 hTk2
    generalize upd H1 Tk (.dT []) = H2
    intro sm2 hGn2 hTk2
    refine ⟨_, rfl, _, rfl, S, _, rfl, SqT.of (sm2 _ _ hS), fun D hD => ?_⟩
    refine comp_enumT (K := K) (a := S) (xs := SV s) (fun i ys σ H3 => (∃ u v, σ = [u, v]) ∧ ys = NV (unw s i) ∧ Same H2 H3 ∧ H3 D = some (.lst ys)) ⟨⟨_, _, rfl⟩, rfl, same_new hD, upd_same⟩ (fun i ys σ H3 _ z => SqT.of (z.2.2.1 _ _ (sm2 _ _ hS))) ?_ ?_
    · rintro i x t ys σ H3 Kt Kf hx ⟨⟨u, v, rfl⟩, rfl, sm, hD3⟩ ht kt kf
      obtain ⟨hi, rfl⟩ := sv_get hx
      refine ⟨_, _, rfl, SqT.of upd_same, rfl, _, _, rfl, _, _, rfl, rfl, ?_⟩
      refine ⟨_, rfl, _, rfl, ?_⟩
      refine ite2 (fun e => ?_) (fun e => ?_)
      · have e' : (s.getD i none).isSome = true := by
          cases ho : s.getD i none with
          | none => rw [ho] at e; simp [stV] at e
          | some h => rfl
        refine ⟨_, rfl, kt _ _ _ (same_new ht _ _ hD3) ?_ ⟨⟨_, _, rfl⟩, ?_, fun b u e => ?_, upd_same⟩⟩
        · rw [List.length_map]; exact Nat.lt_of_le_of_lt unw_len (Nat.lt_of_lt_of_le (show i < 17 by omega) (by decide))
        · rw [unw_succ, if_pos e']
          unfold NV; rw [List.map_append]; rfl
        · rw [upd_ne (ne_of_none e hD)]
          exact same_new ht _ _ (sm _ _ e)
      · have e' : ¬ (s.getD i none).isSome = true := by
          cases ho : s.getD i none with
          | none => intro z; cases z
          | some h => rw [ho] at e; simp [stV] at e
        exact kf _ _ ⟨⟨_, _, rfl⟩, by rw [unw_succ, if_neg e', List.append_nil], sm.trans (same_new ht), same_new ht _ _ hD3⟩
    · rintro ys σ H3 ⟨_, rfl, sm3, hD3⟩
      rw [show (SV s).length = s.length from List.length_map _] at hD3
      have po3 : PotAt H3 p := (hp.same sm2).same sm3
      have nDp : D ≠ p := by rintro rfl; exact (hp.same sm2).some hD
      refine ⟨p, D, _, rfl, po3, hD3, nDp, ?_, fun r ys H4 pm se4 po4 hr4 hy4 => ?_⟩
      · rw [List.length_map]; exact Nat.lt_of_le_of_lt unw_len (by omega)
      obtain ⟨zs, rfl, pz⟩ := nv_perm pm
      have znd : zs.Nodup := pz.nodup_iff.mpr (List.Pairwise.filter _ List.nodup_range)
      have zlen : zs.length ≤ 16 := by rw [pz.length_eq]; exact Nat.le_trans unw_len l16
      have nrG : r ≠ Gn := (ne_of_none (sm3 _ _ hGn2) hr4).symm
      have nrT : r ≠ Tk := (ne_of_none (sm3 _ _ hTk2) hr4).symm
      have nGp : Gn ≠ p := by rintro rfl; exact hp.some hGH
      have nTp : Tk ≠ p := by rintro rfl; exact hp.some hTH
      have nrp : r ≠ p := by rintro rfl; exact po3.some hr4
      have seH4 : SameE p H H4 := (SameE.of (sm2.trans sm3)).trans se4
      refine ⟨r, rfl, ⟨_, SqL.of hy4⟩, for_list (K := K) (a := r) (xs := NV zs) (fun k σ H5 => (∃ v5 v6, σ = [some (.ref p), some (.ref O), some (.ref S), some (.ref Gn), some (.ref Tk), v5, v6]) ∧ SameE p H H5 ∧ PotAt H5 p ∧ H5 r = some (.lst (NV zs)) ∧ ∃ gl, H5 Gn = some (.lst (SV gl)) ∧ H5 Tk = some (.dT (pKV (prt s gl (zs.take k)))) ∧ Mid g s gl (zs.take k))
        ⟨⟨_, _, rfl⟩, seH4, po4, hy4, _, se4 _ _ (sm3 _ _ hGn2) nGp, se4 _ _ (sm3 _ _ hTk2) nTp, Mid.nil⟩ (fun k σ H5 _ z => SqL.of z.2.2.2.1) ?_ ?_⟩
      · rintro k x σ H5 hx ⟨⟨v5, v6, rfl⟩, se5, po5, hr5, gl, hG5, hT5, M⟩
        rw [List.getElem?_map] at hx
        obtain ⟨i, hki, rfl⟩ := Option.map_eq_some_iff.mp hx
        have hk : k < zs.length := (List.getElem?_eq_some_iff.mp hki).1
        have tk : zs.take (k + 1) = zs.take k ++ [i] := by rw [List.take_add_one, hki]; rfl
        have npi : (zs.take k ++ [i]).Nodup := by rw [← tk]; exact znd.sublist (List.take_sublist _ _)
        have hip : i ∉ zs.take k := fun z => (List.nodup_append.mp npi).2.2 i z i (List.mem_singleton.mpr rfl) rfl
        have him : i ∈ unw s s.length := pz.mem_iff.mp (List.mem_of_getElem? hki)
        obtain ⟨h, hs⟩ : ∃ h, s.getD i none = some h := Option.isSome_iff_exists.mp (List.mem_filter.mp him).2
        have hi : i < s.length := (getD_mem_o hs).1
        have hn : h < n := R.1 h (getD_mem_o hs).2
        have at' : atI (SV s) (i : Int) = some (.int (h : Int)) := by rw [sv_at hi, hs]; rfl
        have hS5 : H5 S = some (.tup (SV s)) := se5 _ _ hS (by rintro rfl; obtain ⟨u, v, e, _⟩ := hp; rw [e] at hS; cases hS)
        have hO5 : OutsAt H5 O as n g := hO.sameE se5 hp offp
        have gh8 := G.le h hn
        generalize hps : prt s gl (zs.take k) = ps at *
        refine ⟨_, rfl, _, rfl, _, rfl, S, _, _, _, rfl, rfl, SqT.of hS5, at', O, _, rfl, hO5.get hn, as.getD h 0, rfl, ⟨_, SqL.of (hO5.rows.2 h hn)⟩, fun D2 hD2 => ?_⟩
        refine comp_list (K := K) (a := as.getD h 0) (xs := NV (g h)) (fun j ys σ H6 => (∃ u, σ = [u, some (.ref S), some (.int i), some (.ref Tk)]) ∧ ys = NV (((g h).take j).filter fun o => decide ((h, o) ∉ ps)) ∧ Same H5 H6 ∧ H6 D2 = some (.lst ys)) ⟨⟨_, rfl⟩, by rw [List.take_zero]; rfl, same_new hD2, upd_same⟩ (fun j ys σ H6 _ z => SqL.of (z.2.2.1 _ _ (hO5.rows.2 h hn))) ?_ ?_
        · rintro j x ys σ H6 Kt Kf hx2 ⟨⟨u, rfl⟩, rfl, sm6, hD6⟩ kt kf
          rw [List.getElem?_map] at hx2
          obtain ⟨o, hjo, rfl⟩ := Option.map_eq_some_iff.mp hx2
          have tk2 : (g h).take (j + 1) = (g h).take j ++ [o] := by rw [List.take_add_one, hjo]; rfl
          have hj : j < 9 := by have := (List.getElem?_eq_some_iff.mp hjo).1; omega
          refine ⟨_, rfl, _, rfl, S, _, _, _, rfl, rfl, SqT.of (sm6 _ _ hS5), at', _, rfl, by show 2 ≤ sizeLine; decide, fun t ht => ⟨_, rfl, Tk, _, rfl, DGet.t (k := pKey (h, o)) (same_new ht _ _ (sm6 _ _ hT5)) upd_same, _, rfl, ?_⟩⟩
          refine ite2 (fun e => ?_) (fun e => ?_)
          · have e' : (h, o) ∉ ps := by
              rw [pKV_val] at e
              simpa using e
            refine ⟨_, rfl, kt _ _ _ (same_new ht _ _ hD6) ?_ ⟨⟨_, rfl⟩, ?_, fun b u e => ?_, upd_same⟩⟩
            · rw [List.length_map]
              exact Nat.lt_of_le_of_lt (Nat.le_trans (List.length_filter_le _ _) (List.length_take_le _ _)) (Nat.lt_of_lt_of_le hj (by decide))
            · rw [tk2, List.filter_append, List.filter_cons_of_pos (p := fun o => decide ((h, o) ∉ ps)) (decide_eq_true e'), List.filter_nil]
              unfold NV; rw [List.map_append]; rfl
            · rw [upd_ne (ne_of_none e hD2)]
              exact same_new ht _ _ (sm6 _ _ e)
          · have e' : (h, o) ∈ ps := by
              rw [pKV_val] at e
              simpa using e
            refine kf _ _ ⟨⟨_, rfl⟩, ?_, sm6.trans (same_new ht), same_new ht _ _ hD6⟩
            rw [tk2, List.filter_append, List.filter_cons_of_neg (p := fun o => decide ((h, o) ∉ ps)) (by simpa using e'), List.filter_nil, List.append_nil]
        · rintro ys σ H6 ⟨_, rfl, sm6, hD6⟩
          rw [show (NV (g h)).length = (g h).length from List.length_map _, List.take_length] at hD6
          have f0 := free_some M npi R G hs
          rw [hps] at f0
          generalize hfr : ((g h).filter fun o => decide ((h, o) ∉ ps)) = fr at *
          have fr9 : fr.length ≤ 8 := by rw [← hfr]; exact Nat.le_trans (List.length_filter_le _ _) gh8
          have po6 : PotAt H6 p := po5.same sm6
          have nD2p : D2 ≠ p := by rintro rfl; exact po5.some hD2
          refine ⟨_, rfl, _, rfl, _, rfl, D2, _, rfl, .inl (SqL.of hD6), p, _, rfl, by rw [List.length_map]; omega, by rw [List.length_map]; omega, po6, fun d a2 b2 d0 d1 k0 k1 k2 => ?_⟩
          rw [List.length_map] at d1
          obtain ⟨dn, rfl⟩ : ∃ dn : Nat, (dn : Int) = d := ⟨d.toNat, by omega⟩
          have hdn : dn < fr.length := by omega
          have se7 : SameE p H5 (upd H6 p (.lst [.int a2, .int b2])) := (SameE.of sm6).trans SameE.upd
          have po7 : PotAt (upd H6 p (.lst [.int a2, .int b2])) p := PotAt.upd k0 k1 k2
          have hD7 : (upd H6 p (.lst [.int a2, .int b2])) D2 = some (.lst (NV fr)) := by rw [upd_ne nD2p]; exact hD6
          revert se7 po7 hD7
          generalize upd H6 p (.lst [.int a2, .int b2]) = H7
          intro se7 po7 hD7
          have hof : fr.getD dn 0 ∈ fr := getD_mem hdn
          have ato : atI (NV fr) (dn : Int) = some (.int ((fr.getD dn 0 : Nat) : Int)) := nv_at hdn
          revert ato hof
          generalize fr.getD dn 0 = o
          intro hof ato
          have hof' : o ∈ g h ∧ (h, o) ∉ ps := by
            rw [← hfr] at hof
            have := List.mem_filter.mp hof
            exact ⟨this.1, of_decide_eq_true this.2⟩
          have hi2 : i < gl.length := by rw [M.len]; exact hi
          obtain ⟨M', ep⟩ := M.step hip hs hof'.1 (by rw [hps]; exact hof'.2)
          rw [hps] at ep
          have nSp : S ≠ p := by rintro rfl; obtain ⟨u, v, e, _⟩ := hp; rw [e] at hS; cases hS
          have nSG : S ≠ Gn := ne_of_none hS hGH
          have hG7 : H7 Gn = some (.lst (SV gl)) := se7 _ _ hG5 nGp
          have hT7 := se7 _ _ hT5 nTp
          have hS7 := se7 _ _ hS5 nSp
          have hr7 := se7 _ _ hr5 nrp
          refine ⟨D2, _, _, _, rfl, rfl, SqL.of hD7, ato, _, rfl, _, rfl, Gn, _, _, i, rfl, rfl, hG7, ixN_nat (by rw [List.length_map]; exact hi2), ?_⟩
          have eset : (SV gl).set i (.int (o : Int)) = SV (gl.set i (some o)) := by unfold SV; rw [List.map_set]; rfl
          rw [eset]
          have at2 : atI (SV (gl.set i (some o))) (i : Int) = some (.int (o : Int)) := by rw [sv_at (by rw [List.length_set]; exact hi2), getD_set_o hi2, if_pos rfl]; rfl
          refine ⟨_, rfl, _, rfl, _, rfl, S, _, _, _, rfl, rfl, SqT.of (by rw [upd_ne nSG]; exact hS7), at', _, rfl, _, rfl, Gn, _, _, _, rfl, rfl, SqL.of upd_same, at2, by show 2 ≤ sizeLine; decide, fun t2 ht2 => ?_⟩
          have keep : ∀ b u, H7 b = some u → b ≠ Gn → b ≠ Tk → (upd (upd (upd H7 Gn (.lst (SV (gl.set i (some o))))) t2 (.tup [.int (h : Int), .int (o : Int)])) Tk (.dT (putK (pKV ps) (pKey (h, o)) (.bl true)))) b = some u := fun b u e n1 n2 => by
            have e8 : (upd H7 Gn (.lst (SV (gl.set i (some o))))) b = some u := by rw [upd_ne n1]; exact e
            rw [upd_ne n2, upd_ne (ne_of_none e8 ht2)]; exact e8
          refine ⟨Tk, _, rfl, DPut.t (k := pKey (h, o)) (same_new ht2 _ _ (by rw [upd_ne nGT.symm]; exact hT7)) upd_same ?_, ⟨_, _, rfl⟩, ?_, ?_, keep _ _ hr7 nrG nrT, gl.set i (some o), ?_, ?_, ?_⟩
          · unfold pKV
            rw [List.length_map, ← hps]
            unfold prt
            rw [List.length_map, List.length_take]
            exact Nat.lt_of_lt_of_le (show min k zs.length < 17 by omega) (by decide)
          · exact fun b u e hne => keep _ _ (se7 _ _ (se5 _ _ e hne) hne) (ne_of_none e hGH) (ne_of_none e hTH)
          · obtain ⟨u, v, e, r'⟩ := po7
            exact ⟨u, v, keep _ _ e nGp.symm nTp.symm, r'⟩
          · rw [upd_ne nGT]
            exact same_new ht2 _ _ upd_same
          · rw [upd_same, putK_new _ (pKV_none hof'.2), ← pKV_snoc, tk, ep]
          · rw [tk]; exact M'
      · rintro σ H5 ⟨⟨v5, v6, rfl⟩, se5, po5, hr5, gl, hG5, hT5, M⟩
        rw [show (NV zs).length = zs.length from List.length_map _, List.take_length] at M
        exact ⟨_, rfl, Gn, _, rfl, .inl ⟨SqL.of hG5, fun t ht => q t gl _ upd_same (M.done pz) (se5.trans (SameE.of (same_new ht))) (po5.same (same_new ht))⟩⟩
end
end K61

set_option maxHeartbeats 1500000
namespace K61
open PySem L2
abbrev sIn : Stmt := top 19
theorem RightS.put {n : Nat} {g : Nat → List Nat} {s : List (Option Nat)} {i x : Nat} (h : RightS n g s) (hi : i < s.length) (hx : x < n) (hc : s.count (some x) < (g x).length) : RightS n g (s.set i (some x)) := by
  refine ⟨fun y hy => ?_, fun y hy => ?_⟩
  · rcases List.mem_or_eq_of_mem_set hy with z | z
    · exact h.1 y z
    · cases z; exact hx
  · rw [List.count_set hi]
    have := h.2 y hy
    by_cases e : x = y
    · subst e
      split <;> split <;> omega
    · have e2 : (some x == some y) = false := by simpa using e
      rw [e2]
      split <;> simp <;> omega
/-- all but p and q stays -/
def SameF (p q : Addr) (H H' : Hp) : Prop := ∀ b o, H b = some o → b ≠ p → b ≠ q → H' b = some o
/-- the letters that are not in yet: none of them stands anywhere -/
def FreshL (ns : List Int) (s : List (Option Nat)) : Prop := ns.Nodup ∧ ∀ z ∈ ns, ∃ i : Nat, z = (i : Int) ∧ i < s.length ∧ s.getD i none = none
section
variable {P : Program} {w : World} {K : PySem.W.Frag} {mg : Str → Option Value} {base : Heap}
theorem scIn : FnScope ["_law_pot_here", "_law_outs", "_law_homes", "_law_stand", "_law_fresh", "_law_found", "_law_i", "_law_house"] ["_law_pot_here", "_law_outs", "_law_homes", "_law_stand", "_law_fresh"] (defScope sIn) := ⟨rfl, rfl, rfl, by decide +kernel, rfl, by decide +kernel, by decide +kernel⟩
def spIn : Sp := fun vs H Q _ => ∃ (p O a S Fr : Addr) (as : List Addr) (n : Nat) (g : Nat → List Nat) (hs : List Int) (s : List (Option Nat)) (ns : List Int), vs = [.ref p, .ref O, .ref a, .ref S, .ref Fr] ∧ PotAt H p ∧ OutsAt H O as n g ∧ Off as n p ∧ Off as n Fr ∧ Fr ≠ p ∧ 2 ≤ n ∧ n ≤ 32 ∧ H a = some (.tup (HV hs)) ∧ H S = some (.tup (SV s)) ∧ H Fr = some (.lst (HV ns)) ∧ s.length = hs.length ∧ s.length ≤ 16 ∧ RightS n g s ∧ FreshL ns s ∧
  ∀ (r : Addr) (s' : List (Option Nat)) (ns' : List Int) (H' : Hp), H' r = some (.tup (SV s')) → s'.length = s.length → RightS n g s' → FreshL ns' s' → H' Fr = some (.lst (HV ns')) → SameF p Fr H H' → PotAt H' p → Q (.ref r) H'
theorem ok_in {f : Addr} {fd : FuncData} (F : Fun K "_law_let_in" "_law_let_in" sIn f fd) (B : Bl mg) (T : Cal P w K mg base CX0 1 "_law_take" ["_law_pot_here", "_law_many"] spTake) : FnOk P w K mg base CX0 2 f fd ["_law_pot_here", "_law_outs", "_law_homes", "_law_stand", "_law_fresh"] spIn := by
  refine F.ok scIn (fun vs H Q E h => ?_) (fun cdv A outer s0 H vs Q E hr h => ?_)
  · obtain ⟨p, O, a, S, Fr, as, n, g, hs, s, ns, rfl, _⟩ := h
    rfl
  · obtain ⟨p, O, a, S, Fr, as, n, g, hs, s, ns0, rfl, hp, hO, offp, offF, nFp, n2, n32, ha, hS, hF, sl, l16, R, FL, q⟩ := h
    have hu : (A.deeper (PyProof.Rows.envOfC "_law_let_in" (defScope sIn) s0.heap.objs.size f cdv)).units + 1 < cLine := by have := hr.un; omega
    refine' ⟨_, pss_cons (ps_set (i := 5) scIn.nd rfl (Or.inl rfl) (pe_callTy call_list_of (by rfl) B.lst PyProof.Rows.boot_list (pa_cons (pv 3) pa_nil)))
      (pss_cons (ps_for PassesOwn.never rfl (pi_list (pe_callTy call_list_of (by rfl) B.lst PyProof.Rows.boot_list (pa_cons (pv 4) pa_nil))) (pg_name (i := 6) scIn.nd rfl (Or.inl rfl))
        (pss_cons (ps_set (i := 7) scIn.nd rfl (Or.inl rfl) (pe_cal T hr pass0 (pa_cons (pv 0) (pa_cons (pe_callB call_lenD (by rfl) B.len PySem.boot_len (pa_cons (pv 1) pa_nil)) pa_nil))))
        (pss_one (ps_if (PW.pt (pw_and (pt_cmpR op_ne (pv 7) (pe_ix ix_tup (pv 2) (pv 6) (fun _ _ => rfl)) (nomark _))
            (pw_and (pt_cmpR op_lt (pe_bm PySem.F.plainAttrs_list PySem.F.slot_list_count PySem.F.type_list_count mt_count (pv 5) (pa_cons (pv 7) pa_nil)) (pe_callB call_len_seq (by rfl) B.len PySem.boot_len (pa_cons (pe_dget hu (pv 1) (pv 7) (fun _ _ => rfl)) pa_nil)) (nomark _))
            (pw_and1 (pt_cmpR op_eq (pe_cal T hr pass0 (pa_cons (pv 0) (pa_cons pe_int pa_nil))) pe_int (nomark _))))))
          (pss_cons (ps_asg (pv 7) (pg_sub (pv 5) (pv 6) set_list))
          (pss_one (ps_expr (pe_bm PySem.F.plainAttrs_list PySem.F.slot_list_remove PySem.F.type_list_remove mt_remove (pv 4) (pa_cons (pv 6) pa_nil)))))
          pss_nil))))
      (pss_one (ps_ret (pe_callTy call_tuple_of (by rfl) B.tup PyProof.Rows.boot_tuple (pa_cons (pv 5) pa_nil))))), ?_⟩
    refine ⟨_, rfl, S, _, rfl, .inr (SqT.of hS), fun Fo hFo => ?_⟩
    refine ⟨_, rfl, Fr, _, rfl, .inl (SqL.of (same_new hFo _ _ hF)), fun L hL => ?_⟩
    have nFoL : Fo ≠ L := ne_of_none upd_same hL
    have hLH : H L = none := (same_new hFo).free hL
    have nFoF : Fo ≠ Fr := (ne_of_none hF hFo).symm
    have nLF : L ≠ Fr := (ne_of_none hF hLH).symm
    have nFop : Fo ≠ p := by rintro rfl; exact hp.some hFo
    have nLp : L ≠ p := by rintro rfl; exact hp.some hLH
    have sm0 : Same H (upd (upd H Fo (.lst (SV s))) L (.lst (HV ns0))) := (same_new hFo).trans (same_new hL)
    have nap : a ≠ p := by rintro rfl; obtain ⟨u, v, e, _⟩ := hp; rw [e] at ha; cases ha
    have naF : a ≠ Fr := by rintro rfl; rw [hF] at ha; cases ha
    have ns16 : ns0.length ≤ 16 := by
      have : (ns0.map Int.toNat).length ≤ (List.range s.length).length := by
        refine nd_le ?_ fun x hx => ?_
        · refine List.pairwise_map.mpr (List.Pairwise.imp_of_mem ?_ FL.1)
          intro u v hu' hv hne e
          obtain ⟨i, rfl, _⟩ := FL.2 u hu'
          obtain ⟨j, rfl, _⟩ := FL.2 v hv
          omega
        · obtain ⟨u, hu', rfl⟩ := List.mem_map.mp hx
          obtain ⟨i, rfl, hi, _⟩ := FL.2 u hu'
          rw [List.mem_range]; omega
      rw [List.length_map, List.length_range] at this
      omega
    let J : Nat → List Int → List (Option Nat) → Hp → Prop := fun k ns st Hc => SameF p Fr H Hc ∧ PotAt Hc p ∧ Hc L = some (.lst (HV ns0)) ∧ Hc Fr = some (.lst (HV ns)) ∧ Hc Fo = some (.lst (SV st)) ∧ FreshL ns st ∧ (∀ j z, k ≤ j → ns0[j]? = some z → z ∈ ns) ∧ st.length = s.length ∧ RightS n g st
    have stepP : ∀ k ns st Hc u v, J k ns st Hc → 0 ≤ u → 0 ≤ v → v < 2147483647 → J k ns st (upd Hc p (.lst [.int u, .int v])) := by
      rintro k ns st Hc u v ⟨o1, o2, o3, o4, o5, o6⟩ u0 v0 v1
      refine ⟨fun b o e h1 h2 => by rw [upd_ne h1]; exact o1 b o e h1 h2, PotAt.upd u0 v0 v1, by rw [upd_ne nLp]; exact o3, by rw [upd_ne nFp]; exact o4, by rw [upd_ne nFop]; exact o5, o6⟩
    have stepK : ∀ k ns st Hc, J k ns st Hc → J (k + 1) ns st Hc := by
      rintro k ns st Hc ⟨o1, o2, o3, o4, o5, o6, o7, o8⟩
      exact ⟨o1, o2, o3, o4, o5, o6, fun j z hj => o7 j z (by omega), o8⟩
    have outs : ∀ k ns st Hc, J k ns st Hc → OutsAt Hc O as n g := by
      rintro k ns st Hc ⟨o1, _⟩
      have nOp : O ≠ p := by rintro rfl; obtain ⟨u, v, e, _⟩ := hp; have := hO.dict; rw [e] at this; cases this
      have nOF : O ≠ Fr := by rintro rfl; have := hO.dict; rw [hF] at this; cases this
      exact ⟨o1 _ _ hO.dict nOp nOF, hO.rows.mono fun j hj e => o1 _ _ e (offp j hj).symm (offF j hj).symm, hO.inj⟩
    refine ⟨L, rfl, ⟨_, SqL.of upd_same⟩, for_list (K := K) (a := L) (xs := HV ns0) (fun k σ Hc => (∃ v6 v7, σ = [some (.ref p), some (.ref O), some (.ref a), some (.ref S), some (.ref Fr), some (.ref Fo), v6, v7]) ∧ ∃ ns st, J k ns st Hc)
      ⟨⟨_, _, rfl⟩, ns0, s, fun b o e _ _ => sm0 _ _ e, hp.same sm0, upd_same, sm0 _ _ hF, by rw [upd_ne nFoL]; exact upd_same, FL, fun j z _ e => List.mem_of_getElem? e, rfl, R⟩ (fun k σ Hc _ z => by obtain ⟨_, ns, st, j⟩ := z; exact SqL.of j.2.2.1) ?_ ?_⟩
    · rintro k x σ Hc hx ⟨⟨v6, v7, rfl⟩, ns, st, J3⟩
      rw [List.getElem?_map] at hx
      obtain ⟨z, hz, rfl⟩ := Option.map_eq_some_iff.mp hx
      have zin : z ∈ ns := J3.2.2.2.2.2.2.1 k z (Nat.le_refl _) hz
      obtain ⟨i, rfl, hi, hnone⟩ := J3.2.2.2.2.2.1.2 z zin
      have sl3 : st.length = s.length := J3.2.2.2.2.2.2.2.1
      have hOc := outs _ _ _ _ J3
      refine ⟨_, rfl, _, rfl, O, _, rfl, hOc.dict, p, _, rfl, by rw [outsKV_len]; omega, by rw [outsKV_len]; omega, J3.2.1, fun d a2 b2 d0 d1 k0 k1 k2 => ?_⟩
      rw [outsKV_len] at d1
      obtain ⟨x, rfl⟩ : ∃ x : Nat, (x : Int) = d := ⟨d.toNat, by omega⟩
      have xn : x < n := by omega
      have J4 := stepP _ _ _ _ _ _ J3 k0 k1 k2
      have ha4 := J4.1 _ _ ha nap naF
      have hO4 := outs _ _ _ _ J4
      revert J4 ha4 hO4
      generalize upd Hc p (.lst [.int a2, .int b2]) = H4
      intro J4 ha4 hO4
      refine ⟨_, rfl, _, rfl, _, rfl, a, _, _, _, rfl, rfl, SqT.of ha4, hv_at (show i < hs.length by omega), rfl, _, rfl, ?_⟩
      refine ite2 (fun e1 => ?_) (fun e1 => ite_f ⟨⟨_, _, rfl⟩, _, _, stepK _ _ _ _ J4⟩)
      refine ⟨_, rfl, .inl ⟨rfl, _, SqL.of J4.2.2.2.2.1⟩, _, rfl, Fo, _, _, rfl, rfl, J4.2.2.2.2.1, rfl, flat_sv, _, rfl, _, rfl, O, _, rfl, hO4.get xn, as.getD x 0, NV (g x), rfl, .inl (SqL.of (hO4.rows.2 x xn)), _, _, rfl, rfl, _, rfl, ?_⟩
      refine ite2 (fun e2 => ?_) (fun e2 => ite_f ⟨⟨_, _, rfl⟩, _, _, stepK _ _ _ _ J4⟩)
      have cnt : st.count (some x) < (g x).length := by
        have := of_decide_eq_true e2
        rw [count_sv, List.length_map] at this
        omega
      refine ⟨_, rfl, p, 3, rfl, by decide, by decide, J4.2.1, fun d2 a3 b3 d20 d21 m0 m1 m2 => ⟨rfl, _, rfl, ?_⟩⟩
      have J5 := stepP _ _ _ _ _ _ J4 m0 m1 m2
      revert J5
      generalize upd H4 p (.lst [.int a3, .int b3]) = H5
      intro J5
      refine ite2 (fun e3 => ?_) (fun e3 => ⟨⟨_, _, rfl⟩, _, _, stepK _ _ _ _ J5⟩)
      obtain ⟨o1, o2, o3, o4, o5, o6, o7, o8, o9⟩ := J5
      refine ⟨_, rfl, _, rfl, _, rfl, Fo, _, _, i, rfl, rfl, o5, ixN_nat (by rw [List.length_map]; omega), ?_⟩
      have eset : (SV st).set i (.int (x : Int)) = SV (st.set i (some x)) := by unfold SV; rw [List.map_set]; rfl
      rw [eset]
      refine ⟨_, rfl, .inl ⟨rfl, _, SqL.of (by rw [upd_ne nFoF.symm]; exact o4)⟩, _, rfl, Fr, ns, (i : Int), rfl, rfl, by rw [upd_ne nFoF.symm]; exact o4, zin, ?_⟩
      rw [← List.erase_eq_eraseIdx_of_idxOf (l := ns) (a := (i : Int)) rfl]
      have himl : i < st.length := by omega
      refine ⟨⟨_, _, rfl⟩, ns.erase (i : Int), st.set i (some x), fun b o e h1 h2 => ?_, ?_, ?_, upd_same, ?_, ⟨o6.1.erase _, fun z hz => ?_⟩, fun j z hj e => ?_, by rw [List.length_set]; exact o8, o9.put himl xn cnt⟩
      · rw [upd_ne h2, upd_ne (ne_of_none e hFo)]; exact o1 b o e h1 h2
      · obtain ⟨u, v, e, r⟩ := o2
        exact ⟨u, v, by rw [upd_ne nFp.symm, upd_ne nFop.symm]; exact e, r⟩
      · rw [upd_ne nLF, upd_ne nFoL.symm]; exact o3
      · rw [upd_ne nFoF, upd_same]
      · obtain ⟨z1, z2⟩ := (o6.1.mem_erase_iff).mp hz
        obtain ⟨j, rfl, hj, hjn⟩ := o6.2 z z2
        refine ⟨j, rfl, by rw [List.length_set]; exact hj, ?_⟩
        rw [getD_set_o himl, if_neg (fun y => z1 (by rw [y]))]; exact hjn
      · refine (o6.1.mem_erase_iff).mpr ⟨fun y => ?_, o7 j z (by omega) e⟩
        rw [y] at e
        have hk1 := (List.getElem?_eq_some_iff.mp hz)
        have hj1 := (List.getElem?_eq_some_iff.mp e)
        obtain ⟨hk2, hk3⟩ := hk1
        obtain ⟨hj2, hj3⟩ := hj1
        exact (List.pairwise_iff_getElem.mp FL.1) k j hk2 hj2 (by omega) (by rw [hk3, hj3])
    · rintro σ Hc ⟨⟨v6, v7, rfl⟩, ns, st, J3⟩
      obtain ⟨o1, o2, o3, o4, o5, o6, o7, o8, o9⟩ := J3
      exact ⟨_, rfl, Fo, _, rfl, .inl ⟨SqL.of o5, fun r hr => q r st ns _ upd_same o8 o9 o6 (same_new hr _ _ o4) (fun b o e h1 h2 => same_new hr _ _ (o1 b o e h1 h2)) (o2.same (same_new hr))⟩⟩
end
end K61

set_option maxHeartbeats 1500000
namespace K61
open PySem L2
abbrev sLog : Stmt := top 20
/-! ### logs -/
def Moves (s l : List (Option Nat)) : Prop := l.length = s.length ∧ (∀ i, s.getD i none = none → l.getD i none = none) ∧ ∀ i h, s.getD i none = some h → ∃ o, l.getD i none = some o ∧ o ≠ h
def LogAt (H : Hp) (SA LA : Addr) (sas las : List Addr) (m L : Nat) (ss ls : Nat → List (Option Nat)) : Prop :=
  H SA = some (.lst (sas.map V.ref)) ∧ H LA = some (.lst (las.map V.ref)) ∧ Holds H sas (L + 1) (fun b => .tup (SV (ss b))) ∧ Holds H las L (fun b => .tup (SV (ls b))) ∧ (∀ b, b ≤ L → (ss b).length = m) ∧ ∀ b, b < L → Moves (ss b) (ls b)
/-- tuples stay -/
def KTu (H H' : Hp) : Prop := ∀ b xs, H b = some (.tup xs) → H' b = some (.tup xs)
theorem KTu.trans {H H1 H2 : Hp} (a : KTu H H1) (b : KTu H1 H2) : KTu H H2 := fun c o h => b c o (a c o h)
theorem KTu.of {H H' : Hp} (s : Same H H') : KTu H H' := fun b xs e => s _ _ e
theorem KTu.ofE {H H' : Hp} {p : Addr} (s : SameE p H H') (hp : PotAt H p) : KTu H H' := fun b xs e => s _ _ e (by rintro rfl; obtain ⟨u, v, z, _⟩ := hp; rw [z] at e; cases e)
theorem KTu.upd {H : Hp} {c : Addr} {o : HO} {ys : List V} (h : H c = some (.lst ys)) : KTu H (upd H c o) := fun b xs e => by rw [upd_ne (by rintro rfl; rw [h] at e; cases e)]; exact e
def setF (f : Nat → List (Option Nat)) (k : Nat) (x : List (Option Nat)) : Nat → List (Option Nat) := fun j => if j = k then x else f j
theorem setF_at {f : Nat → List (Option Nat)} {k : Nat} {x : List (Option Nat)} : setF f k x k = x := by unfold setF; rw [if_pos rfl]
theorem setF_ne {f : Nat → List (Option Nat)} {k j : Nat} {x : List (Option Nat)} (h : j ≠ k) : setF f k x j = f j := by unfold setF; rw [if_neg h]
theorem holds_put {H H' : Hp} {as : List Addr} {L : Nat} {f : Nat → List (Option Nat)} {r : Addr} {x : List (Option Nat)} (h : Holds H as L (fun b => .tup (SV (f b)))) (kt : KTu H H') (hr : H' r = some (.tup (SV x))) : Holds H' (as ++ [r]) (L + 1) (fun b => .tup (SV (setF f L x b))) := by
  refine Holds.snoc ⟨h.1, fun j hj => ?_⟩ (by rw [setF_at]; exact hr)
  show _ = some (HO.tup (SV (setF f L x j)))
  rw [setF_ne (by omega)]
  exact kt _ _ (h.2 j hj)
theorem LogAt.push {H H' : Hp} {SA LA r r2 : Addr} {sas las : List Addr} {m L : Nat} {ss ls : Nat → List (Option Nat)} {gs s' : List (Option Nat)} (h : LogAt H SA LA sas las m L ss ls) (kt : KTu H H') (hS : H' SA = some (.lst ((sas ++ [r2]).map V.ref))) (hL : H' LA = some (.lst ((las ++ [r]).map V.ref)))
    (hr : H' r = some (.tup (SV gs))) (hr2 : H' r2 = some (.tup (SV s'))) (hm : s'.length = m) (mv : Moves (ss L) gs) : LogAt H' SA LA (sas ++ [r2]) (las ++ [r]) m (L + 1) (setF ss (L + 1) s') (setF ls L gs) := by
  obtain ⟨h1, h2, h3, h4, h5, h6⟩ := h
  refine ⟨hS, hL, holds_put h3 kt hr2, holds_put h4 kt hr, fun b hb => ?_, fun b hb => ?_⟩
  · by_cases e : b = L + 1
    · rw [e, setF_at]; exact hm
    · rw [setF_ne e]; exact h5 b (by omega)
  · rw [setF_ne (show b ≠ L + 1 by omega)]
    by_cases e : b = L
    · rw [e, setF_at]; exact mv
    · rw [setF_ne e]; exact h6 b (by omega)
def SmallS (s : List (Option Nat)) : Prop := ∀ h, some h ∈ s → h < 32
def SmallL (L : Nat) (ss ls : Nat → List (Option Nat)) : Prop := (∀ b, b ≤ L → SmallS (ss b)) ∧ ∀ b, b < L → SmallS (ls b)
theorem RightS.small {n : Nat} {g : Nat → List Nat} {s : List (Option Nat)} (h : RightS n g s) (n32 : n ≤ 32) : SmallS s := fun x hx => Nat.lt_of_lt_of_le (h.1 x hx) n32
theorem SmallL.push {L : Nat} {ss ls : Nat → List (Option Nat)} {gs s' : List (Option Nat)} (h : SmallL L ss ls) (h1 : SmallS s') (h2 : SmallS gs) : SmallL (L + 1) (setF ss (L + 1) s') (setF ls L gs) := by
  refine ⟨fun b hb => ?_, fun b hb => ?_⟩
  · by_cases e : b = L + 1
    · rw [e, setF_at]; exact h1
    · rw [setF_ne e]; exact h.1 b (by omega)
  · by_cases e : b = L
    · rw [e, setF_at]; exact h2
    · rw [setF_ne e]; exact h.2 b (by omega)
theorem last_ref {sas : List Addr} {k : Nat} (h : sas.length = k + 1) : atI (sas.map V.ref) (-1) = some (.ref (sas.getD k 0)) := by
  rcases List.eq_nil_or_concat sas with e | ⟨l, x, e⟩
  · subst e; cases h
  · subst e
    rw [List.concat_eq_append] at h ⊢
    have hl : l.length = k := by rw [List.length_append] at h; simpa using h
    rw [List.map_append, getD_snoc hl, if_pos rfl]
    exact atI_last _ _
theorem ixN_last {k : Nat} : ixN (k + 1) (-1) = some k := by
  unfold ixN
  rw [if_neg (by decide), if_pos (by omega)]
  congr 1; omega
theorem Handing.moves {n : Nat} {g : Nat → List Nat} {s gs : List (Option Nat)} (Hd : Handing g s gs) (G : Good n g) (R : RightS n g s) : Moves s gs := by
  refine ⟨Hd.len, Hd.non, fun i h e => ?_⟩
  obtain ⟨o, o1, o2⟩ := Hd.tie i h e
  exact ⟨o, o1, (G.lt h (R.1 h (getD_mem_o e).2) o o2).2⟩
theorem FreshL.behind {g : Nat → List Nat} {ns hs : List Int} {s gs : List (Option Nat)} (h : FreshL ns s) (Hd : Handing g s gs) : FreshL ns (bh hs gs) := by
  refine ⟨h.1, fun z hz => ?_⟩
  obtain ⟨i, e, hi, hn⟩ := h.2 z hz
  refine ⟨i, e, by rw [bh_len, Hd.len]; exact hi, ?_⟩
  rcases bh_at (hs := hs) (gs := gs) i with y | y
  · exact y
  · rw [y]; exact Hd.non i hn
/-- the letters that are not under way -/
def nun (s : List (Option Nat)) (k : Nat) : List Nat := (List.range k).filter fun i => (s.getD i none).isNone
theorem nun_succ {s : List (Option Nat)} {k : Nat} : nun s (k + 1) = nun s k ++ (if (s.getD k none).isNone = true then [k] else []) := by
  unfold nun
  rw [List.range_succ, List.filter_append]
  congr 1
  by_cases e : (s.getD k none).isNone = true
  · rw [if_pos e, List.filter_cons_of_pos (p := fun i => (s.getD i none).isNone) e, List.filter_nil]
  · rw [if_neg e, List.filter_cons_of_neg (p := fun i => (s.getD i none).isNone) e, List.filter_nil]
theorem nun_len {s : List (Option Nat)} {k : Nat} : (nun s k).length ≤ k := by
  unfold nun
  refine Nat.le_trans (List.length_filter_le _ _) ?_
  rw [List.length_range]; exact Nat.le_refl _
theorem nun_fresh {s : List (Option Nat)} : FreshL ((nun s s.length).map fun (i : Nat) => (i : Int)) s := by
  refine ⟨?_, fun z hz => ?_⟩
  · refine List.pairwise_map.mpr (List.Pairwise.imp ?_ (List.Pairwise.filter _ List.nodup_range))
    intro a b hab e
    exact hab (by omega)
  · obtain ⟨i, hi, rfl⟩ := List.mem_map.mp hz
    obtain ⟨h1, h2⟩ := List.mem_filter.mp hi
    exact ⟨i, rfl, List.mem_range.mp h1, Option.isNone_iff_eq_none.mp h2⟩
theorem nun_hv {js : List Nat} : HV (js.map fun (i : Nat) => (i : Int)) = NV js := by unfold HV NV; rw [List.map_map]; rfl
section
variable {P : Program} {w : World} {K : PySem.W.Frag} {mg : Str → Option Value} {base : Heap}
theorem scLog : FnScope ["_law_pot_here", "_law_outs", "_law_homes", "_law_stand", "_law_most", "_law_fresh", "_law_beats", "_law_stands", "_law_log", "_law_beat"] ["_law_pot_here", "_law_outs", "_law_homes", "_law_stand", "_law_most"] (defScope sLog) := ⟨rfl, rfl, rfl, by decide +kernel, rfl, by decide +kernel, by decide +kernel⟩
def spLog : Sp := fun vs H Q _ => ∃ (p O a S : Addr) (as : List Addr) (n : Nat) (g : Nat → List Nat) (hs : List Int) (s : List (Option Nat)), vs = [.ref p, .ref O, .ref a, .ref S, .int 30] ∧ PotAt H p ∧ OutsAt H O as n g ∧ Off as n p ∧ Good n g ∧ 2 ≤ n ∧ n ≤ 32 ∧ H a = some (.tup (HV hs)) ∧ H S = some (.tup (SV s)) ∧ s.length = hs.length ∧ s.length ≤ 16 ∧ RightS n g s ∧
  ∀ (t SA LA : Addr) (sas las : List Addr) (L : Nat) (ss ls : Nat → List (Option Nat)) (H' : Hp), H' t = some (.tup [.ref SA, .ref LA]) → LogAt H' SA LA sas las s.length L ss ls → SmallL L ss ls → L ≤ 30 → SameE p H H' → PotAt H' p → H SA = none → H LA = none → Q (.ref t) H'
theorem ok_log {f : Addr} {fd : FuncData} (F : Fun K "_law_any_log" "_law_any_log" sLog f fd) (B : Bl mg) (T : Cal P w K mg base CX0 1 "_law_take" ["_law_pot_here", "_law_many"] spTake)
    (AH : Cal P w K mg base CX0 3 "_law_any_handing" ["_law_pot_here", "_law_outs", "_law_stand"] spAny) (BE : Cal P w K mg base CX0 1 "_law_behind" ["_law_homes", "_law_stand", "_law_gone"] spBeh) (LI : Cal P w K mg base CX0 2 "_law_let_in" ["_law_pot_here", "_law_outs", "_law_homes", "_law_stand", "_law_fresh"] spIn) :
    FnOk P w K mg base CX0 4 f fd ["_law_pot_here", "_law_outs", "_law_homes", "_law_stand", "_law_most"] spLog := by
  refine F.ok scLog (fun vs H Q E h => ?_) (fun cdv A outer s0 H vs Q E hr h => ?_)
  · obtain ⟨p, O, a, S, as, n, g, hs, s, rfl, _⟩ := h
    rfl
  · obtain ⟨p, O, a, S, as, n, g, hs, s, rfl, hp, hO, offp, G, n2, n32, ha, hS, sl, l16, R, q⟩ := h
    have hr1 : Room 1 (A.deeper (PyProof.Rows.envOfC "_law_any_log" (defScope sLog) s0.heap.objs.size f cdv)) := hr.mono (by decide)
    have hr2 : Room 2 (A.deeper (PyProof.Rows.envOfC "_law_any_log" (defScope sLog) s0.heap.objs.size f cdv)) := hr.mono (by decide)
    refine' ⟨_, pss_cons (ps_setComp (i := 5) (g := gTup K 2 (gCons (gName 0) (gCons (gName 1) gNil))) (tt := tB (tIsN (tVar 1))) (te := tVar 0) (NB := ["_law_i", "_law_house"]) (src := [none, none]) (blk_of (by kernel_rfl)) rfl (pi_enumT rfl B.enum (pa_cons (pv 3) pa_nil)) ?g ?t ?e scLog.nd rfl rfl rfl)
      (pss_cons (ps_set (i := 6) scLog.nd rfl (Or.inl rfl) (pe_cal T hr1 pass0 (pa_cons (pv 0) (pa_cons (pe_op op_add (pv 4) pe_int) pa_nil))))
      (pss_cons (ps_set (i := 7) scLog.nd rfl (Or.inl rfl) (pe_lst (pa_cons (pv 3) pa_nil)))
      (pss_cons (ps_set (i := 8) scLog.nd rfl (Or.inl rfl) (pe_lst pa_nil))
      (pss_cons (ps_for PassesOwn.never rfl (pi_range1 rfl B.range (pa_cons (pv 6) pa_nil)) (pg_name (i := 9) scLog.nd rfl (Or.inl rfl))
        (pss_cons (ps_expr (pe_bm PySem.F.plainAttrs_list PySem.F.slot_list_append PySem.F.type_list_append mt_append (pv 8) (pa_cons (pe_cal AH hr pass0 (pa_cons (pv 0) (pa_cons (pv 1) (pa_cons (pe_ix ix_list (pv 7) (pe_un un_neg pe_int) (fun _ _ => rfl)) pa_nil)))) pa_nil)))
        (pss_cons (ps_expr (pe_bm PySem.F.plainAttrs_list PySem.F.slot_list_append PySem.F.type_list_append mt_append (pv 7) (pa_cons (pe_cal BE hr1 pass0 (pa_cons (pv 2) (pa_cons (pe_ix ix_list (pv 7) (pe_un un_neg pe_int) (fun _ _ => rfl)) (pa_cons (pe_ix ix_list (pv 8) (pe_un un_neg pe_int) (fun _ _ => rfl)) pa_nil)))) pa_nil)))
        (pss_one (ps_if (PW.pt (pw_and (pt_cmpR op_lt (pe_op op_add (pv 9) pe_int) (pv 6) (nomark _)) (pw_and1 (pt_cmpR op_eq (pe_cal T hr1 pass0 (pa_cons (pv 0) (pa_cons pe_int pa_nil))) pe_int (nomark _)))))
          (pss_one (ps_asg (pe_cal LI hr2 pass0 (pa_cons (pv 0) (pa_cons (pv 1) (pa_cons (pv 2) (pa_cons (pe_ix ix_list (pv 7) (pe_un un_neg pe_int) (fun _ _ => rfl)) (pa_cons (pv 5) pa_nil)))))) (pg_sub (pv 7) (pe_un un_neg pe_int) set_list)))
          pss_nil)))))
      (pss_one (ps_ret (pe_tup (pa_cons (pv 7) (pa_cons (pv 8) pa_nil))))))))), ?_⟩
    case g => exact fun cl C s₃ H₃ fp => pg_tup (n := 2) rfl (pgs_cons (pg_name (i := 0) nbIH rfl (Or.inl rfl) (Or.inr rfl)) (pgs_cons (pg_name (i := 1) nbIH rfl (Or.inl rfl) (Or.inr rfl)) pgs_nil))
    case t => exact fun cl C s₃ H₃ fp => pts_one (pt_cmp (pc_isN (pv 1)))
    case e => exact fun cl C s₃ H₃ fp => pv 0
    refine ⟨_, rfl, S, _, rfl, SqT.of hS, fun D hD => ?_⟩
    refine comp_enumT (K := K) (a := S) (xs := SV s) (fun i ys σ H3 => (∃ u v, σ = [u, v]) ∧ ys = NV (nun s i) ∧ Same H H3 ∧ H3 D = some (.lst ys)) ⟨⟨_, _, rfl⟩, rfl, same_new hD, upd_same⟩ (fun i ys σ H3 _ z => SqT.of (z.2.2.1 _ _ hS)) ?_ ?_
    · rintro i x t ys σ H3 Kt Kf hx ⟨⟨u, v, rfl⟩, rfl, sm, hD3⟩ ht kt kf
      obtain ⟨hi, rfl⟩ := sv_get hx
      refine ⟨_, _, rfl, SqT.of upd_same, rfl, _, _, rfl, _, _, rfl, rfl, ?_⟩
      refine ⟨_, rfl, _, rfl, ?_⟩
      refine ite2 (fun e => ?_) (fun e => ?_)
      · have e' : (s.getD i none).isNone = true := by
          cases ho : s.getD i none with
          | none => rfl
          | some h => rw [ho] at e; exact absurd (of_decide_eq_true e) (by intro z; cases z)
        refine ⟨_, rfl, kt _ _ _ (same_new ht _ _ hD3) ?_ ⟨⟨_, _, rfl⟩, ?_, fun b u e => ?_, upd_same⟩⟩
        · rw [List.length_map]; exact Nat.lt_of_le_of_lt nun_len (Nat.lt_of_lt_of_le (show i < 17 by omega) (by decide))
        · rw [nun_succ, if_pos e']
          unfold NV; rw [List.map_append]; rfl
        · rw [upd_ne (ne_of_none e hD)]
          exact same_new ht _ _ (sm _ _ e)
      · have e' : ¬ (s.getD i none).isNone = true := by
          cases ho : s.getD i none with
          | none => rw [ho] at e; exact absurd (decide_eq_true rfl) e
          | some h => intro z; cases z
        exact kf _ _ ⟨⟨_, _, rfl⟩, by rw [nun_succ, if_neg e', List.append_nil], sm.trans (same_new ht), same_new ht _ _ hD3⟩
    · rintro ys σ H3 ⟨_, rfl, sm3, hD3⟩
      rw [show (SV s).length = s.length from List.length_map _, ← nun_hv] at hD3
      have FL0 := nun_fresh (s := s)
      revert FL0 hD3
      generalize ((nun s s.length).map fun (i : Nat) => (i : Int)) = ns0
      intro hD3 FL0
      have po3 : PotAt H3 p := hp.same sm3
      have nDp : D ≠ p := by rintro rfl; exact hp.some hD
      refine ⟨_, rfl, _, rfl, _, _, rfl, rfl, p, _, rfl, by decide, by decide, po3, fun bt a2 b2 d0 d1 k0 k1 k2 => ?_⟩
      have d1' : bt < 31 := d1
      have se4 : SameE p H (upd H3 p (.lst [.int a2, .int b2])) := (SameE.of sm3).trans SameE.upd
      have po4 : PotAt (upd H3 p (.lst [.int a2, .int b2])) p := PotAt.upd k0 k1 k2
      have hD4 : (upd H3 p (.lst [.int a2, .int b2])) D = some (.lst (HV ns0)) := by rw [upd_ne nDp]; exact hD3
      revert se4 po4 hD4
      generalize upd H3 p (.lst [.int a2, .int b2]) = H4
      intro se4 po4 hD4
      refine ⟨_, rfl, by show 1 ≤ sizeLine; decide, fun SA hSA => ⟨by show 0 ≤ sizeLine; decide, fun LA hLA => ?_⟩⟩
      have nSL : SA ≠ LA := ne_of_none upd_same hLA
      have hLA4 : H4 LA = none := (same_new hSA).free hLA
      have hSAH : H SA = none := se4.free po4.some hSA
      have hLAH : H LA = none := se4.free po4.some hLA4
      have nSp : SA ≠ p := by rintro rfl; exact hp.some hSAH
      have nLp : LA ≠ p := by rintro rfl; exact hp.some hLAH
      have nDS : D ≠ SA := ne_of_none hD4 hSA
      have nDL : D ≠ LA := ne_of_none hD4 hLA4
      have nap : a ≠ p := by rintro rfl; obtain ⟨u, v, e, _⟩ := hp; rw [e] at ha; cases ha
      have sm5 := (same_new (o := .lst [.ref S]) hSA).trans (same_new (o := .lst []) hLA)
      have nSpp : S ≠ p := by rintro rfl; obtain ⟨u, v, e, _⟩ := hp; rw [e] at hS; cases hS
      let J : Nat → Hp → Prop := fun i Hc => SameE p H Hc ∧ PotAt Hc p ∧ ∃ ns sas las ss ls, Hc D = some (.lst (HV ns)) ∧ LogAt Hc SA LA sas las s.length i ss ls ∧ RightS n g (ss i) ∧ FreshL ns (ss i) ∧ SmallL i ss ls
      have J0 : J 0 (upd (upd H4 SA (.lst [.ref S])) LA (.lst [])) := by
        refine ⟨se4.trans (SameE.of sm5), po4.same sm5, ns0, [S], [], fun _ => s, fun _ => [], sm5 _ _ hD4, ⟨by rw [upd_ne nSL]; exact upd_same, upd_same, ⟨rfl, fun j hj => ?_⟩, Holds.nil, fun b _ => rfl, fun b hb => absurd hb (by omega)⟩, R, FL0, fun b _ => R.small n32, fun b hb => absurd hb (by omega)⟩
        have : j = 0 := by omega
        subst this
        exact sm5 _ _ (se4 _ _ hS nSpp)
      refine ⟨_, rfl, bt, rfl, by omega, by omega, for_range (n := bt.toNat) (lo := 0) (fun i σ Hc => (∃ v9, σ = [some (.ref p), some (.ref O), some (.ref a), some (.ref S), some (.int 30), some (.ref D), some (.int bt), some (.ref SA), some (.ref LA), v9]) ∧ J i Hc) ⟨⟨_, rfl⟩, J0⟩ ?_ ?_⟩
      · rintro i σ Hc hi ⟨⟨v9, rfl⟩, seC, poC, ns, sas, las, ss, ls, hDC, LG, RC, FC, SC⟩
        obtain ⟨g1, g2, g3, g4, g5, g6⟩ := LG
        have LG : LogAt Hc SA LA sas las s.length i ss ls := ⟨g1, g2, g3, g4, g5, g6⟩
        have sli : (ss i).length = s.length := g5 i (Nat.le_refl _)
        have hOC : OutsAt Hc O as n g := hO.sameE seC hp offp
        have haC := seC _ _ ha nap
        refine ⟨_, rfl, .inl ⟨rfl, _, SqL.of g2⟩, _, rfl, _, rfl, _, rfl, _, rfl, SA, _, _, _, rfl, rfl, SqL.of g1, last_ref g3.1, p, O, sas.getD i 0, as, n, g, ss i, rfl, poC, hOC, offp, G, n32, g3.2 i (by omega), by omega, RC, fun r gs H1 h1 Hd se1 po1 => ?_⟩
        have gl : gs.length = s.length := by rw [Hd.len]; exact sli
        have hLA1 : H1 LA = some (.lst (las.map V.ref)) := se1 _ _ g2 nLp
        refine ⟨LA, _, _, rfl, rfl, hLA1, by rw [List.length_map, g4.1]; exact Nat.lt_of_lt_of_le (show i < 31 by omega) (by decide), ?_⟩
        have seH1 : SameE p H H1 := seC.trans se1
        have kt1 : KTu Hc H1 := KTu.ofE se1 poC
        have se2 : SameE p H (upd H1 LA (.lst (las.map V.ref ++ [.ref r]))) := sameE_put seH1 hLAH
        have kt2 : KTu Hc (upd H1 LA (.lst (las.map V.ref ++ [.ref r]))) := kt1.trans (KTu.upd hLA1)
        have po2 : PotAt (upd H1 LA (.lst (las.map V.ref ++ [.ref r]))) p := by obtain ⟨u, v, e, z⟩ := po1; exact ⟨u, v, by rw [upd_ne nLp.symm]; exact e, z⟩
        have hS2 : (upd H1 LA (.lst (las.map V.ref ++ [.ref r]))) SA = some (.lst (sas.map V.ref)) := by rw [upd_ne nSL]; exact se1 _ _ g1 nSp
        have hL2 : (upd H1 LA (.lst (las.map V.ref ++ [.ref r]))) LA = some (.lst ((las ++ [r]).map V.ref)) := by rw [upd_same, List.map_append]; rfl
        have hr2' : (upd H1 LA (.lst (las.map V.ref ++ [.ref r]))) r = some (.tup (SV gs)) := KTu.upd hLA1 _ _ h1
        have hD2 : (upd H1 LA (.lst (las.map V.ref ++ [.ref r]))) D = some (.lst (HV ns)) := by rw [upd_ne nDL]; exact se1 _ _ hDC nDp
        revert se2 kt2 po2 hS2 hL2 hr2' hD2
        generalize upd H1 LA (.lst (las.map V.ref ++ [.ref r])) = H2
        intro se2 kt2 po2 hS2 hL2 hr2' hD2
        have ll : (las ++ [r]).length = i + 1 := by rw [List.length_append, g4.1]; rfl
        have lastr : atI ((las ++ [r]).map V.ref) (-1) = some (.ref r) := by rw [last_ref ll, getD_snoc g4.1, if_pos rfl]
        refine ⟨_, rfl, .inl ⟨rfl, _, SqL.of hS2⟩, _, rfl, _, rfl, _, rfl, SA, _, _, _, rfl, rfl, SqL.of hS2, last_ref g3.1, _, rfl, _, rfl, LA, _, _, _, rfl, rfl, SqL.of hL2, lastr, a, r, _, hs, gs, rfl, kt2 _ _ haC, hr2', by omega, by omega, fun r2 H3 sm3 h3 => ?_⟩
        have hS3 := sm3 _ _ hS2
        refine ⟨SA, _, _, rfl, rfl, hS3, by rw [List.length_map, g3.1]; exact Nat.lt_of_lt_of_le (show i + 1 < 32 by omega) (by decide), ?_⟩
        have se4' : SameE p H (upd H3 SA (.lst (sas.map V.ref ++ [.ref r2]))) := sameE_put (se2.trans (SameE.of sm3)) hSAH
        have kt4 : KTu Hc (upd H3 SA (.lst (sas.map V.ref ++ [.ref r2]))) := (kt2.trans (KTu.of sm3)).trans (KTu.upd hS3)
        have po4' : PotAt (upd H3 SA (.lst (sas.map V.ref ++ [.ref r2]))) p := by obtain ⟨u, v, e, z⟩ := po2.same sm3; exact ⟨u, v, by rw [upd_ne nSp.symm]; exact e, z⟩
        have hS4 : (upd H3 SA (.lst (sas.map V.ref ++ [.ref r2]))) SA = some (.lst ((sas ++ [r2]).map V.ref)) := by rw [upd_same, List.map_append]; rfl
        have hL4 : (upd H3 SA (.lst (sas.map V.ref ++ [.ref r2]))) LA = some (.lst ((las ++ [r]).map V.ref)) := by rw [upd_ne nSL.symm]; exact sm3 _ _ hL2
        have hr4 : (upd H3 SA (.lst (sas.map V.ref ++ [.ref r2]))) r = some (.tup (SV gs)) := KTu.upd hS3 _ _ (sm3 _ _ hr2')
        have hr24 : (upd H3 SA (.lst (sas.map V.ref ++ [.ref r2]))) r2 = some (.tup (SV (bh hs gs))) := KTu.upd hS3 _ _ h3
        have hD4' : (upd H3 SA (.lst (sas.map V.ref ++ [.ref r2]))) D = some (.lst (HV ns)) := by rw [upd_ne nDS]; exact sm3 _ _ hD2
        revert se4' kt4 po4' hS4 hL4 hr4 hr24 hD4'
        generalize upd H3 SA (.lst (sas.map V.ref ++ [.ref r2])) = H5
        intro se5 kt5 po5 hS5 hL5 hr5 hr25 hD5
        have mv := Hd.moves G RC
        have R5 : RightS n g (bh hs gs) := Hd.right G RC bh_len (fun i => bh_at i)
        have F5 : FreshL ns (bh hs gs) := FC.behind Hd
        have Sg : SmallS gs := (Hd.right G RC rfl (fun i => .inr rfl)).small n32
        have bl : (bh hs gs).length = s.length := by rw [bh_len]; exact gl
        have J5 : J (i + 1) H5 := ⟨se5, po5, ns, _, _, _, _, hD5, LG.push kt5 hS5 hL5 hr5 hr25 bl mv, by rw [setF_at]; exact R5, by rw [setF_at]; exact F5, SC.push (R5.small n32) Sg⟩
        refine ⟨_, rfl, _, _, rfl, rfl, _, rfl, _, _, rfl, rfl, _, rfl, ?_⟩
        refine ite2 (fun e1 => ?_) (fun e1 => ite_f ⟨⟨_, rfl⟩, J5⟩)
        refine ⟨_, rfl, p, 2, rfl, by decide, by decide, po5, fun d6 a6 b6 p6 q6 r6 s6 t6 => ⟨rfl, _, rfl, ?_⟩⟩
        have kt6 : KTu H5 (upd H5 p (.lst [.int a6, .int b6])) := KTu.ofE SameE.upd po5
        have se6 : SameE p H5 (upd H5 p (.lst [.int a6, .int b6])) := SameE.upd
        have po6 : PotAt (upd H5 p (.lst [.int a6, .int b6])) p := PotAt.upd r6 s6 t6
        revert kt6 se6 po6
        generalize upd H5 p (.lst [.int a6, .int b6]) = H6
        intro kt6 se6 po6
        have hS6 := se6 _ _ hS5 nSp
        have hL6 := se6 _ _ hL5 nLp
        have hD6 := se6 _ _ hD5 nDp
        refine ite2 (fun e2 => ?_) (fun e2 => ⟨⟨_, rfl⟩, se5.trans se6, po6, ns, _, _, _, _, hD6, LG.push (kt5.trans kt6) hS6 hL6 (kt6 _ _ hr5) (kt6 _ _ hr25) bl mv, by rw [setF_at]; exact R5, by rw [setF_at]; exact F5, SC.push (R5.small n32) Sg⟩)
        have ll2 : (sas ++ [r2]).length = i + 1 + 1 := by rw [List.length_append, g3.1]; rfl
        have lastr2 : atI ((sas ++ [r2]).map V.ref) (-1) = some (.ref r2) := by rw [last_ref ll2, getD_snoc g3.1, if_pos rfl]
        have hO6 : OutsAt H6 O as n g := hO.sameE (se5.trans se6) hp offp
        refine ⟨_, rfl, _, rfl, _, rfl, _, rfl, _, rfl, SA, _, _, _, rfl, rfl, SqL.of hS6, lastr2, _, rfl, p, O, a, r2, D, as, n, g, hs, bh hs gs, ns, rfl, po6, hO6, offp, hO.offN hD, nDp, n2, n32, kt6 _ _ (kt5 _ _ haC), kt6 _ _ hr25, hD6, by omega, by omega, R5, F5, fun r3 s' ns' H7 h7 l7 R7 F7 hD7 sf7 po7 => ?_⟩
        have hS7 := sf7 _ _ hS6 nSp nDS.symm
        have hL7 := sf7 _ _ hL6 nLp nDL.symm
        have kt7 : KTu H6 H7 := fun b xs e => sf7 _ _ e (by rintro rfl; obtain ⟨u, v, z, _⟩ := po6; rw [z] at e; cases e) (by rintro rfl; rw [hD6] at e; cases e)
        have se7 : SameE p H H7 := fun b o e hne => sf7 _ _ (se6 _ _ (se5 _ _ e hne) hne) hne (ne_of_none e hD)
        refine ⟨_, rfl, _, rfl, SA, _, _, i + 1, rfl, rfl, hS7, by rw [List.length_map, ll2]; exact ixN_last, ?_⟩
        have eset : ((sas ++ [r2]).map V.ref).set (i + 1) (.ref r3) = (sas ++ [r3]).map V.ref := by
          rw [List.map_append, List.map_append, List.set_append_right _ _ (by rw [List.length_map, g3.1]; exact Nat.le_refl _), List.length_map, g3.1, Nat.sub_self]
          rfl
        rw [eset]
        refine ⟨⟨_, rfl⟩, sameE_put se7 hSAH, ?_, ns', _, _, _, _, by rw [upd_ne nDS]; exact hD7, LG.push (((kt5.trans kt6).trans kt7).trans (KTu.upd hS7)) upd_same (by rw [upd_ne nSL.symm]; exact hL7) (KTu.upd hS7 _ _ (kt7 _ _ (kt6 _ _ hr5))) (KTu.upd hS7 _ _ h7) (by omega) mv, by rw [setF_at]; exact R7, by rw [setF_at]; exact F7, SC.push (R7.small n32) Sg⟩
        obtain ⟨u, v, e, z⟩ := po7
        exact ⟨u, v, by rw [upd_ne nSp.symm]; exact e, z⟩
      · rintro σ Hc ⟨⟨v9, rfl⟩, seC, poC, ns, sas, las, ss, ls, hDC, LG, RC, FC, SC⟩
        refine ⟨_, rfl, _, rfl, by show 2 ≤ sizeLine; decide, fun t ht => ?_⟩
        obtain ⟨g1, g2, g3, g4, g5, g6⟩ := LG
        have sn := same_new (o := .tup [.ref SA, .ref LA]) ht
        exact q t SA LA sas las bt.toNat ss ls _ upd_same ⟨sn _ _ g1, sn _ _ g2, g3.mono fun j _ e => sn _ _ e, g4.mono fun j _ e => sn _ _ e, g5, g6⟩ SC (by omega) (seC.trans (SameE.of sn)) (poC.same sn) hSAH hLAH
end
end K61

set_option maxHeartbeats 1500000
namespace K61
open PySem L2
abbrev sWhole : Stmt := top 1
abbrev sWithin : Stmt := top 2
abbrev sHanded : Stmt := top 4
abbrev sSent : Stmt := top 7
theorem kit_int_int {K : PySem.W.Frag} : PySem.W.kitOne K (.type "int") (.type "int") = some true := by kernel_rfl
theorem kit_int_bool {K : PySem.W.Frag} : PySem.W.kitOne K (.type "int") (.type "bool") = some false := by kernel_rfl
theorem kit_bool_bool {K : PySem.W.Frag} : PySem.W.kitOne K (.type "bool") (.type "bool") = some true := by kernel_rfl
theorem kit_list_list {K : PySem.W.Frag} : PySem.W.kitOne K (.type "list") (.type "list") = some true := by kernel_rfl
def inR (lo hi i : Int) : Bool := decide (lo ≤ i) && decide (i ≤ hi)
theorem inR_iff {lo hi i : Int} : inR lo hi i = true ↔ lo ≤ i ∧ i ≤ hi := by unfold inR; rw [Bool.and_eq_true, decide_eq_true_iff, decide_eq_true_iff]
def spWhole : Sp := fun vs H Q _ => ∃ i : Int, vs = [.int i] ∧ Q (.bl true) H
def spWithin : Sp := fun vs H Q _ => ∃ i lo hi : Int, vs = [.int i, .int lo, .int hi] ∧ Q (.bl (inR lo hi i)) H
/-- is letter i handed on at beat b -/
def handedB (m L : Nat) (ss : Nat → List (Option Nat)) (i b : Int) : Bool := inR 0 ((L : Int) - 1) b && (inR 0 ((m : Int) - 1) i && ((ss b.toNat).getD i.toNat none).isSome)
def spHanded : Sp := fun vs H Q _ => ∃ (SA LA : Addr) (sas las : List Addr) (m L : Nat) (ss ls : Nat → List (Option Nat)) (i b : Int), vs = [.ref SA, .ref LA, .int i, .int b] ∧ LogAt H SA LA sas las m L ss ls ∧ Q (.bl (handedB m L ss i b)) H
/-- .. from house h -/
def sentB (m L : Nat) (ss : Nat → List (Option Nat)) (i b : Int) (h : Nat) : Bool := handedB m L ss i b && decide ((ss b.toNat).getD i.toNat none = some h)
def spSent : Sp := fun vs H Q _ => ∃ (SA LA : Addr) (sas las : List Addr) (m L : Nat) (ss ls : Nat → List (Option Nat)) (i b : Int) (h : Nat), vs = [.ref SA, .ref LA, .int i, .int b, .int h] ∧ LogAt H SA LA sas las m L ss ls ∧ Q (.bl (sentB m L ss i b h)) H
theorem ref_at {as : List Addr} {k : Nat} (h : k < as.length) : atI (as.map V.ref) (k : Int) = some (.ref (as.getD k 0)) := by
  refine atI_nat ?_
  rw [List.getElem?_map, List.getElem?_eq_getElem h, List.getD_eq_getElem?_getD, List.getElem?_eq_getElem h]
  rfl
theorem handed_iff {m L : Nat} {ss : Nat → List (Option Nat)} {i b : Int} (h : handedB m L ss i b = true) : ∃ (j c : Nat) (x : Nat), i = j ∧ b = c ∧ j < m ∧ c < L ∧ (ss c).getD j none = some x := by
  unfold handedB at h
  rw [Bool.and_eq_true, Bool.and_eq_true, inR_iff, inR_iff] at h
  obtain ⟨h1, h2, h3⟩ := h
  obtain ⟨x, hx⟩ := Option.isSome_iff_exists.mp h3
  exact ⟨i.toNat, b.toNat, x, by omega, by omega, by omega, by omega, hx⟩
theorem handed_of {m L : Nat} {ss : Nat → List (Option Nat)} {j c x : Nat} (hj : j < m) (hc : c < L) (h : (ss c).getD j none = some x) : handedB m L ss j c = true := by
  unfold handedB
  rw [Bool.and_eq_true, Bool.and_eq_true, inR_iff, inR_iff]
  refine ⟨⟨by omega, by omega⟩, ⟨by omega, by omega⟩, ?_⟩
  rw [Int.toNat_natCast, Int.toNat_natCast, h]; rfl
section
variable {P : Program} {w : World} {K : PySem.W.Frag} {mg : Str → Option Value} {base : Heap}
theorem scWhole : FnScope ["thing"] ["thing"] (defScope sWhole) := ⟨rfl, rfl, rfl, by decide +kernel, rfl, by decide +kernel, by decide +kernel⟩
theorem ok_whole {f : Addr} {fd : FuncData} (F : Fun K "is_whole" "is_whole" sWhole f fd) (B : Bl mg) : FnOk P w K mg base CX0 1 f fd ["thing"] spWhole := by
  refine F.ok scWhole (fun vs H Q E h => ?_) (fun cdv A outer s H vs Q E hr h => ?_)
  · obtain ⟨i, rfl, _⟩ := h
    rfl
  · obtain ⟨i, rfl, k⟩ := h
    refine ⟨_, pss_one (ps_ret (pe_and (pe_callB call_isi (by rfl) B.isi PyProof.Rows.boot_isinstance (pa_cons (pv 0) (pa_cons (pe_bltn (v := .ty "int") rfl B.int PyProof.Rows.boot_int rfl) pa_nil)))
      (pe_one (pe_not (pe_callB call_isi (by rfl) B.isi PyProof.Rows.boot_isinstance (pa_cons (pv 0) (pa_cons (pe_bltn (v := .ty "bool") rfl B.bool PyProof.Rows.boot_bool rfl) pa_nil))))))), ?_⟩
    refine ⟨_, rfl, _, _, _, .type "int", true, rfl, ⟨rfl, kit_int_int⟩, .of (.int _), true, rfl, ?_⟩
    exact ⟨_, rfl, _, _, _, .type "int", false, rfl, ⟨rfl, kit_int_bool⟩, .of (.int _), false, rfl, k⟩
theorem scWithin : FnScope ["thing", "least", "most"] ["thing", "least", "most"] (defScope sWithin) := ⟨rfl, rfl, rfl, by decide +kernel, rfl, by decide +kernel, by decide +kernel⟩
theorem ok_within {f : Addr} {fd : FuncData} (F : Fun K "is_whole_within" "is_whole_within" sWithin f fd) (W : Cal P w K mg base CX0 1 "is_whole" ["thing"] spWhole) : FnOk P w K mg base CX0 2 f fd ["thing", "least", "most"] spWithin := by
  refine F.ok scWithin (fun vs H Q E h => ?_) (fun cdv A outer s H vs Q E hr h => ?_)
  · obtain ⟨i, lo, hi, rfl, _⟩ := h
    rfl
  · obtain ⟨i, lo, hi, rfl, k⟩ := h
    refine ⟨_, pss_one (ps_ret (pe_and (pe_cal W hr pass0 (pa_cons (pv 0) pa_nil)) (pe_one (pe_chain op_le op_le (pv 1) (pv 0) (pv 2))))), ?_⟩
    refine ⟨_, rfl, i, rfl, true, rfl, _, rfl, _, rfl, _, _, rfl, rfl, _, rfl, ?_⟩
    show if decide (lo ≤ i) = true then _ else _
    have k' : Q (.bl (decide (lo ≤ i) && decide (i ≤ hi))) H := k
    by_cases h : lo ≤ i
    · rw [decide_eq_true h] at k' ⊢
      exact ⟨_, rfl, _, _, rfl, rfl, k'⟩
    · rw [decide_eq_false h] at k' ⊢
      exact k'
theorem scHanded : FnScope ["stands", "log", "letter", "beat"] ["stands", "log", "letter", "beat"] (defScope sHanded) := ⟨rfl, rfl, rfl, by decide +kernel, rfl, by decide +kernel, by decide +kernel⟩
theorem ok_handed {f : Addr} {fd : FuncData} (F : Fun K "is_handed_on" "is_handed_on" sHanded f fd) (B : Bl mg) (W : Cal P w K mg base CX0 2 "is_whole_within" ["thing", "least", "most"] spWithin) : FnOk P w K mg base CX0 3 f fd ["stands", "log", "letter", "beat"] spHanded := by
  refine F.ok scHanded (fun vs H Q E h => ?_) (fun cdv A outer s H vs Q E hr h => ?_)
  · obtain ⟨SA, LA, sas, las, m, L, ss, ls, i, b, rfl, _⟩ := h
    rfl
  · obtain ⟨SA, LA, sas, las, m, L, ss, ls, i, b, rfl, LG, k⟩ := h
    obtain ⟨g1, g2, g3, g4, g5, g6⟩ := LG
    refine' ⟨_, pss_cons (ps_if (pt_not (pt_val (pe_cal W hr pass0 (pa_cons (pv 3) (pa_cons pe_int (pa_cons (pe_op op_sub (pe_callB call_len_seq (by rfl) B.len PySem.boot_len (pa_cons (pv 1) pa_nil)) pe_int) pa_nil)))))) (pss_one (ps_ret pe_bl)) pss_nil)
      (pss_one (ps_ret (pe_and (pe_cal W hr pass0 (pa_cons (pv 2) (pa_cons pe_int (pa_cons (pe_op op_sub (pe_callB call_len_seq (by rfl) B.len PySem.boot_len (pa_cons (pe_ix ix_list (pv 0) (pv 3) (fun _ _ => rfl)) pa_nil)) pe_int) pa_nil))))
        (pe_one (pe_cmp (pc_notN (pe_ix ix_tup (pe_ix ix_list (pv 0) (pv 3) (fun _ _ => rfl)) (pv 2) (fun _ _ => rfl)))))))), ?_⟩
    refine ⟨_, rfl, _, rfl, LA, _, rfl, .inl (SqL.of g2), _, _, rfl, rfl, b, 0, _, rfl, _, rfl, ?_⟩
    have ell : ((((las.map V.ref).length : Nat) : Int) - 1) = (L : Int) - 1 := by rw [List.length_map, g4.1]
    unfold handedB at k
    refine ite2 (fun e => ?_) (fun e => ?_)
    · have e' : inR 0 ((L : Int) - 1) b = false := by
        rw [← ell]; simpa using e
      rw [e', Bool.false_and] at k
      exact k
    · have e' : inR 0 ((L : Int) - 1) b = true := by
        rw [← ell]; simpa using e
      rw [e', Bool.true_and] at k
      obtain ⟨b0, b1⟩ := inR_iff.mp e'
      obtain ⟨c, rfl⟩ : ∃ c : Nat, b = c := ⟨b.toNat, by omega⟩
      have hc : c < L := by omega
      have sl : (ss c).length = m := g5 c (by omega)
      have hS := g3.2 c (by omega)
      have eml : ((((SV (ss c)).length : Nat) : Int) - 1) = (m : Int) - 1 := by rw [List.length_map, sl]
      rw [Int.toNat_natCast] at k
      refine ⟨_, rfl, _, rfl, _, rfl, SA, _, _, _, rfl, rfl, SqL.of g1, ref_at (by rw [g3.1]; omega), sas.getD c 0, _, rfl, .inr (SqT.of hS), _, _, rfl, rfl, i, 0, _, rfl, _, rfl, ?_⟩
      refine ite2 (fun e2 => ?_) (fun e2 => ?_)
      · have e3 : inR 0 ((m : Int) - 1) i = true := by rw [← eml]; exact e2
        rw [e3, Bool.true_and] at k
        obtain ⟨i0, i1⟩ := inR_iff.mp e3
        obtain ⟨j, rfl⟩ : ∃ j : Nat, i = j := ⟨i.toNat, by omega⟩
        rw [Int.toNat_natCast] at k
        refine ⟨_, rfl, _, rfl, SA, _, _, _, rfl, rfl, SqL.of g1, ref_at (by rw [g3.1]; omega), _, rfl, sas.getD c 0, _, _, _, rfl, rfl, SqT.of hS, sv_at (by omega), ?_⟩
        have ee : (!decide (stV ((ss c).getD j none) = V.non)) = ((ss c).getD j none).isSome := by
          cases (ss c).getD j none with
          | none => rw [decide_eq_true (show stV none = V.non from rfl)]; rfl
          | some x => rw [decide_eq_false (show ¬ stV (some x) = V.non from fun z => by cases z)]; rfl
        show Q (V.bl (!decide (stV ((ss c).getD j none) = V.non))) H
        rw [ee]
        exact k
      · have e3 : inR 0 ((m : Int) - 1) i = false := by rw [← eml]; simpa using e2
        rw [e3, Bool.false_and] at k
        exact k
theorem scSent : FnScope ["stands", "log", "letter", "beat", "house"] ["stands", "log", "letter", "beat", "house"] (defScope sSent) := ⟨rfl, rfl, rfl, by decide +kernel, rfl, by decide +kernel, by decide +kernel⟩
theorem ok_sent {f : Addr} {fd : FuncData} (F : Fun K "is_sent_from" "is_sent_from" sSent f fd) (HO : Cal P w K mg base CX0 3 "is_handed_on" ["stands", "log", "letter", "beat"] spHanded) : FnOk P w K mg base CX0 4 f fd ["stands", "log", "letter", "beat", "house"] spSent := by
  refine F.ok scSent (fun vs H Q E h => ?_) (fun cdv A outer s H vs Q E hr h => ?_)
  · obtain ⟨SA, LA, sas, las, m, L, ss, ls, i, b, hh, rfl, _⟩ := h
    rfl
  · obtain ⟨SA, LA, sas, las, m, L, ss, ls, i, b, hh, rfl, LG, k⟩ := h
    obtain ⟨g1, g2, g3, g4, g5, g6⟩ := LG
    refine' ⟨_, pss_cons (ps_if (pt_not (pt_val (pe_cal HO hr pass0 (pa_cons (pv 0) (pa_cons (pv 1) (pa_cons (pv 2) (pa_cons (pv 3) pa_nil))))))) (pss_one (ps_ret pe_bl)) pss_nil)
      (pss_one (ps_ret (pe_and (pe_cmpR op_eq (pe_ix ix_tup (pe_ix ix_list (pv 0) (pv 3) (fun _ _ => rfl)) (pv 2) (fun _ _ => rfl)) (pv 4) (nomark _))
        (pe_one (pe_cmpR op_ne (pe_ix ix_tup (pe_ix ix_list (pv 1) (pv 3) (fun _ _ => rfl)) (pv 2) (fun _ _ => rfl)) (pv 4) (nomark _)))))), ?_⟩
    refine ⟨_, rfl, _, rfl, _, rfl, _, rfl, SA, LA, sas, las, m, L, ss, ls, i, b, rfl, ⟨g1, g2, g3, g4, g5, g6⟩, _, rfl, ?_⟩
    unfold sentB at k
    refine ite2 (fun e => ?_) (fun e => ?_)
    · have e' : handedB m L ss i b = false := by simpa using e
      rw [e', Bool.false_and] at k
      exact k
    · have e' : handedB m L ss i b = true := by simpa using e
      rw [e', Bool.true_and] at k
      obtain ⟨j, c, x, rfl, rfl, hj, hc, hx⟩ := handed_iff e'
      rw [Int.toNat_natCast, Int.toNat_natCast, hx] at k
      have sl : (ss c).length = m := g5 c (by omega)
      have at1 : atI (SV (ss c)) (j : Int) = some (.int (x : Int)) := by rw [sv_at (by omega), hx]; rfl
      obtain ⟨mv1, mv2, mv3⟩ := g6 c hc
      obtain ⟨o, ho, hne⟩ := mv3 j x hx
      have at2 : atI (SV (ls c)) (j : Int) = some (.int (o : Int)) := by rw [sv_at (by omega), ho]; rfl
      refine ⟨_, rfl, _, rfl, SA, _, _, _, rfl, rfl, SqL.of g1, ref_at (by rw [g3.1]; omega), _, rfl, sas.getD c 0, _, _, _, rfl, rfl, SqT.of (g3.2 c (by omega)), at1, _, rfl, rfl, _, rfl, ?_⟩
      refine ite2 (fun e2 => ?_) (fun e2 => ?_)
      · have e3 : x = hh := by have := V.int.inj (of_decide_eq_true e2); omega
        refine ⟨_, rfl, _, rfl, LA, _, _, _, rfl, rfl, SqL.of g2, ref_at (by rw [g4.1]; omega), _, rfl, las.getD c 0, _, _, _, rfl, rfl, SqT.of (g4.2 c hc), at2, _, rfl, rfl, ?_⟩
        rw [decide_eq_true (show some x = some hh by rw [e3])] at k
        rw [decide_eq_false (show ¬ V.int (o : Int) = V.int (hh : Int) from fun z => hne (by have := V.int.inj z; omega))]
        exact k
      · have e3 : ¬ some x = some hh := fun z => e2 (decide_eq_true (by cases z; rfl))
        rw [decide_eq_false e3] at k
        exact k
end
end K61

set_option maxHeartbeats 1500000
namespace K61
open PySem L2
abbrev sChain : Stmt := top 6
abbrev sChainL : Stmt := top 21
/-! ### chains -/
def walkS (m L : Nat) (ss ls : Nat → List (Option Nat)) (b h0 : Nat) (zs : List Int) : Nat → Option Nat
  | 0 => some h0
  | k + 1 => match walkS m L ss ls b h0 zs k with
    | none => none
    | some h => if sentB m L ss (zs.getD k 0) ((b + k : Nat) : Int) h = true then some (((ls (b + k)).getD (zs.getD k 0).toNat none).getD 0) else none
theorem walk_some {m L : Nat} {ss ls : Nat → List (Option Nat)} {b h0 : Nat} {zs : List Int} {k h : Nat} (e : walkS m L ss ls b h0 zs k = some h) (s : sentB m L ss (zs.getD k 0) ((b + k : Nat) : Int) h = true) : walkS m L ss ls b h0 zs (k + 1) = some (((ls (b + k)).getD (zs.getD k 0).toNat none).getD 0) := by
  unfold walkS
  rw [e]
  exact if_pos s
theorem walk_none {m L : Nat} {ss ls : Nat → List (Option Nat)} {b h0 : Nat} {zs : List Int} {k h : Nat} (e : walkS m L ss ls b h0 zs k = some h) (s : ¬ sentB m L ss (zs.getD k 0) ((b + k : Nat) : Int) h = true) : ∀ j, walkS m L ss ls b h0 zs (k + 1 + j) = none
  | 0 => by
    show walkS m L ss ls b h0 zs (k + 1) = none
    unfold walkS
    rw [e]
    exact if_neg s
  | j + 1 => by
    have ih := walk_none e s j
    show walkS m L ss ls b h0 zs (k + 1 + j + 1) = none
    unfold walkS
    rw [ih]
theorem walk_sent {m L : Nat} {ss ls : Nat → List (Option Nat)} {b h0 : Nat} {zs : List Int} {k h : Nat} (e : walkS m L ss ls b h0 zs (k + 1) = some h) : ∃ h', sentB m L ss (zs.getD k 0) ((b + k : Nat) : Int) h' = true := by
  unfold walkS at e
  split at e
  · cases e
  · rename_i h' _
    by_cases s : sentB m L ss (zs.getD k 0) ((b + k : Nat) : Int) h' = true
    · exact ⟨h', s⟩
    · rw [if_neg s] at e; cases e
def endB (hs : List Int) (zs : List Int) : Option Nat → Bool
  | none => false
  | some h => decide ((h : Int) = hs.getD (zs.getD (zs.length - 1) 0).toNat 0)
def chainB (hs : List Int) (m L : Nat) (ss ls : Nat → List (Option Nat)) (i b : Int) (zs : List Int) : Bool :=
  handedB m L ss i b && (!zs.isEmpty && (!decide (zs.getD 0 0 = i) && endB hs zs (walkS m L ss ls b.toNat (((ss b.toNat).getD i.toNat none).getD 0) zs zs.length)))
theorem LogAt.same {H H' : Hp} {SA LA : Addr} {sas las : List Addr} {m L : Nat} {ss ls : Nat → List (Option Nat)} (h : LogAt H SA LA sas las m L ss ls) (s : Same H H') : LogAt H' SA LA sas las m L ss ls := by
  obtain ⟨g1, g2, g3, g4, g5, g6⟩ := h
  exact ⟨s _ _ g1, s _ _ g2, g3.mono fun j _ e => s _ _ e, g4.mono fun j _ e => s _ _ e, g5, g6⟩
theorem sent_iff {m L : Nat} {ss : Nat → List (Option Nat)} {i b : Int} {h : Nat} (s : sentB m L ss i b h = true) : ∃ (j c : Nat), i = j ∧ b = c ∧ j < m ∧ c < L ∧ (ss c).getD j none = some h := by
  unfold sentB at s
  rw [Bool.and_eq_true, decide_eq_true_iff] at s
  obtain ⟨j, c, x, rfl, rfl, h1, h2, h3⟩ := handed_iff s.1
  have := s.2
  rw [Int.toNat_natCast, Int.toNat_natCast] at this
  exact ⟨j, c, rfl, rfl, h1, h2, this⟩
theorem sent_of {m L : Nat} {ss : Nat → List (Option Nat)} {j c h : Nat} (hj : j < m) (hc : c < L) (e : (ss c).getD j none = some h) : sentB m L ss j c h = true := by
  unfold sentB
  rw [handed_of hj hc e, Bool.true_and, Int.toNat_natCast, Int.toNat_natCast]
  exact decide_eq_true e
theorem hv_last {zs : List Int} (h : zs ≠ []) : atI (HV zs) (-1) = some (.int (zs.getD (zs.length - 1) 0)) := by
  rcases List.eq_nil_or_concat zs with e | ⟨l, x, e⟩
  · exact absurd e h
  · subst e
    rw [List.concat_eq_append]
    have : (l ++ [x]).getD ((l ++ [x]).length - 1) 0 = x := by
      rw [List.getD_eq_getElem?_getD, List.length_append]
      simp
    rw [this]
    unfold HV
    rw [List.map_append]
    exact atI_last _ _
theorem allEq_nil {zs : List Int} : allEq eqV (HV zs) [] = zs.isEmpty := by cases zs <;> rfl
section
variable {P : Program} {w : World} {K : PySem.W.Frag} {mg : Str → Option Value} {base : Heap}
theorem scChain : FnScope ["homes", "stands", "log", "letter", "beat", "thing", "house", "later", "one"] ["homes", "stands", "log", "letter", "beat", "thing"] (defScope sChain) := ⟨rfl, rfl, rfl, by decide +kernel, rfl, by decide +kernel, by decide +kernel⟩
def spChain : Sp := fun vs H Q _ => ∃ (a SA LA Z : Addr) (sas las : List Addr) (m L : Nat) (ss ls : Nat → List (Option Nat)) (hs zs : List Int) (i b : Int), vs = [.ref a, .ref SA, .ref LA, .int i, .int b, .ref Z] ∧ H a = some (.tup (HV hs)) ∧ hs.length = m ∧ LogAt H SA LA sas las m L ss ls ∧ H Z = some (.lst (HV zs)) ∧
  ∀ H', Same H H' → Q (.bl (chainB hs m L ss ls i b zs)) H'
theorem ok_chain {f : Addr} {fd : FuncData} (F : Fun K "is_chain" "is_chain" sChain f fd) (B : Bl mg) (HO : Cal P w K mg base CX0 3 "is_handed_on" ["stands", "log", "letter", "beat"] spHanded) (ST : Cal P w K mg base CX0 4 "is_sent_from" ["stands", "log", "letter", "beat", "house"] spSent) :
    FnOk P w K mg base CX0 5 f fd ["homes", "stands", "log", "letter", "beat", "thing"] spChain := by
  refine F.ok scChain (fun vs H Q E h => ?_) (fun cdv A outer s H vs Q E hr h => ?_)
  · obtain ⟨a, SA, LA, Z, sas, las, m, L, ss, ls, hs, zs, i, b, rfl, _⟩ := h
    rfl
  · obtain ⟨a, SA, LA, Z, sas, las, m, L, ss, ls, hs, zs, i, b, rfl, ha, hl, LG, hZ, q⟩ := h
    have hr3 : Room 3 (A.deeper (PyProof.Rows.envOfC "is_chain" (defScope sChain) s.heap.objs.size f cdv)) := hr.mono (by decide)
    refine' ⟨_, pss_cons (ps_if (PW.pt (pw_or (pt_not (pt_val (pe_cal HO hr3 pass0 (pa_cons (pv 1) (pa_cons (pv 2) (pa_cons (pv 3) (pa_cons (pv 4) pa_nil)))))))
          (pw_or (pt_not (pt_val (pe_callB call_isi (by rfl) B.isi PyProof.Rows.boot_isinstance (pa_cons (pv 5) (pa_cons (pe_bltn (v := .ty "list") rfl B.lst PyProof.Rows.boot_list rfl) pa_nil)))))
          (pw_or1 (pt_cmpR op_eq (pe_callB call_len_seq (by rfl) B.len PySem.boot_len (pa_cons (pv 5) pa_nil)) pe_int (nomark _)))))) (pss_one (ps_ret pe_bl)) pss_nil)
      (pss_cons (ps_set (i := 6) scChain.nd rfl (Or.inl rfl) (pe_ix ix_tup (pe_ix ix_list (pv 1) (pv 4) (fun _ _ => rfl)) (pv 3) (fun _ _ => rfl)))
      (pss_cons (ps_for PassesOwn.never rfl (pi_enum rfl B.enum (pa_cons (pv 5) pa_nil)) (pg_tup (n := 2) rfl (pgs_cons (pg_name (i := 7) scChain.nd rfl (Or.inl rfl)) (pgs_cons (pg_name (i := 8) scChain.nd rfl (Or.inl rfl)) pgs_nil)))
        (pss_cons (ps_if (pt_not (pt_val (pe_cal ST hr pass0 (pa_cons (pv 1) (pa_cons (pv 2) (pa_cons (pv 8) (pa_cons (pe_op op_add (pv 4) (pv 7)) (pa_cons (pv 6) pa_nil)))))))) (pss_one (ps_ret pe_bl)) pss_nil)
        (pss_one (ps_set (i := 6) scChain.nd rfl (Or.inl rfl) (pe_ix ix_tup (pe_ix ix_list (pv 2) (pe_op op_add (pv 4) (pv 7)) (fun _ _ => rfl)) (pv 8) (fun _ _ => rfl))))))
      (pss_one (ps_ret (pe_and (pe_cmpR op_ne (pe_ix ix_list (pv 5) pe_int (fun _ _ => rfl)) (pv 3) (nomark _))
        (pe_one (pe_cmpR op_eq (pv 6) (pe_ix ix_tup (pv 0) (pe_ix ix_list (pv 5) (pe_un un_neg pe_int) (fun _ _ => rfl)) (fun _ _ => rfl)) (nomark _)))))))), ?_⟩
    refine ⟨_, rfl, _, rfl, _, rfl, _, rfl, SA, LA, sas, las, m, L, ss, ls, i, b, rfl, LG, _, rfl, ?_⟩
    unfold chainB at q
    refine ite2 (fun e => ?_) (fun e => ?_)
    · have e' : handedB m L ss i b = false := by simpa using e
      rw [e', Bool.false_and] at q
      exact ite_t (q H (Same.refl _))
    have e' : handedB m L ss i b = true := by simpa using e
    rw [e', Bool.true_and] at q
    obtain ⟨j, c, x, rfl, rfl, hj, hc, hx⟩ := handed_iff e'
    rw [Int.toNat_natCast, Int.toNat_natCast, hx] at q
    refine ⟨_, rfl, _, _, _, .type "list", true, rfl, ⟨rfl, kit_list_list⟩, .of (.lst hZ), true, rfl, ?_⟩
    refine ite2 (fun e => absurd e (by decide)) (fun _ => ?_)
    refine ⟨_, rfl, Z, _, rfl, .inl (SqL.of hZ), rfl, _, rfl, ?_⟩
    refine ite2 (fun e => ?_) (fun e => ?_)
    · have e2 : zs = [] := by
        have := V.int.inj (of_decide_eq_true e)
        rw [List.length_map] at this
        exact List.eq_nil_of_length_eq_zero (by omega)
      rw [e2] at q
      exact q H (Same.refl _)
    have zne : zs ≠ [] := by
      rintro rfl
      exact e (decide_eq_true rfl)
    have zem : zs.isEmpty = false := by cases zs with | nil => exact absurd rfl zne | cons _ _ => rfl
    rw [zem, Bool.not_false, Bool.true_and] at q
    obtain ⟨g1, g2, g3, g4, g5, g6⟩ := LG
    have LG : LogAt H SA LA sas las m L ss ls := ⟨g1, g2, g3, g4, g5, g6⟩
    have sl : (ss c).length = m := g5 c (by omega)
    have at1 : atI (SV (ss c)) (j : Int) = some (.int (x : Int)) := by rw [sv_at (by omega), hx]; rfl
    refine ⟨_, rfl, _, rfl, SA, _, _, _, rfl, rfl, SqL.of g1, ref_at (by rw [g3.1]; omega), _, rfl, sas.getD c 0, _, _, _, rfl, rfl, SqT.of (g3.2 c (by omega)), at1, ?_⟩
    have qf : ∀ k h, walkS m L ss ls c x zs k = some h → ¬ sentB m L ss (zs.getD k 0) ((c + k : Nat) : Int) h = true → k < zs.length → ∀ H', Same H H' → Q (.bl false) H' := by
      intro k h e1 e2 hk H' sm
      have e3 := walk_none e1 e2 (zs.length - (k + 1))
      rw [show k + 1 + (zs.length - (k + 1)) = zs.length by omega] at e3
      have q' := q H' sm
      have ex : (some x).getD 0 = x := rfl
      rw [ex, e3] at q'
      unfold endB at q'
      rw [Bool.and_false] at q'
      exact q'
    refine ⟨_, rfl, Z, _, rfl, hZ, ?_⟩
    refine for_enum (K := K) (a := Z) (xs := HV zs) (fun k σ H3 => (∃ v7 v8 h, σ = [some (.ref a), some (.ref SA), some (.ref LA), some (.int j), some (.int c), some (.ref Z), some (.int (h : Nat)), v7, v8] ∧ walkS m L ss ls c x zs k = some h) ∧ Same H H3) ⟨⟨_, _, x, rfl, rfl⟩, Same.refl _⟩ (fun k σ H3 _ z => SqL.of (z.2 _ _ hZ)) ?_ ?_
    · rintro k v t σ H3 hv ⟨⟨v7, v8, h, rfl, hw⟩, sm⟩ ht
      rw [List.getElem?_map] at hv
      obtain ⟨z, hz, rfl⟩ := Option.map_eq_some_iff.mp hv
      have hk : k < zs.length := (List.getElem?_eq_some_iff.mp hz).1
      have zk : zs.getD k 0 = z := by rw [List.getD_eq_getElem?_getD, hz]; rfl
      have sm4 : Same H (upd H3 t (.tup [.int (k : Int), .int z])) := sm.trans (same_new ht)
      have LG4 := LG.same sm4
      refine ⟨_, _, rfl, SqT.of upd_same, rfl, _, _, rfl, _, _, rfl, rfl, ?_⟩
      refine ⟨_, rfl, _, rfl, _, rfl, _, rfl, _, rfl, _, _, rfl, rfl, _, rfl, SA, LA, sas, las, m, L, ss, ls, z, (c : Int) + (k : Int), h, rfl, LG4, _, rfl, ?_⟩
      have ck : (c : Int) + (k : Int) = ((c + k : Nat) : Int) := by omega
      refine ite2 (fun e2 => ?_) (fun e2 => ?_)
      · refine qf k h hw ?_ hk _ sm4
        rw [zk, ← ck]
        simpa using e2
      · have e3 : sentB m L ss z ((c : Int) + (k : Int)) h = true := by simpa using e2
        have e4 := e3
        rw [ck] at e4
        obtain ⟨j2, c2, ez, ec, hj2, hc2, hx2⟩ := sent_iff e4
        have ec' : c2 = c + k := by omega
        subst ec'
        subst ez
        obtain ⟨mv1, mv2, mv3⟩ := g6 (c + k) hc2
        obtain ⟨o, ho, hne⟩ := mv3 j2 h hx2
        have sl2 : (ss (c + k)).length = m := g5 (c + k) (by omega)
        have at2 : atI (SV (ls (c + k))) (j2 : Int) = some (.int (o : Int)) := by rw [sv_at (by omega), ho]; rfl
        have rat : atI (las.map V.ref) ((c : Int) + (k : Int)) = some (.ref (las.getD (c + k) 0)) := by rw [ck]; exact ref_at (by rw [g4.1]; exact hc2)
        refine ⟨_, rfl, _, rfl, _, rfl, _, _, rfl, rfl, LA, _, _, _, rfl, rfl, SqL.of (sm4 _ _ g2), rat, _, rfl, las.getD (c + k) 0, _, _, _, rfl, rfl, SqT.of (sm4 _ _ (g4.2 (c + k) hc2)), at2, ⟨_, _, o, rfl, ?_⟩, sm4⟩
        rw [walk_some hw (by rw [zk]; exact e4), zk, Int.toNat_natCast, ho]
        rfl
    · rintro σ H3 ⟨⟨v7, v8, h, rfl, hw⟩, sm⟩
      rw [show (HV zs).length = zs.length from List.length_map _] at hw
      have q' := q H3 sm
      have ex : (some x).getD 0 = x := rfl
      rw [ex, hw] at q'
      have zl : 0 < zs.length := List.length_pos_iff.mpr zne
      have at0 : atI (HV zs) 0 = some (.int (zs.getD 0 0)) := hv_at (i := 0) zl
      refine ⟨_, rfl, Z, _, _, _, rfl, rfl, SqL.of (sm _ _ hZ), at0, _, rfl, rfl, _, rfl, ?_⟩
      refine ite2 (fun e2 => ?_) (fun e2 => ?_)
      · have e3 : decide (zs.getD 0 0 = (j : Int)) = false := by
          refine decide_eq_false fun z => ?_
          rw [z] at e2
          simp at e2
        rw [e3, Bool.not_false, Bool.true_and] at q'
        obtain ⟨k, hk⟩ : ∃ k, zs.length = k + 1 := ⟨zs.length - 1, by omega⟩
        have hw2 := hw
        rw [hk] at hw2
        obtain ⟨h', s'⟩ := walk_sent hw2
        obtain ⟨j2, c2, ez, ec, hj2, hc2, hx2⟩ := sent_iff s'
        have el : zs.getD (zs.length - 1) 0 = (j2 : Int) := by rw [hk]; exact ez
        unfold endB at q'
        rw [el, Int.toNat_natCast] at q'
        refine ⟨_, rfl, _, rfl, _, rfl, _, rfl, Z, _, _, _, rfl, rfl, SqL.of (sm _ _ hZ), hv_last zne, a, _, _, _, rfl, rfl, SqT.of (sm _ _ ha), by rw [el]; exact hv_at (by omega), rfl, ?_⟩
        have ed : decide (V.int (h : Int) = V.int (hs.getD j2 0)) = decide ((h : Int) = hs.getD j2 0) := by
          rw [Bool.eq_iff_iff, decide_eq_true_iff, decide_eq_true_iff]
          exact ⟨V.int.inj, fun z => by rw [z]⟩
        rw [ed]
        exact q'
      · have e3 : decide (zs.getD 0 0 = (j : Int)) = true := by
          refine decide_eq_true ?_
          have : decide (V.int (zs.getD 0 0) = V.int (j : Int)) = true := by simpa using e2
          exact V.int.inj (of_decide_eq_true this)
        rw [e3] at q'
        exact q'
end
end K61

set_option maxHeartbeats 1500000
namespace K61
open PySem L2
theorem scal_sv {o : Option Nat} {h : Int} : scal (stV o) (.int h) = true := by cases o <;> rfl
theorem dec_int {x y : Int} : decide (V.int x = V.int y) = decide (x = y) := by
  rw [Bool.eq_iff_iff, decide_eq_true_iff, decide_eq_true_iff]
  exact ⟨V.int.inj, fun z => by rw [z]⟩
section
variable {P : Program} {w : World} {K : PySem.W.Frag} {mg : Str → Option Value} {base : Heap}
theorem scChainL : FnScope ["_law_homes", "_law_stands", "_law_log", "_law_i", "_law_beat", "_law_thing", "_law_house", "_law_k", "_law_one"] ["_law_homes", "_law_stands", "_law_log", "_law_i", "_law_beat", "_law_thing"] (defScope sChainL) := ⟨rfl, rfl, rfl, by decide +kernel, rfl, by decide +kernel, by decide +kernel⟩
def spChainL : Sp := fun vs H Q _ => ∃ (a SA LA Z : Addr) (sas las : List Addr) (m L : Nat) (ss ls : Nat → List (Option Nat)) (hs zs : List Int) (j c : Nat), vs = [.ref a, .ref SA, .ref LA, .int j, .int c, .ref Z] ∧ H a = some (.tup (HV hs)) ∧ hs.length = m ∧ LogAt H SA LA sas las m L ss ls ∧ H Z = some (.lst (HV zs)) ∧ j < m ∧
  ∀ H', Same H H' → Q (.bl (chainB hs m L ss ls j c zs)) H'
theorem ok_chainL {f : Addr} {fd : FuncData} (F : Fun K "_law_is_chain" "_law_is_chain" sChainL f fd) (B : Bl mg) : FnOk P w K mg base CX0 1 f fd ["_law_homes", "_law_stands", "_law_log", "_law_i", "_law_beat", "_law_thing"] spChainL := by
  refine F.ok scChainL (fun vs H Q E h => ?_) (fun cdv A outer s H vs Q E hr h => ?_)
  · obtain ⟨a, SA, LA, Z, sas, las, m, L, ss, ls, hs, zs, j, c, rfl, _⟩ := h
    rfl
  · obtain ⟨a, SA, LA, Z, sas, las, m, L, ss, ls, hs, zs, j, c, rfl, ha, hl, LG, hZ, hj, q⟩ := h
    have hu : (A.deeper (PyProof.Rows.envOfC "_law_is_chain" (defScope sChainL) s.heap.objs.size f cdv)).units + 2 < cLine := by have := hr.un; omega
    refine' ⟨_, pss_cons (ps_if (PW.pt (pw_or (pt_cmpR op_ge (pv 4) (pe_callB call_len_seq (by rfl) B.len PySem.boot_len (pa_cons (pv 2) pa_nil)) (nomark _))
          (pw_or (pt_cmp (pc_isN (pe_ix ix_tup (pe_ix ix_list (pv 1) (pv 4) (fun _ _ => rfl)) (pv 3) (fun _ _ => rfl))))
          (pw_or (pt_cmpR (op_eqL (e := eqV) hu) (pv 5) (pe_lst pa_nil) (nomark _))
          (pw_or1 (pt_cmpR op_eq (pe_ix ix_list (pv 5) pe_int (fun _ _ => rfl)) (pv 3) (nomark _))))))) (pss_one (ps_ret pe_bl)) pss_nil)
      (pss_cons (ps_set (i := 6) scChainL.nd rfl (Or.inl rfl) (pe_ix ix_tup (pe_ix ix_list (pv 1) (pv 4) (fun _ _ => rfl)) (pv 3) (fun _ _ => rfl)))
      (pss_cons (ps_for PassesOwn.never rfl (pi_enum rfl B.enum (pa_cons (pv 5) pa_nil)) (pg_tup (n := 2) rfl (pgs_cons (pg_name (i := 7) scChainL.nd rfl (Or.inl rfl)) (pgs_cons (pg_name (i := 8) scChainL.nd rfl (Or.inl rfl)) pgs_nil)))
        (pss_cons (ps_if (PW.pt (pw_or (pt_cmpR op_ge (pe_op op_add (pv 4) (pv 7)) (pe_callB call_len_seq (by rfl) B.len PySem.boot_len (pa_cons (pv 2) pa_nil)) (nomark _))
            (pw_or (pt_not (pt_chain op_le op_lt pe_int (pv 8) (pe_callB call_len_seq (by rfl) B.len PySem.boot_len (pa_cons (pv 0) pa_nil))))
            (pw_or1 (pt_cmpR op_ne (pe_ix ix_tup (pe_ix ix_list (pv 1) (pe_op op_add (pv 4) (pv 7)) (fun _ _ => rfl)) (pv 8) (fun _ _ => rfl)) (pv 6) (nomark _)))))) (pss_one (ps_ret pe_bl)) pss_nil)
        (pss_one (ps_set (i := 6) scChainL.nd rfl (Or.inl rfl) (pe_ix ix_tup (pe_ix ix_list (pv 2) (pe_op op_add (pv 4) (pv 7)) (fun _ _ => rfl)) (pv 8) (fun _ _ => rfl))))))
      (pss_one (ps_ret (pe_cmpR op_eq (pv 6) (pe_ix ix_tup (pv 0) (pe_ix ix_list (pv 5) (pe_un un_neg pe_int) (fun _ _ => rfl)) (fun _ _ => rfl)) (nomark _)))))), ?_⟩
    obtain ⟨g1, g2, g3, g4, g5, g6⟩ := LG
    have LG : LogAt H SA LA sas las m L ss ls := ⟨g1, g2, g3, g4, g5, g6⟩
    refine ⟨_, rfl, _, rfl, LA, _, rfl, .inl (SqL.of g2), _, _, rfl, rfl, _, rfl, ?_⟩
    have ell : (((las.map V.ref).length : Nat) : Int) = (L : Int) := by rw [List.length_map, g4.1]
    unfold chainB at q
    refine ite2 (fun e => ?_) (fun e => ?_)
    · have e' : handedB m L ss j c = false := by
        have := of_decide_eq_true e
        rw [ell] at this
        unfold handedB
        have z : inR 0 ((L : Int) - 1) (c : Int) = false := by
          rw [Bool.eq_false_iff]; intro z; have := inR_iff.mp z; omega
        rw [z]; rfl
      rw [e', Bool.false_and] at q
      exact ite_t (q H (Same.refl _))
    have hc : c < L := by
      have : ¬ ((((las.map V.ref).length : Nat) : Int) ≤ (c : Int)) := fun z => e (decide_eq_true z)
      rw [ell] at this; omega
    have sl : (ss c).length = m := g5 c (by omega)
    refine ⟨_, rfl, _, rfl, SA, _, _, _, rfl, rfl, SqL.of g1, ref_at (by rw [g3.1]; omega), _, rfl, sas.getD c 0, _, _, _, rfl, rfl, SqT.of (g3.2 c (by omega)), sv_at (by omega), _, rfl, ?_⟩
    refine ite2 (fun e2 => ?_) (fun e2 => ?_)
    · have hn : (ss c).getD j none = none := stV_inj (of_decide_eq_true e2 : stV ((ss c).getD j none) = stV none)
      have e' : handedB m L ss j c = false := by
        unfold handedB
        rw [Int.toNat_natCast, Int.toNat_natCast, hn, Option.isSome_none, Bool.and_false, Bool.and_false]
      rw [e', Bool.false_and] at q
      exact ite_t (q H (Same.refl _))
    obtain ⟨x, hx⟩ : ∃ x, (ss c).getD j none = some x := by
      cases z : (ss c).getD j none with
      | none => exact absurd (decide_eq_true (by rw [z]; rfl)) e2
      | some x => exact ⟨x, rfl⟩
    rw [handed_of hj hc hx, Bool.true_and, Int.toNat_natCast, Int.toNat_natCast, hx] at q
    refine ⟨_, rfl, by show 0 ≤ sizeLine; decide, fun L0 hL0 => ⟨Z, L0, _, _, rfl, rfl, SqL.of (same_new hL0 _ _ hZ), SqL.of upd_same, fun i _ hi => absurd hi (by simp), _, rfl, ?_⟩⟩
    have sm0 : Same H (upd H L0 (.lst [])) := same_new hL0
    revert sm0
    generalize upd H L0 (.lst []) = H0
    intro sm0
    refine ite2 (fun e3 => ?_) (fun e3 => ?_)
    · have e4 : zs.isEmpty = true := by rw [← allEq_nil]; exact e3
      rw [e4] at q
      exact ite_t (q H0 sm0)
    have zem : zs.isEmpty = false := by
      rw [← allEq_nil]
      have : ¬ allEq eqV (HV zs) [] = true := e3
      simpa using this
    have zne : zs ≠ [] := by rintro rfl; cases zem
    have zl : 0 < zs.length := List.length_pos_iff.mpr zne
    have at0 : atI (HV zs) 0 = some (.int (zs.getD 0 0)) := hv_at (i := 0) zl
    rw [zem, Bool.not_false, Bool.true_and] at q
    refine ⟨_, rfl, Z, _, _, _, rfl, rfl, SqL.of (sm0 _ _ hZ), at0, _, rfl, rfl, _, rfl, ?_⟩
    refine ite2 (fun e5 => ?_) (fun e5 => ?_)
    · have e6 : decide (zs.getD 0 0 = (j : Int)) = true := by rw [← dec_int]; exact e5
      rw [e6] at q
      exact q H0 sm0
    have e6 : decide (zs.getD 0 0 = (j : Int)) = false := by
      rw [← dec_int]
      have : ¬ decide (V.int (zs.getD 0 0) = V.int (j : Int)) = true := e5
      simpa using this
    rw [e6, Bool.not_false, Bool.true_and] at q
    have at1 : atI (SV (ss c)) (j : Int) = some (.int (x : Int)) := by rw [sv_at (by omega), hx]; rfl
    refine ⟨_, rfl, _, rfl, SA, _, _, _, rfl, rfl, SqL.of (sm0 _ _ g1), ref_at (by rw [g3.1]; omega), _, rfl, sas.getD c 0, _, _, _, rfl, rfl, SqT.of (sm0 _ _ (g3.2 c (by omega))), at1, ?_⟩
    have qf : ∀ k h, walkS m L ss ls c x zs k = some h → ¬ sentB m L ss (zs.getD k 0) ((c + k : Nat) : Int) h = true → k < zs.length → ∀ H', Same H H' → Q (.bl false) H' := by
      intro k h e1 e2 hk H' sm
      have e3 := walk_none e1 e2 (zs.length - (k + 1))
      rw [show k + 1 + (zs.length - (k + 1)) = zs.length by omega] at e3
      have q' := q H' sm
      have ex : (some x).getD 0 = x := rfl
      rw [ex, e3] at q'
      exact q'
    refine ⟨_, rfl, Z, _, rfl, sm0 _ _ hZ, ?_⟩
    refine for_enum (K := K) (a := Z) (xs := HV zs) (fun k σ H3 => (∃ v7 v8 h, σ = [some (.ref a), some (.ref SA), some (.ref LA), some (.int j), some (.int c), some (.ref Z), some (.int (h : Nat)), v7, v8] ∧ walkS m L ss ls c x zs k = some h) ∧ Same H H3) ⟨⟨_, _, x, rfl, rfl⟩, sm0⟩ (fun k σ H3 _ z => SqL.of (z.2 _ _ hZ)) ?_ ?_
    · rintro k v t σ H3 hv ⟨⟨v7, v8, h, rfl, hw⟩, sm⟩ ht
      rw [List.getElem?_map] at hv
      obtain ⟨z, hz, rfl⟩ := Option.map_eq_some_iff.mp hv
      have hk : k < zs.length := (List.getElem?_eq_some_iff.mp hz).1
      have zk : zs.getD k 0 = z := by rw [List.getD_eq_getElem?_getD, hz]; rfl
      have sm4 : Same H (upd H3 t (.tup [.int (k : Int), .int z])) := sm.trans (same_new ht)
      have LG4 := LG.same sm4
      have ck : (c : Int) + (k : Int) = ((c + k : Nat) : Int) := by omega
      refine ⟨_, _, rfl, SqT.of upd_same, rfl, _, _, rfl, _, _, rfl, rfl, ?_⟩
      refine ⟨_, rfl, _, rfl, _, _, rfl, rfl, _, rfl, LA, _, rfl, .inl (SqL.of (sm4 _ _ g2)), _, _, rfl, rfl, _, rfl, ?_⟩
      have nos : ∀ (c' : Prop), (∀ (j2 c2 : Nat), z = j2 → c2 = c + k → j2 < m → c2 < L → (ss c2).getD j2 none = some h → False) → Q (.bl false) (upd H3 t (.tup [.int (k : Int), .int z])) := by
        intro _ hno
        refine qf k h hw (fun s' => ?_) hk _ sm4
        rw [zk] at s'
        obtain ⟨j2, c2, ez, ec, hj2, hc2, hx2⟩ := sent_iff s'
        exact hno j2 c2 ez (by omega) hj2 hc2 hx2
      refine ite2 (fun e7 => ?_) (fun e7 => ?_)
      · refine ite_t (nos True fun j2 c2 _ ec _ hc2 _ => ?_)
        have := of_decide_eq_true e7
        rw [ell] at this
        omega
      have hck : c + k < L := by
        have : ¬ ((((las.map V.ref).length : Nat) : Int) ≤ (c : Int) + (k : Int)) := fun z => e7 (decide_eq_true z)
        rw [ell] at this; omega
      have sl2 : (ss (c + k)).length = m := g5 (c + k) (by omega)
      refine ⟨_, rfl, _, _, rfl, rfl, _, rfl, ?_⟩
      refine ite2 (fun e8 => ?_) (fun e8 => ?_)
      · have z0 : 0 ≤ z := of_decide_eq_true e8
        obtain ⟨j2, rfl⟩ : ∃ j2 : Nat, z = j2 := ⟨z.toNat, by omega⟩
        refine ⟨_, rfl, a, _, rfl, .inr (SqT.of (sm4 _ _ ha)), _, _, rfl, rfl, _, rfl, ?_⟩
        have ehl : (((HV hs).length : Nat) : Int) = (m : Int) := by rw [List.length_map, hl]
        refine ite2 (fun e9 => ?_) (fun e9 => ?_)
        · refine ite_t (nos True fun j3 c2 ej _ hj3 _ _ => ?_)
          have : ¬ ((j2 : Int) < (((HV hs).length : Nat) : Int)) := by simpa using e9
          rw [ehl] at this
          omega
        · have hj2 : j2 < m := by
            have : ((j2 : Int) < (((HV hs).length : Nat) : Int)) := by simpa using e9
            rw [ehl] at this
            omega
          have rat : atI (sas.map V.ref) ((c : Int) + (k : Int)) = some (.ref (sas.getD (c + k) 0)) := by rw [ck]; exact ref_at (by rw [g3.1]; omega)
          refine ⟨_, rfl, _, rfl, _, rfl, _, _, rfl, rfl, SA, _, _, _, rfl, rfl, SqL.of (sm4 _ _ g1), rat, _, rfl, sas.getD (c + k) 0, _, _, _, rfl, rfl, SqT.of (sm4 _ _ (g3.2 (c + k) (by omega))), sv_at (by omega), _, rfl, scal_sv, _, rfl, ?_⟩
          refine ite2 (fun e10 => ?_) (fun e10 => ?_)
          · refine nos True fun j3 c2 ej ec _ _ hx3 => ?_
            have ej' : j3 = j2 := by omega
            subst ej'
            subst ec
            have e11 : ¬ stV ((ss (c + k)).getD j3 none) = V.int (h : Int) := by simpa using e10
            rw [hx3] at e11
            exact e11 rfl
          · have e11 : stV ((ss (c + k)).getD j2 none) = V.int (h : Int) := by simpa using e10
            have hx2 : (ss (c + k)).getD j2 none = some h := stV_inj (e11 : stV ((ss (c + k)).getD j2 none) = stV (some h))
            obtain ⟨mv1, mv2, mv3⟩ := g6 (c + k) hck
            obtain ⟨o, ho, hne⟩ := mv3 j2 h hx2
            have at2 : atI (SV (ls (c + k))) (j2 : Int) = some (.int (o : Int)) := by rw [sv_at (by omega), ho]; rfl
            have rat2 : atI (las.map V.ref) ((c : Int) + (k : Int)) = some (.ref (las.getD (c + k) 0)) := by rw [ck]; exact ref_at (by rw [g4.1]; exact hck)
            refine ⟨_, rfl, _, rfl, _, rfl, _, _, rfl, rfl, LA, _, _, _, rfl, rfl, SqL.of (sm4 _ _ g2), rat2, _, rfl, las.getD (c + k) 0, _, _, _, rfl, rfl, SqT.of (sm4 _ _ (g4.2 (c + k) hck)), at2, ⟨_, _, o, rfl, ?_⟩, sm4⟩
            rw [walk_some hw (by rw [zk]; exact sent_of hj2 hck hx2), zk, Int.toNat_natCast, ho]
            rfl
      · refine ⟨_, rfl, ite_t (ite_t (nos True fun j2 c2 ej _ _ _ _ => ?_))⟩
        have : ¬ (0 ≤ z) := fun y => e8 (decide_eq_true y)
        omega
    · rintro σ H3 ⟨⟨v7, v8, h, rfl, hw⟩, sm⟩
      rw [show (HV zs).length = zs.length from List.length_map _] at hw
      have q' := q H3 sm
      have ex : (some x).getD 0 = x := rfl
      rw [ex, hw] at q'
      obtain ⟨k, hk⟩ : ∃ k, zs.length = k + 1 := ⟨zs.length - 1, by omega⟩
      have hw2 := hw
      rw [hk] at hw2
      obtain ⟨h', s'⟩ := walk_sent hw2
      obtain ⟨j2, c2, ez, ec, hj2, hc2, hx2⟩ := sent_iff s'
      have el : zs.getD (zs.length - 1) 0 = (j2 : Int) := by rw [hk]; exact ez
      unfold endB at q'
      rw [el, Int.toNat_natCast] at q'
      refine ⟨_, rfl, _, rfl, _, rfl, _, rfl, Z, _, _, _, rfl, rfl, SqL.of (sm _ _ hZ), hv_last zne, a, _, _, _, rfl, rfl, SqT.of (sm _ _ ha), by rw [el]; exact hv_at (by omega), rfl, ?_⟩
      rw [dec_int]
      exact q'
end
end K61

set_option maxHeartbeats 1500000
namespace L2
open PySem PySem.Spec PyProof.Rows
/-! ### xs[lo:hi:step] of ints; is not of bools; tuples of unlike lengths -/
theorem vals_ofInts : ∀ {us : List Value} {ns : List Int}, IntsAre us ns → Vals (ns.map V.int) us
  | _, _, .nil => .nil
  | _, _, .cons n t h => .cons ⟨t, rfl⟩ (vals_ofInts h)
section
variable {X : Cx} {e se : Expr} {te : TE} {lo hi : Option Expr} {tl th ts : TO} {pos p2 : Pos}
def tSlS (K : PySem.W.Frag) (te : TE) (tl th ts : TO) : TE := fun σ H Q => te σ H fun x H1 => tl σ H1 fun l H2 => th σ H2 fun u H3 => ts σ H3 fun k H4 => ∃ (a : Addr) (ns : List Int), x = .ref a ∧ SqL K H4 a (ns.map V.int) ∧ k ≠ some 0 ∧ ∀ (p : Addr) (ns' : List Int), H4 p = none → ns'.length ≤ ns.length → Q (.ref p) (upd H4 p (.lst (ns'.map V.int)))
theorem pe_sliceS (he : PE X e te) (hl : PO X lo tl) (hu : PO X hi th) (hs : PO X (some se) ts) : PE X (.Subscript e (.Slice lo hi (some se) p2) pos) (tSlS X.K te tl th ts) := by
  intro pins s σ H Q I h
  refine Subscript_ (thn (he pins s σ H _ I h) fun v s1 ⟨x, H1, I1, r1, q1⟩ => ?_)
  refine wpAny_Slice (thn (hl pins s1 σ H1 _ I1 q1) fun vl s2 ⟨l, H2, I2, pl, q2⟩ => thn (hu pins s2 σ H2 _ I2 q2) fun vu s3 ⟨u, H3, I3, pu, q3⟩ => thn (hs pins s3 σ H3 _ I3 q3) fun vk s4 ⟨k, H4, I4, pk, q4⟩ => ?_)
  obtain ⟨a, ns, rfl, hx, k0, q⟩ := q4
  cases r1
  have I5 : Inv X pins σ H4 { s4 with heap := s4.heap.push { cls := .type "slice", data := .fields #[vl, vu, vk] } } := I4.kept (t' := s4.toks) fun b ob q => Heap.get?_push_of_some _ q
  obtain ⟨its, r, ht, hz⟩ := I5.list hx
  have ia := intsAre_of r
  show wpAny (model X.prog X.w) X.A (subscriptTail e (.Slice lo hi (some se) p2) (.ref a) (.ref s4.heap.objs.size)) (EP X pins σ Q) X.xe { s4 with heap := s4.heap.push { cls := .type "slice", data := .fields #[vl, vu, vk] } }
  refine tail_any (ops := [.ref a, .ref s4.heap.objs.size]) ht.isList.typeIs slot_list_getitem.lookup ?_ (by with_unfolding_all rfl)
  have hz' : its.length ≤ sizeLine := by have := r.length; omega
  refine wpAny_getItem_list_slice ht.isList (Heap.IsSliceOf.new ..) pl pu pk k0 ?_ (by rw [List.size_toArray]; exact hz')
  have pi := ia.pick l u k
  have pz := length_pickNums_le ia l u k
  have nz : ns.length ≤ sizeLine := by rw [List.length_map] at hz; exact hz
  refine ⟨.ref (s4.heap.push { cls := .type "slice", data := .fields #[vl, vu, vk] }).objs.size, _, I5.laid (t' := s4.toks) (o := .lst ((pickNums ns l u k).map V.int)) (fun b ob q => Heap.get?_push_of_some _ q) (Nat.le_refl _) ?_, rfl, q _ _ (I5.hok.fresh (Nat.le_refl _)) pz⟩
  exact ⟨by rw [List.length_map]; exact Nat.le_trans pz nz, _, 0, vals_ofInts pi, Heap.get?_push_size _ rfl⟩
theorem op_isnotB : OpR X (compareOp .IsNot) (fun x y H Q => ∃ c d : Bool, x = .bl c ∧ y = .bl d ∧ Q (.bl (c != d)) H) := by
  intro pins s σ H x y v u Q I rx ry h
  obtain ⟨c, d, rfl, rfl, q⟩ := h
  cases rx
  cases ry
  exact isnot_bool ⟨.bl _, H, I, rfl, q⟩
theorem op_neT0 (hu : X.A.units < cLine) : OpR X (compareOp .NotEq) (fun x y H Q => ∃ (p q : Addr) (xs : List V), x = .ref p ∧ y = .ref q ∧ SqT X.K H p xs ∧ SqT X.K H q [] ∧ Q (.bl (!xs.isEmpty)) H) := by
  intro pins s σ H x y v u Q I rx ry h
  obtain ⟨p, q, xs, rfl, rfl, hp, hq, k⟩ := h
  obtain rfl : v = Value.ref p := rx
  obtain rfl : u = Value.ref q := ry
  obtain ⟨us, r1, p1, _⟩ := I.tuple hp
  obtain ⟨vs, r2, p2, _⟩ := I.tuple hq
  cases r2
  refine SeqAt.RcNeAt.tuples (e := fun _ => true) (items := us.toArray) (items2 := ([] : List Value).toArray) p1 p2 hu (fun j _ h2 => absurd h2 (by simp)) _ _ _ _ ⟨.bl _, H, I, rfl, ?_⟩
  have e : (!((List.range (min us.toArray.size ([] : List Value).toArray.size)).all (fun _ => true) && us.toArray.size == ([] : List Value).toArray.size)) = !xs.isEmpty := by
    have := r1.length
    cases xs with
    | nil => cases r1; rfl
    | cons a as =>
      cases r1 with
      | cons _ _ => simp
  rw [e]
  exact k
end
end L2

set_option maxHeartbeats 1500000
namespace K61
open PySem L2
abbrev sWalk : Stmt := top 22
theorem nbW6 : (["_law_j", "_law_here", "_law_house", "_law_at", "_law_beat", "_law_i"] : List Str).Nodup := by decide +kernel
section
variable {P : Program} {w : World} {K : PySem.W.Frag} {mg : Str → Option Value} {base : Heap}
theorem scWalk : FnScope ["_law_pot_here", "_law_homes", "_law_stands", "_law_log", "_law_i", "_law_beat", "_law_found", "_law_house", "_law_at", "_law_some"] ["_law_pot_here", "_law_homes", "_law_stands", "_law_log", "_law_i", "_law_beat"] (defScope sWalk) := ⟨rfl, rfl, rfl, by decide +kernel, rfl, by decide +kernel, by decide +kernel⟩
def spWalk : Sp := fun vs H Q _ => ∃ (p a SA LA : Addr) (sas las : List Addr) (m L : Nat) (ss ls : Nat → List (Option Nat)) (hs : List Int) (j c : Nat), vs = [.ref p, .ref a, .ref SA, .ref LA, .int j, .int c] ∧ PotAt H p ∧ H a = some (.tup (HV hs)) ∧ hs.length = m ∧ LogAt H SA LA sas las m L ss ls ∧ j < m ∧ m ≤ 16 ∧ L ≤ 30 ∧ SA ≠ p ∧ LA ≠ p ∧
  ∀ (r : Addr) (zs : List Int) (H' : Hp), H' r = some (.lst (HV zs)) → zs.length ≤ 30 → H r = none → SameE p H H' → PotAt H' p → Q (.ref r) H'
theorem LogAt.sameE {H H' : Hp} {p SA LA : Addr} {sas las : List Addr} {m L : Nat} {ss ls : Nat → List (Option Nat)} (h : LogAt H SA LA sas las m L ss ls) (s : SameE p H H') (hp : PotAt H p) (n1 : SA ≠ p) (n2 : LA ≠ p) : LogAt H' SA LA sas las m L ss ls := by
  obtain ⟨g1, g2, g3, g4, g5, g6⟩ := h
  have kt : KTu H H' := KTu.ofE s hp
  exact ⟨s _ _ g1 n1, s _ _ g2 n2, g3.mono fun j _ e => kt _ _ e, g4.mono fun j _ e => kt _ _ e, g5, g6⟩
theorem ok_walk {f : Addr} {fd : FuncData} (F : Fun K "_law_walked" "_law_walked" sWalk f fd) (B : Bl mg) (T : Cal P w K mg base CX0 1 "_law_take" ["_law_pot_here", "_law_many"] spTake) : FnOk P w K mg base CX0 2 f fd ["_law_pot_here", "_law_homes", "_law_stands", "_law_log", "_law_i", "_law_beat"] spWalk := by
  refine F.ok scWalk (fun vs H Q E h => ?_) (fun cdv A outer s H vs Q E hr h => ?_)
  · obtain ⟨p, a, SA, LA, sas, las, m, L, ss, ls, hs, j, c, rfl, _⟩ := h
    rfl
  · obtain ⟨p, a, SA, LA, sas, las, m, L, ss, ls, hs, j, c, rfl, hp, ha, hl, LG, hj, m16, L30, nSp, nLp, q⟩ := h
    have hu : (A.deeper (PyProof.Rows.envOfC "_law_walked" (defScope sWalk) s.heap.objs.size f cdv)).units + 2 < cLine := by have := hr.un; omega
    refine' ⟨_, pss_cons (ps_set (i := 6) scWalk.nd rfl (Or.inl rfl) (pe_lst pa_nil))
      (pss_cons (ps_if (PW.pt (pw_or (pt_cmpR op_ge (pv 5) (pe_callB call_len_seq (by rfl) B.len PySem.boot_len (pa_cons (pv 3) pa_nil)) (nomark _))
          (pw_or1 (pt_cmp (pc_isN (pe_ix ix_tup (pe_ix ix_list (pv 2) (pv 5) (fun _ _ => rfl)) (pv 4) (fun _ _ => rfl))))))) (pss_one (ps_ret (pv 6))) pss_nil)
      (pss_cons (ps_set (i := 7) scWalk.nd rfl (Or.inr rfl) (pe_ix ix_tup (pe_ix ix_list (pv 2) (pv 5) (fun _ _ => rfl)) (pv 4) (fun _ _ => rfl)))
      (pss_cons (ps_for PassesOwn.never rfl (pi_range2 rfl B.range (pa_cons (pv 5) (pa_cons (pe_callB call_len_seq (by rfl) B.len PySem.boot_len (pa_cons (pv 3) pa_nil)) pa_nil))) (pg_name (i := 8) scWalk.nd rfl (Or.inr rfl))
        (pss_cons (ps_setComp (i := 9) (g := gTup K 2 (gCons (gName 0) (gCons (gName 1) gNil))) (tt := tAnd (tTest (tOp rEq (tVar 1) (tVar 2))) (tOr (tTest (tOp (rI0 fun i j => .bl (decide (j < i))) (tVar 3) (tVar 4))) (tTest (tOp rNe (tVar 0) (tVar 5))))) (te := tVar 0) (NB := ["_law_j", "_law_here", "_law_house", "_law_at", "_law_beat", "_law_i"]) (src := [none, none, some 7, some 8, some 5, some 4]) (blk_of (by kernel_rfl)) rfl (pi_enumT rfl B.enum (pa_cons (pe_ix ix_list (pv 2) (pv 8) (fun _ _ => rfl)) pa_nil)) ?g ?t ?e scWalk.nd rfl rfl rfl)
        (pss_cons (ps_if (pt_cmpR (op_eqL (e := eqV) hu) (pv 9) (pe_lst pa_nil) (nomark _)) (pss_one (ps_ret (pv 6))) pss_nil)
        (pss_cons (ps_expr (pe_bm PySem.F.plainAttrs_list PySem.F.slot_list_append PySem.F.type_list_append mt_append (pv 6) (pa_cons (pe_ix ix_list (pv 9) (pe_cal T hr pass0 (pa_cons (pv 0) (pa_cons (pe_callB call_len_seq (by rfl) B.len PySem.boot_len (pa_cons (pv 9) pa_nil)) pa_nil))) (fun _ _ => rfl)) pa_nil)))
        (pss_cons (ps_set (i := 7) scWalk.nd rfl (Or.inr rfl) (pe_ix ix_tup (pe_ix ix_list (pv 3) (pv 8) (fun _ _ => rfl)) (pe_ix ix_list (pv 6) (pe_un un_neg pe_int) (fun _ _ => rfl)) (fun _ _ => rfl)))
        (pss_one (ps_if (PW.pt (pw_and (pt_cmpR op_eq (pv 7) (pe_ix ix_tup (pv 1) (pe_ix ix_list (pv 6) (pe_un un_neg pe_int) (fun _ _ => rfl)) (fun _ _ => rfl)) (nomark _)) (pw_and1 (pt_cmpR op_gt (pe_cal T hr pass0 (pa_cons (pv 0) (pa_cons pe_int pa_nil))) pe_int (nomark _))))) (pss_one (ps_ret (pv 6))) pss_nil)))))))
      (pss_one (ps_ret (pv 6)))))), ?_⟩
    case g => exact fun cl C s₃ H₃ fp => pg_tup (n := 2) rfl (pgs_cons (pg_name (i := 0) nbW6 rfl (Or.inl rfl) (Or.inr rfl)) (pgs_cons (pg_name (i := 1) nbW6 rfl (Or.inl rfl) (Or.inr rfl)) pgs_nil))
    case t => exact fun cl C s₃ H₃ fp => pts_one (PW.pt (pw_and (pt_cmpR op_eq (pv 1) (pv 2) (nomark _)) (pw_and1 (PW.pt (pw_or (pt_cmpR op_gt (pv 3) (pv 4) (nomark _)) (pw_or1 (pt_cmpR op_ne (pv 0) (pv 5) (nomark _))))))))
    case e => exact fun cl C s₃ H₃ fp => pv 0
    obtain ⟨g1, g2, g3, g4, g5, g6⟩ := LG
    have LG : LogAt H SA LA sas las m L ss ls := ⟨g1, g2, g3, g4, g5, g6⟩
    have nap : a ≠ p := by rintro rfl; obtain ⟨u, v, e, _⟩ := hp; rw [e] at ha; cases ha
    refine ⟨by show 0 ≤ sizeLine; decide, fun Fo hFo => ?_⟩
    have nFp : Fo ≠ p := by rintro rfl; exact hp.some hFo
    have sm0 : Same H (upd H Fo (.lst [])) := same_new hFo
    have hF0 : (upd H Fo (.lst [])) Fo = some (.lst (HV [])) := upd_same
    revert sm0 hF0
    generalize upd H Fo (.lst []) = H0
    intro sm0 hF0
    have ell : (((las.map V.ref).length : Nat) : Int) = (L : Int) := by rw [List.length_map, g4.1]
    refine ⟨_, rfl, _, rfl, LA, _, rfl, .inl (SqL.of (sm0 _ _ g2)), _, _, rfl, rfl, _, rfl, ?_⟩
    refine ite2 (fun e => ite_t ⟨_, rfl, q Fo [] H0 hF0 (by decide) hFo (SameE.of sm0) (hp.same sm0)⟩) (fun e => ?_)
    have hc : c < L := by
      have : ¬ ((((las.map V.ref).length : Nat) : Int) ≤ (c : Int)) := fun z => e (decide_eq_true z)
      rw [ell] at this; omega
    have sl : (ss c).length = m := g5 c (by omega)
    refine ⟨_, rfl, _, rfl, SA, _, _, _, rfl, rfl, SqL.of (sm0 _ _ g1), ref_at (by rw [g3.1]; omega), _, rfl, sas.getD c 0, _, _, _, rfl, rfl, SqT.of (sm0 _ _ (g3.2 c (by omega))), sv_at (by omega), _, rfl, ?_⟩
    refine ite2 (fun e => ⟨_, rfl, q Fo [] H0 hF0 (by decide) hFo (SameE.of sm0) (hp.same sm0)⟩) (fun e2 => ?_)
    obtain ⟨x, hx⟩ : ∃ x, (ss c).getD j none = some x := by
      cases z : (ss c).getD j none with
      | none => exact absurd (decide_eq_true (by rw [z]; rfl)) e2
      | some x => exact ⟨x, rfl⟩
    have at1 : atI (SV (ss c)) (j : Int) = some (.int (x : Int)) := by rw [sv_at (by omega), hx]; rfl
    refine ⟨_, rfl, _, rfl, SA, _, _, _, rfl, rfl, SqL.of (sm0 _ _ g1), ref_at (by rw [g3.1]; omega), _, rfl, sas.getD c 0, _, _, _, rfl, rfl, SqT.of (sm0 _ _ (g3.2 c (by omega))), at1, ?_⟩
    refine ⟨_, rfl, _, rfl, LA, _, rfl, .inl (SqL.of (sm0 _ _ g2)), c, _, rfl, ⟨by omega, by omega, by rw [ell]; omega, by rw [ell]; omega⟩, ?_⟩
    have en : ((((las.map V.ref).length : Nat) : Int) - (c : Int)).toNat = L - c := by rw [ell]; omega
    refine for_range (lo := (c : Int)) (fun k σ H3 => (∃ v8 v9 h, σ = [some (.ref p), some (.ref a), some (.ref SA), some (.ref LA), some (.int j), some (.int c), some (.ref Fo), some (.int (h : Nat)), v8, v9]) ∧ SameE p H H3 ∧ PotAt H3 p ∧ ∃ zs, H3 Fo = some (.lst (HV zs)) ∧ zs.length = k) ⟨⟨_, _, x, rfl⟩, SameE.of sm0, hp.same sm0, [], hF0, rfl⟩ ?_ ?_
    · rintro k σ H3 hk ⟨⟨v8, v9, h, rfl⟩, se3, po3, zs, hF3, zl⟩
      rw [en] at hk
      have ck : (c : Int) + (k : Int) = ((c + k : Nat) : Int) := by omega
      have hck : c + k < L := by omega
      have sl2 : (ss (c + k)).length = m := g5 (c + k) (by omega)
      have LG3 := LG.sameE se3 hp nSp nLp
      obtain ⟨f1, f2, f3, f4, f5, f6⟩ := LG3
      have rat : atI (sas.map V.ref) ((c : Int) + (k : Int)) = some (.ref (sas.getD (c + k) 0)) := by rw [ck]; exact ref_at (by rw [g3.1]; omega)
      have hS3 := f3.2 (c + k) (by omega)
      refine ⟨_, rfl, _, rfl, SA, _, _, _, rfl, rfl, SqL.of f1, rat, sas.getD (c + k) 0, _, rfl, SqT.of hS3, fun D hD => ?_⟩
      refine comp_enumT (K := K) (a := sas.getD (c + k) 0) (xs := SV (ss (c + k))) (fun i ys σ H4 => (∃ u v, σ = [u, v, some (.int (h : Int)), some (.int ((c : Int) + (k : Int))), some (.int c), some (.int j)]) ∧ Same H3 H4 ∧ H4 D = some (.lst ys) ∧ ∃ js, ys = NV js ∧ js.length ≤ i ∧ ∀ y ∈ js, y < m ∧ (ss (c + k)).getD y none = some h)
        ⟨⟨_, _, rfl⟩, same_new hD, upd_same, [], rfl, Nat.le_refl _, fun y hy => (nomatch hy)⟩ (fun i ys σ H4 _ z => SqT.of (z.2.1 _ _ hS3)) ?_ ?_
      · rintro i v t ys σ H4 Kt Kf hv ⟨⟨u, v', rfl⟩, sm4, hD4, js, rfl, jl, jm⟩ ht kt kf
        obtain ⟨hi, rfl⟩ := sv_get hv
        have skip : Same H3 (upd H4 t (.tup [.int (i : Int), stV ((ss (c + k)).getD i none)])) := sm4.trans (same_new ht)
        refine ⟨_, _, rfl, SqT.of upd_same, rfl, _, _, rfl, _, _, rfl, rfl, ?_⟩
        refine ⟨_, rfl, _, rfl, scal_sv, _, rfl, ?_⟩
        have no : Kf [some (.int (i : Int)), some (stV ((ss (c + k)).getD i none)), some (.int (h : Int)), some (.int ((c : Int) + (k : Int))), some (.int c), some (.int j)] (upd H4 t (.tup [.int (i : Int), stV ((ss (c + k)).getD i none)])) := kf _ _ ⟨⟨_, _, rfl⟩, skip, same_new ht _ _ hD4, js, rfl, by omega, jm⟩
        refine ite2 (fun e5 => ?_) (fun e5 => ite_f no)
        have hh : (ss (c + k)).getD i none = some h := stV_inj (of_decide_eq_true e5 : stV ((ss (c + k)).getD i none) = stV (some h))
        have yes : Kt (.int (i : Int)) [some (.int (i : Int)), some (stV ((ss (c + k)).getD i none)), some (.int (h : Int)), some (.int ((c : Int) + (k : Int))), some (.int c), some (.int j)] (upd H4 t (.tup [.int (i : Int), stV ((ss (c + k)).getD i none)])) := by
          refine kt _ _ _ (same_new ht _ _ hD4) ?_ ⟨⟨_, _, rfl⟩, fun b u e => ?_, upd_same, js ++ [i], ?_, by rw [List.length_append]; simp; omega, fun y hy => ?_⟩
          · rw [List.length_map]; exact Nat.lt_of_le_of_lt jl (Nat.lt_of_lt_of_le (show i < 17 by omega) (by decide))
          · rw [upd_ne (ne_of_none e hD)]
            exact skip _ _ e
          · unfold NV; rw [List.map_append]; rfl
          · rcases List.mem_append.mp hy with z | z
            · exact jm y z
            · rw [List.mem_singleton.mp z]; exact ⟨by omega, hh⟩
        refine ⟨_, rfl, _, rfl, _, _, rfl, rfl, _, rfl, ?_⟩
        refine ite2 (fun e6 => ite_t ⟨_, rfl, yes⟩) (fun e6 => ?_)
        refine ⟨_, rfl, _, rfl, rfl, _, rfl, ?_⟩
        exact ite2 (fun e7 => ⟨_, rfl, yes⟩) (fun e7 => no)
      · rintro ys σ H4 ⟨_, sm4, hD4, js, rfl, jl, jm⟩
        rw [show (SV (ss (c + k))).length = (ss (c + k)).length from List.length_map _, sl2] at jl
        have hF4 : H4 Fo = some (.lst (HV zs)) := sm4 _ _ hF3
        have nDp : D ≠ p := by rintro rfl; exact po3.some hD
        have nDF : D ≠ Fo := (ne_of_none hF3 hD).symm
        refine ⟨_, rfl, by show 0 ≤ sizeLine; decide, fun L0 hL0 => ⟨D, L0, _, _, rfl, rfl, SqL.of (same_new hL0 _ _ hD4), SqL.of upd_same, fun i _ hi => absurd hi (by simp), _, rfl, ?_⟩⟩
        have sm5 : Same H3 (upd H4 L0 (.lst [])) := sm4.trans (same_new hL0)
        have hD5 : (upd H4 L0 (.lst [])) D = some (.lst (NV js)) := same_new hL0 _ _ hD4
        revert sm5 hD5
        generalize upd H4 L0 (.lst []) = H5
        intro sm5 hD5
        have po5 := po3.same sm5
        have hF5 := sm5 _ _ hF3
        refine ite2 (fun e5 => ⟨_, rfl, q Fo zs H5 hF5 (by omega) hFo (se3.trans (SameE.of sm5)) po5⟩) (fun e5 => ?_)
        have jne : 0 < js.length := by
          cases js with
          | nil => exact absurd rfl e5
          | cons y ys => simp
        refine ⟨_, rfl, .inl ⟨rfl, _, SqL.of hF5⟩, _, rfl, _, rfl, _, rfl, D, _, rfl, .inl (SqL.of hD5), p, _, rfl, by rw [List.length_map]; omega, by rw [List.length_map]; omega, po5, fun d a2 b2 d0 d1 k0 k1 k2 => ?_⟩
        rw [List.length_map] at d1
        obtain ⟨dn, rfl⟩ : ∃ dn : Nat, (dn : Int) = d := ⟨d.toNat, by omega⟩
        have hdn : dn < js.length := by omega
        obtain ⟨ym, yh⟩ := jm _ (getD_mem hdn)
        have aty : atI (NV js) (dn : Int) = some (.int ((js.getD dn 0 : Nat) : Int)) := nv_at hdn
        revert ym yh aty
        generalize js.getD dn 0 = y
        intro ym yh aty
        have se6 : SameE p H (upd H5 p (.lst [.int a2, .int b2])) := (se3.trans (SameE.of sm5)).trans SameE.upd
        have po6 : PotAt (upd H5 p (.lst [.int a2, .int b2])) p := PotAt.upd k0 k1 k2
        have hD6 : (upd H5 p (.lst [.int a2, .int b2])) D = some (.lst (NV js)) := by rw [upd_ne nDp]; exact hD5
        have hF6 : (upd H5 p (.lst [.int a2, .int b2])) Fo = some (.lst (HV zs)) := by rw [upd_ne nFp]; exact hF5
        revert se6 po6 hD6 hF6
        generalize upd H5 p (.lst [.int a2, .int b2]) = H6
        intro se6 po6 hD6 hF6
        refine ⟨D, _, _, _, rfl, rfl, SqL.of hD6, aty, Fo, _, _, rfl, rfl, hF6, by rw [List.length_map, zl]; exact Nat.lt_of_lt_of_le (show k < 31 by omega) (by decide), ?_⟩
        have se7 : SameE p H (upd H6 Fo (.lst (HV zs ++ [.int (y : Int)]))) := sameE_put se6 hFo
        have po7 : PotAt (upd H6 Fo (.lst (HV zs ++ [.int (y : Int)]))) p := by obtain ⟨u, v, e, z⟩ := po6; exact ⟨u, v, by rw [upd_ne nFp.symm]; exact e, z⟩
        have hF7 : (upd H6 Fo (.lst (HV zs ++ [.int (y : Int)]))) Fo = some (.lst (HV (zs ++ [(y : Int)]))) := by rw [upd_same]; unfold HV; rw [List.map_append]; rfl
        revert se7 po7 hF7
        generalize upd H6 Fo (.lst (HV zs ++ [.int (y : Int)])) = H7
        intro se7 po7 hF7
        have LG7 := LG.sameE se7 hp nSp nLp
        obtain ⟨f1, f2, f3, f4, f5, f6⟩ := LG7
        obtain ⟨mv1, mv2, mv3⟩ := g6 (c + k) hck
        obtain ⟨o, ho, hne⟩ := mv3 y h yh
        have at2 : atI (SV (ls (c + k))) (y : Int) = some (.int (o : Int)) := by rw [sv_at (by omega), ho]; rfl
        have rat2 : atI (las.map V.ref) ((c : Int) + (k : Int)) = some (.ref (las.getD (c + k) 0)) := by rw [ck]; exact ref_at (by rw [g4.1]; exact hck)
        have atl : atI (HV (zs ++ [(y : Int)])) (-1) = some (.int (y : Int)) := by unfold HV; rw [List.map_append]; exact atI_last _ _
        have ha7 := se7 _ _ ha nap
        have zl2 : (zs ++ [(y : Int)]).length = k + 1 := by rw [List.length_append, zl]; rfl
        refine ⟨_, rfl, _, rfl, LA, _, _, _, rfl, rfl, SqL.of f2, rat2, _, rfl, _, rfl, Fo, _, _, _, rfl, rfl, SqL.of hF7, atl, las.getD (c + k) 0, _, _, _, rfl, rfl, SqT.of (f4.2 (c + k) hck), at2, ?_⟩
        refine ⟨_, rfl, _, rfl, _, rfl, _, rfl, Fo, _, _, _, rfl, rfl, SqL.of hF7, atl, a, _, _, _, rfl, rfl, SqT.of ha7, hv_at (by omega), rfl, _, rfl, ?_⟩
        refine ite2 (fun e8 => ?_) (fun e8 => ite_f ⟨⟨_, _, o, rfl⟩, se7, po7, _, hF7, zl2⟩)
        refine ⟨_, rfl, p, 4, rfl, by decide, by decide, po7, fun d8 a8 b8 p8 q8 r8 s8 t8 => ⟨_, _, rfl, rfl, _, rfl, ?_⟩⟩
        have hF8 : (upd H7 p (.lst [.int a8, .int b8])) Fo = some (.lst (HV (zs ++ [(y : Int)]))) := by rw [upd_ne nFp]; exact hF7
        exact ite2 (fun e9 => ⟨_, rfl, q Fo _ _ hF8 (by omega) hFo (se7.trans SameE.upd) (PotAt.upd r8 s8 t8)⟩) (fun e9 => ⟨⟨_, _, o, rfl⟩, se7.trans SameE.upd, PotAt.upd r8 s8 t8, _, hF8, zl2⟩)
    · rintro σ H3 ⟨⟨v8, v9, h, rfl⟩, se3, po3, zs, hF3, zl⟩
      rw [en] at zl
      exact ⟨_, rfl, q Fo zs H3 hF3 (by omega) hFo se3 po3⟩
end
end K61

set_option maxHeartbeats 1500000
namespace K61
open PySem L2
abbrev sBent : Stmt := top 23
abbrev sTold : Stmt := top 24
abbrev sAsked : Stmt := top 25
theorem cut_hv {zs : List Int} {lo hi : Option Int} : ∃ zs', cutV (HV zs) lo hi = HV zs' ∧ zs'.length ≤ zs.length := by
  refine ⟨(zs.drop (HT.sIx (HV zs).length 0 lo)).take (HT.sIx (HV zs).length (HV zs).length hi - HT.sIx (HV zs).length 0 lo), ?_, ?_⟩
  · unfold cutV HV
    rw [List.map_take, List.map_drop]
  · rw [List.length_take, List.length_drop]; omega
theorem allEq_self : ∀ {zs : List Int}, allEq eqV (HV zs) (HV zs) = true
  | [] => rfl
  | z :: zs => by
    have ih := allEq_self (zs := zs)
    unfold HV at ih ⊢
    rw [List.map_cons]
    unfold allEq
    rw [ih, Bool.and_true]
    show (z == z) = true
    simp
section
variable {P : Program} {w : World} {K : PySem.W.Frag} {mg : Str → Option Value} {base : Heap}
theorem scBent : FnScope ["_law_pot_here", "_law_thing", "_law_many", "_law_way", "_law_at", "_law_other"] ["_law_pot_here", "_law_thing", "_law_many"] (defScope sBent) := ⟨rfl, rfl, rfl, by decide +kernel, rfl, by decide +kernel, by decide +kernel⟩
def spBent : Sp := fun vs H Q _ => ∃ (p Z : Addr) (zs : List Int) (m : Nat), vs = [.ref p, .ref Z, .int m] ∧ PotAt H p ∧ H Z = some (.lst (HV zs)) ∧ zs.length ≤ 30 ∧ 1 ≤ m ∧ m ≤ 16 ∧ Z ≠ p ∧
  ∀ (r : Addr) (zs' : List Int) (H' : Hp), H' r = some (.lst (HV zs')) → H r = none → SameE p H H' → PotAt H' p → Q (.ref r) H'
theorem ok_bent {f : Addr} {fd : FuncData} (F : Fun K "_law_bent" "_law_bent" sBent f fd) (B : Bl mg) (T : Cal P w K mg base CX0 1 "_law_take" ["_law_pot_here", "_law_many"] spTake) : FnOk P w K mg base CX0 2 f fd ["_law_pot_here", "_law_thing", "_law_many"] spBent := by
  refine F.ok scBent (fun vs H Q E h => ?_) (fun cdv A outer s H vs Q E hr h => ?_)
  · obtain ⟨p, Z, zs, m, rfl, _⟩ := h
    rfl
  · obtain ⟨p, Z, zs, m, rfl, hp, hZ, z30, m1, m16, nZp, q⟩ := h
    refine' ⟨_, pss_cons (ps_set (i := 3) scBent.nd rfl (Or.inl rfl) (pe_cal T hr pass0 (pa_cons (pv 0) (pa_cons pe_int pa_nil))))
      (pss_cons (ps_set (i := 4) scBent.nd rfl (Or.inl rfl) (pe_cal T hr pass0 (pa_cons (pv 0) (pa_cons (pe_op op_add (pe_callB call_len_seq (by rfl) B.len PySem.boot_len (pa_cons (pv 1) pa_nil)) pe_int) pa_nil))))
      (pss_cons (ps_set (i := 5) scBent.nd rfl (Or.inl rfl) (pe_ixl (pa_cons (pe_un un_neg pe_int) (pa_cons (pv 2) (pa_cons (pe_op op_pow pe_int pe_int) (pa_cons (pe_cal T hr pass0 (pa_cons (pv 0) (pa_cons (pv 2) pa_nil))) (pa_cons (pe_cal T hr pass0 (pa_cons (pv 0) (pa_cons (pv 2) pa_nil))) pa_nil))))) (pe_cal T hr pass0 (pa_cons (pv 0) (pa_cons pe_int pa_nil))) (fun _ _ => rfl)))
      (pss_cons (ps_if (pt_cmpR op_eq (pv 3) pe_int (nomark _)) (pss_one (ps_ret (pe_op op_cat (pe_op op_cat (pe_slice sl_list (pv 1) po_none (po_some (pv 4))) (pe_lst (pa_cons (pv 5) pa_nil))) (pe_slice sl_list (pv 1) (po_some (pe_op op_add (pv 4) pe_int)) po_none)))) pss_nil)
      (pss_cons (ps_if (pt_cmpR op_eq (pv 3) pe_int (nomark _)) (pss_one (ps_ret (pe_op op_cat (pe_op op_cat (pe_slice sl_list (pv 1) po_none (po_some (pv 4))) (pe_lst (pa_cons (pv 5) pa_nil))) (pe_slice sl_list (pv 1) (po_some (pv 4)) po_none)))) pss_nil)
      (pss_cons (ps_if (pt_cmpR op_eq (pv 3) pe_int (nomark _)) (pss_one (ps_ret (pe_op op_cat (pe_slice sl_list (pv 1) po_none (po_some (pv 4))) (pe_slice sl_list (pv 1) (po_some (pe_op op_add (pv 4) pe_int)) po_none)))) pss_nil)
      (pss_cons (ps_if (pt_cmpR op_eq (pv 3) pe_int (nomark _)) (pss_one (ps_ret (pe_op op_cat (pv 1) (pe_slice sl_list (pv 1) (po_some (pe_un un_neg pe_int)) po_none)))) pss_nil)
      (pss_cons (ps_if (pt_cmpR op_eq (pv 3) pe_int (nomark _)) (pss_one (ps_ret (pe_sliceS (pv 1) po_none po_none (po_some (pe_un un_neg pe_int))))) pss_nil)
      (pss_one (ps_ret (pe_callTy call_list_of (by rfl) B.lst PyProof.Rows.boot_list (pa_cons (pv 1) pa_nil))))))))))), ?_⟩
    refine ⟨_, rfl, p, 8, rfl, by decide, by decide, hp, fun way a b y0 y1 a0 b0 b1 => ?_⟩
    have hZ1 : (upd H p (.lst [.int a, .int b])) Z = some (.lst (HV zs)) := by rw [upd_ne nZp]; exact hZ
    refine ⟨_, rfl, _, rfl, Z, _, rfl, .inl (SqL.of hZ1), _, _, rfl, rfl, p, _, rfl, by omega, by rw [List.length_map]; omega, PotAt.upd a0 b0 b1, fun at_ a2 b2 x0 x1 c0 c1 c2 => ?_⟩
    rw [upd_upd]
    refine ⟨_, rfl, _, rfl, _, _, rfl, rfl, ⟨by decide, by decide, by decide⟩, _, rfl, _, rfl, p, m, rfl, by omega, by omega, PotAt.upd c0 c1 c2, fun d3 a3 b3 p3 q3 r3 s3 t3 => ⟨_, rfl, _, rfl, p, m, rfl, by omega, by omega, PotAt.upd r3 s3 t3, fun d4 a4 b4 p4 q4 r4 s4 t4 => ⟨by show 5 ≤ sizeLine; decide, fun L hL => ?_⟩⟩⟩
    rw [upd_upd, upd_upd] at hL
    rw [upd_upd, upd_upd]
    have po4 : PotAt (upd H p (.lst [.int a4, .int b4])) p := PotAt.upd r4 s4 t4
    have nLp : L ≠ p := by rintro rfl; exact po4.some hL
    refine ⟨_, rfl, p, 5, rfl, by decide, by decide, po4.same (same_new hL), fun d5 a5 b5 p5 q5 r5 s5 t5 => ?_⟩
    obtain ⟨dn, rfl⟩ : ∃ dn : Nat, (dn : Int) = d5 := ⟨d5.toNat, by omega⟩
    have hat : atI [V.int (-1), V.int (m : Int), V.int ((10 : Int) ^ (40 : Int).toNat), V.int d3, V.int d4] (dn : Int) = some (.int ([-1, (m : Int), (10 : Int) ^ (40 : Int).toNat, d3, d4].getD dn 0)) := hv_at (s := [-1, (m : Int), (10 : Int) ^ (40 : Int).toNat, d3, d4]) (i := dn) (by show dn < 5; omega)
    refine ⟨L, _, _, _, rfl, rfl, SqL.of (by rw [upd_ne nLp]; exact upd_same), hat, ?_⟩
    generalize ([-1, (m : Int), (10 : Int) ^ (40 : Int).toNat, d3, d4].getD dn 0) = other
    have se5 : SameE p H (upd (upd (upd H p (.lst [.int a4, .int b4])) L (.lst [.int (-1), .int (m : Int), .int ((10 : Int) ^ (40 : Int).toNat), .int d3, .int d4])) p (.lst [.int a5, .int b5])) := (SameE.upd.trans (SameE.of (same_new hL))).trans SameE.upd
    have po5 : PotAt (upd (upd (upd H p (.lst [.int a4, .int b4])) L (.lst [.int (-1), .int (m : Int), .int ((10 : Int) ^ (40 : Int).toNat), .int d3, .int d4])) p (.lst [.int a5, .int b5])) p := PotAt.upd r5 s5 t5
    revert se5 po5
    generalize upd (upd (upd H p (.lst [.int a4, .int b4])) L (.lst [.int (-1), .int (m : Int), .int ((10 : Int) ^ (40 : Int).toNat), .int d3, .int d4])) p (.lst [.int a5, .int b5]) = H5
    intro se5 po5
    have hZ5 := se5 _ _ hZ nZp
    have fin : ∀ (r : Addr) (zs' : List Int) (H6 : Hp), Same H5 H6 → H6 r = none → Q (.ref r) (upd H6 r (.lst (HV zs'))) := fun r zs' H6 sm hr' =>
      q r zs' _ upd_same (se5.free po5.some (sm.free hr')) (se5.trans (SameE.of (sm.trans (same_new hr')))) (po5.same (sm.trans (same_new hr')))
    have cat2 : ∀ (xs ys : List Int), HV xs ++ HV ys = HV (xs ++ ys) := fun xs ys => by unfold HV; rw [List.map_append]
    have sz : ∀ k : Nat, k ≤ 100 → k ≤ sizeLine := fun k hk => Nat.le_trans hk (by decide)
    refine ⟨_, rfl, rfl, _, rfl, ?_⟩
    refine ite2 (fun e => ?_) (fun _ => ?_)
    · obtain ⟨c1, hc1, l1⟩ := cut_hv (zs := zs) (lo := none) (hi := some at_)
      obtain ⟨c2, hc2, l2⟩ := cut_hv (zs := zs) (lo := some (at_ + 1)) (hi := none)
      refine ⟨_, rfl, _, rfl, _, rfl, Z, _, rfl, SqL.of hZ5, fun S1 h1 => ?_⟩
      rw [hc1]
      refine ⟨_, rfl, by show 1 ≤ sizeLine; decide, fun S2 h2 => ⟨S1, S2, _, _, rfl, rfl, same_new h2 _ _ upd_same, upd_same, by rw [List.length_map]; exact sz _ (by show c1.length + 1 ≤ 100; omega), fun S3 h3 => ?_⟩⟩
      have sm3 := ((same_new h1).trans (same_new h2)).trans (same_new (o := .lst (HV c1 ++ [.int other])) h3)
      refine ⟨_, rfl, _, rfl, _, _, rfl, rfl, _, rfl, Z, _, rfl, SqL.of (sm3 _ _ hZ5), fun S4 h4 => ?_⟩
      rw [hc2]
      refine ⟨S3, S4, _, _, rfl, rfl, same_new h4 _ _ upd_same, upd_same, ?_, fun r hr' => ?_⟩
      · rw [List.length_append, List.length_map, List.length_map]
        exact sz _ (by show c1.length + 1 + c2.length ≤ 100; omega)
      · have e3 : HV c1 ++ [V.int other] ++ HV c2 = HV (c1 ++ [other] ++ c2) := by rw [← cat2, ← cat2]; rfl
        rw [e3]
        exact fin r _ _ (sm3.trans (same_new h4)) hr'
    refine ⟨_, rfl, rfl, _, rfl, ?_⟩
    refine ite2 (fun e => ?_) (fun _ => ?_)
    · obtain ⟨c1, hc1, l1⟩ := cut_hv (zs := zs) (lo := none) (hi := some at_)
      obtain ⟨c2, hc2, l2⟩ := cut_hv (zs := zs) (lo := some at_) (hi := none)
      refine ⟨_, rfl, _, rfl, _, rfl, Z, _, rfl, SqL.of hZ5, fun S1 h1 => ?_⟩
      rw [hc1]
      refine ⟨_, rfl, by show 1 ≤ sizeLine; decide, fun S2 h2 => ⟨S1, S2, _, _, rfl, rfl, same_new h2 _ _ upd_same, upd_same, by rw [List.length_map]; exact sz _ (by show c1.length + 1 ≤ 100; omega), fun S3 h3 => ?_⟩⟩
      have sm3 := ((same_new h1).trans (same_new h2)).trans (same_new (o := .lst (HV c1 ++ [.int other])) h3)
      refine ⟨_, rfl, _, rfl, _, rfl, Z, _, rfl, SqL.of (sm3 _ _ hZ5), fun S4 h4 => ?_⟩
      rw [hc2]
      refine ⟨S3, S4, _, _, rfl, rfl, same_new h4 _ _ upd_same, upd_same, ?_, fun r hr' => ?_⟩
      · rw [List.length_append, List.length_map, List.length_map]
        exact sz _ (by show c1.length + 1 + c2.length ≤ 100; omega)
      · have e3 : HV c1 ++ [V.int other] ++ HV c2 = HV (c1 ++ [other] ++ c2) := by rw [← cat2, ← cat2]; rfl
        rw [e3]
        exact fin r _ _ (sm3.trans (same_new h4)) hr'
    refine ⟨_, rfl, rfl, _, rfl, ?_⟩
    refine ite2 (fun e => ?_) (fun _ => ?_)
    · obtain ⟨c1, hc1, l1⟩ := cut_hv (zs := zs) (lo := none) (hi := some at_)
      obtain ⟨c2, hc2, l2⟩ := cut_hv (zs := zs) (lo := some (at_ + 1)) (hi := none)
      refine ⟨_, rfl, _, rfl, _, rfl, Z, _, rfl, SqL.of hZ5, fun S1 h1 => ?_⟩
      rw [hc1]
      refine ⟨_, rfl, _, rfl, _, _, rfl, rfl, _, rfl, Z, _, rfl, SqL.of (same_new h1 _ _ hZ5), fun S4 h4 => ?_⟩
      rw [hc2]
      refine ⟨S1, S4, _, _, rfl, rfl, same_new h4 _ _ upd_same, upd_same, ?_, fun r hr' => ?_⟩
      · rw [List.length_map, List.length_map]
        exact sz _ (by omega)
      · rw [cat2]
        exact fin r _ _ ((same_new h1).trans (same_new h4)) hr'
    refine ⟨_, rfl, rfl, _, rfl, ?_⟩
    refine ite2 (fun e => ?_) (fun _ => ?_)
    · obtain ⟨c2, hc2, l2⟩ := cut_hv (zs := zs) (lo := some (-1)) (hi := none)
      refine ⟨_, rfl, _, rfl, _, rfl, _, rfl, Z, _, rfl, SqL.of hZ5, fun S4 h4 => ?_⟩
      rw [hc2]
      refine ⟨Z, S4, _, _, rfl, rfl, same_new h4 _ _ hZ5, upd_same, ?_, fun r hr' => ?_⟩
      · rw [List.length_map, List.length_map]
        exact sz _ (by omega)
      · rw [cat2]
        exact fin r _ _ (same_new h4) hr'
    refine ⟨_, rfl, rfl, _, rfl, ?_⟩
    refine ite2 (fun e => ?_) (fun _ => ?_)
    · exact ⟨_, rfl, _, rfl, _, rfl, Z, zs, rfl, SqL.of hZ5, by decide, fun r ns' hr' _ => fin r ns' _ (Same.refl _) hr'⟩
    · exact ⟨_, rfl, Z, _, rfl, .inl (SqL.of hZ5), fun r hr' => fin r zs _ (Same.refl _) hr'⟩
end
end K61

set_option maxHeartbeats 1500000
namespace K61
open PySem L2
abbrev psC : List Str := ["homes", "stands", "log", "letter", "beat", "thing"]
abbrev psL : List Str := ["_law_homes", "_law_stands", "_law_log", "_law_i", "_law_beat", "_law_thing"]
section
variable {P : Program} {w : World} {K : PySem.W.Frag} {mg : Str → Option Value} {base : Heap}
theorem scTold : FnScope ["_law_homes", "_law_stands", "_law_log", "_law_i", "_law_beat", "_law_thing", "_law_handed", "_law_told"] psL (defScope sTold) := ⟨rfl, rfl, rfl, by decide +kernel, rfl, by decide +kernel, by decide +kernel⟩
def spTold : Sp := fun vs H Q _ => ∃ (a SA LA Z : Addr) (sas las : List Addr) (m L : Nat) (ss ls : Nat → List (Option Nat)) (hs zs : List Int) (j c : Nat), vs = [.ref a, .ref SA, .ref LA, .int j, .int c, .ref Z] ∧ H a = some (.tup (HV hs)) ∧ hs.length = m ∧ LogAt H SA LA sas las m L ss ls ∧ H Z = some (.lst (HV zs)) ∧ j < m ∧
  ∀ H', Same H H' → Q (.bl true) H'
theorem flat_hv {zs : List Int} {i : Nat} (h : i < (HV zs).length) : flatV ((HV zs).getD i .non) = true := by
  rw [List.getD_eq_getElem?_getD, List.getElem?_eq_getElem h]
  show flatV (HV zs)[i] = true
  rw [List.getElem_map]
  rfl
theorem ok_told {f : Addr} {fd : FuncData} (F : Fun K "_law_is_told" "_law_is_told" sTold f fd) (B : Bl mg) (CH : Cal P w K mg base CX0 5 "is_chain" psC spChain) (CL : Cal P w K mg base CX0 1 "_law_is_chain" psL spChainL) : FnOk P w K mg base CX0 6 f fd psL spTold := by
  refine F.ok scTold (fun vs H Q E h => ?_) (fun cdv A outer s H vs Q E hr h => ?_)
  · obtain ⟨a, SA, LA, Z, sas, las, m, L, ss, ls, hs, zs, j, c, rfl, _⟩ := h
    rfl
  · obtain ⟨a, SA, LA, Z, sas, las, m, L, ss, ls, hs, zs, j, c, rfl, ha, hl, LG, hZ, hj, q⟩ := h
    have hu : (A.deeper (PyProof.Rows.envOfC "_law_is_told" (defScope sTold) s.heap.objs.size f cdv)).units + 2 < cLine := by have := hr.un; omega
    have hr1 : Room 1 (A.deeper (PyProof.Rows.envOfC "_law_is_told" (defScope sTold) s.heap.objs.size f cdv)) := hr.mono (by decide)
    refine' ⟨_, pss_cons (ps_set (i := 6) scTold.nd rfl (Or.inl rfl) (pe_callTy call_list_of (by rfl) B.lst PyProof.Rows.boot_list (pa_cons (pv 5) pa_nil)))
      (pss_cons (ps_set (i := 7) scTold.nd rfl (Or.inl rfl) (pe_cal CH hr pass0 (pa_cons (pv 0) (pa_cons (pv 1) (pa_cons (pv 2) (pa_cons (pv 3) (pa_cons (pv 4) (pa_cons (pv 6) pa_nil))))))))
      (pss_one (ps_ret (pe_and (pe_callB call_isi (by rfl) B.isi PyProof.Rows.boot_isinstance (pa_cons (pv 7) (pa_cons (pe_bltn (v := .ty "bool") rfl B.bool PyProof.Rows.boot_bool rfl) pa_nil)))
        (pe_and (pe_cmpR op_eq (pv 7) (pe_cal CL hr1 pass0 (pa_cons (pv 0) (pa_cons (pv 1) (pa_cons (pv 2) (pa_cons (pv 3) (pa_cons (pv 4) (pa_cons (pv 5) pa_nil))))))) (nomark _))
        (pe_one (pe_cmpR (op_eqL (e := eqV) hu) (pv 6) (pv 5) (nomark _)))))))), ?_⟩
    refine ⟨_, rfl, Z, _, rfl, .inl (SqL.of hZ), fun Y hY => ?_⟩
    have sm0 : Same H (upd H Y (.lst (HV zs))) := same_new hY
    have hY0 : (upd H Y (.lst (HV zs))) Y = some (.lst (HV zs)) := upd_same
    revert sm0 hY0
    generalize upd H Y (.lst (HV zs)) = H0
    intro sm0 hY0
    refine ⟨_, rfl, _, rfl, _, rfl, _, rfl, _, rfl, _, rfl, a, SA, LA, Y, sas, las, m, L, ss, ls, hs, zs, j, c, rfl, sm0 _ _ ha, hl, LG.same sm0, hY0, fun H1 sm1 => ?_⟩
    have sm01 := sm0.trans sm1
    refine ⟨_, rfl, _, _, _, .type "bool", true, rfl, ⟨rfl, kit_bool_bool⟩, .of (.bl _), true, rfl, ?_⟩
    refine ⟨_, rfl, _, rfl, _, rfl, _, rfl, _, rfl, _, rfl, _, rfl, a, SA, LA, Z, sas, las, m, L, ss, ls, hs, zs, j, c, rfl, sm01 _ _ ha, hl, LG.same sm01, sm01 _ _ hZ, hj, fun H2 sm2 => ⟨rfl, _, rfl, ?_⟩⟩
    refine ite2 (fun e => ?_) (fun e => absurd (decide_eq_true rfl) e)
    refine ⟨_, rfl, _, rfl, Y, Z, _, _, rfl, rfl, SqL.of (sm2 _ _ (sm1 _ _ hY0)), SqL.of (sm2 _ _ (sm01 _ _ hZ)), fun i h1 h2 => elEq_flat (flat_hv h1) (flat_hv h2), ?_⟩
    have e2 : (if false = true then !allEq eqV (HV zs) (HV zs) else allEq eqV (HV zs) (HV zs)) = true := by rw [if_neg (by decide)]; exact allEq_self
    rw [e2]
    exact q H2 (sm01.trans sm2)
theorem scAsked : FnScope ["_law_pot_here", "_law_homes", "_law_stands", "_law_log", "_law_i", "_law_beat", "_law_thing", "_law_bent_here", "_law_j", "_law_none"] ["_law_pot_here", "_law_homes", "_law_stands", "_law_log"] (defScope sAsked) := ⟨rfl, rfl, rfl, by decide +kernel, rfl, by decide +kernel, by decide +kernel⟩
def spAsked : Sp := fun vs H Q _ => ∃ (p a SA LA : Addr) (sas las : List Addr) (m L : Nat) (ss ls : Nat → List (Option Nat)) (hs : List Int), vs = [.ref p, .ref a, .ref SA, .ref LA] ∧ PotAt H p ∧ H a = some (.tup (HV hs)) ∧ hs.length = m ∧ LogAt H SA LA sas las m L ss ls ∧ 1 ≤ m ∧ m ≤ 16 ∧ L ≤ 30 ∧ SA ≠ p ∧ LA ≠ p ∧
  ∀ (H' : Hp), SameE p H H' → PotAt H' p → Q (.bl true) H'
theorem chain_noI {hs : List Int} {m L : Nat} {ss ls : Nat → List (Option Nat)} {i b : Int} {zs : List Int} (h : ¬ (0 ≤ i ∧ i ≤ (m : Int) - 1)) : chainB hs m L ss ls i b zs = false := by
  unfold chainB handedB
  have : inR 0 ((m : Int) - 1) i = false := by rw [Bool.eq_false_iff]; exact fun z => h (inR_iff.mp z)
  rw [this, Bool.false_and, Bool.and_false, Bool.false_and]
theorem chain_noB {hs : List Int} {m L : Nat} {ss ls : Nat → List (Option Nat)} {i b : Int} {zs : List Int} (h : b < 0) : chainB hs m L ss ls i b zs = false := by
  unfold chainB handedB
  have : inR 0 ((L : Int) - 1) b = false := by rw [Bool.eq_false_iff]; intro z; have := inR_iff.mp z; omega
  rw [this, Bool.false_and, Bool.false_and]
theorem ok_asked {f : Addr} {fd : FuncData} (F : Fun K "_law_asked" "_law_asked" sAsked f fd) (B : Bl mg) (T : Cal P w K mg base CX0 1 "_law_take" ["_law_pot_here", "_law_many"] spTake)
    (WK : Cal P w K mg base CX0 2 "_law_walked" ["_law_pot_here", "_law_homes", "_law_stands", "_law_log", "_law_i", "_law_beat"] spWalk) (BT : Cal P w K mg base CX0 2 "_law_bent" ["_law_pot_here", "_law_thing", "_law_many"] spBent)
    (CH : Cal P w K mg base CX0 5 "is_chain" psC spChain) (TD : Cal P w K mg base CX0 6 "_law_is_told" psL spTold) : FnOk P w K mg base CX0 7 f fd ["_law_pot_here", "_law_homes", "_law_stands", "_law_log"] spAsked := by
  refine F.ok scAsked (fun vs H Q E h => ?_) (fun cdv A outer s H vs Q E hr h => ?_)
  · obtain ⟨p, a, SA, LA, sas, las, m, L, ss, ls, hs, rfl, _⟩ := h
    rfl
  · obtain ⟨p, a, SA, LA, sas, las, m, L, ss, ls, hs, rfl, hp, ha, hl, LG, m1, m16, L30, nSp, nLp, q⟩ := h
    have hr1 : Room 1 (A.deeper (PyProof.Rows.envOfC "_law_asked" (defScope sAsked) s.heap.objs.size f cdv)) := hr.mono (by decide)
    have hr2 : Room 2 (A.deeper (PyProof.Rows.envOfC "_law_asked" (defScope sAsked) s.heap.objs.size f cdv)) := hr.mono (by decide)
    have hr5 : Room 5 (A.deeper (PyProof.Rows.envOfC "_law_asked" (defScope sAsked) s.heap.objs.size f cdv)) := hr.mono (by decide)
    refine' ⟨_, pss_cons (ps_set (i := 4) scAsked.nd rfl (Or.inl rfl) (pe_cal T hr1 pass0 (pa_cons (pv 0) (pa_cons (pe_callB call_len_seq (by rfl) B.len PySem.boot_len (pa_cons (pv 1) pa_nil)) pa_nil))))
      (pss_cons (ps_set (i := 5) scAsked.nd rfl (Or.inl rfl) (pe_cal T hr1 pass0 (pa_cons (pv 0) (pa_cons (pe_op op_add (pe_callB call_len_seq (by rfl) B.len PySem.boot_len (pa_cons (pv 3) pa_nil)) pe_int) pa_nil))))
      (pss_cons (ps_set (i := 6) scAsked.nd rfl (Or.inl rfl) (pe_cal WK hr2 pass0 (pa_cons (pv 0) (pa_cons (pv 1) (pa_cons (pv 2) (pa_cons (pv 3) (pa_cons (pv 4) (pa_cons (pv 5) pa_nil))))))))
      (pss_cons (ps_set (i := 7) scAsked.nd rfl (Or.inl rfl) (pe_cal BT hr2 pass0 (pa_cons (pv 0) (pa_cons (pv 6) (pa_cons (pe_callB call_len_seq (by rfl) B.len PySem.boot_len (pa_cons (pv 1) pa_nil)) pa_nil)))))
      (pss_cons (ps_if (PW.pt (pw_or (pt_not (pt_val (pe_cal TD hr pass0 (pa_cons (pv 1) (pa_cons (pv 2) (pa_cons (pv 3) (pa_cons (pv 4) (pa_cons (pv 5) (pa_cons (pv 6) pa_nil))))))))) (pw_or1 (pt_not (pt_val (pe_cal TD hr pass0 (pa_cons (pv 1) (pa_cons (pv 2) (pa_cons (pv 3) (pa_cons (pv 4) (pa_cons (pv 5) (pa_cons (pv 7) pa_nil)))))))))))) (pss_one (ps_ret pe_bl)) pss_nil)
      (pss_cons (ps_set (i := 8) scAsked.nd rfl (Or.inl rfl) (pe_cal T hr1 pass0 (pa_cons (pv 0) (pa_cons (pe_callB call_len_seq (by rfl) B.len PySem.boot_len (pa_cons (pv 1) pa_nil)) pa_nil))))
      (pss_cons (ps_if (PW.pt (pw_or (pt_not (pt_val (pe_cal TD hr pass0 (pa_cons (pv 1) (pa_cons (pv 2) (pa_cons (pv 3) (pa_cons (pv 8) (pa_cons (pv 5) (pa_cons (pv 6) pa_nil))))))))) (pw_or1 (pt_not (pt_val (pe_cal TD hr pass0 (pa_cons (pv 1) (pa_cons (pv 2) (pa_cons (pv 3) (pa_cons (pv 4) (pa_cons (pe_op op_add (pv 5) pe_int) (pa_cons (pv 6) pa_nil)))))))))))) (pss_one (ps_ret pe_bl)) pss_nil)
      (pss_cons (ps_set (i := 9) scAsked.nd rfl (Or.inl rfl) (pe_ixl (pa_cons (pe_callB call_len_seq (by rfl) B.len PySem.boot_len (pa_cons (pv 1) pa_nil)) (pa_cons (pe_un un_neg pe_int) (pa_cons (pe_op op_pow pe_int pe_int) pa_nil))) (pe_cal T hr1 pass0 (pa_cons (pv 0) (pa_cons pe_int pa_nil))) (fun _ _ => rfl)))
      (pss_cons (ps_if (pt_cmpR op_isnotB (pe_cal CH hr5 pass0 (pa_cons (pv 1) (pa_cons (pv 2) (pa_cons (pv 3) (pa_cons (pv 9) (pa_cons (pv 5) (pa_cons (pe_callTy call_list_of (by rfl) B.lst PyProof.Rows.boot_list (pa_cons (pv 6) pa_nil)) pa_nil))))))) pe_bl (nomark _)) (pss_one (ps_ret pe_bl)) pss_nil)
      (pss_cons (ps_if (pt_cmpR op_isnotB (pe_cal CH hr5 pass0 (pa_cons (pv 1) (pa_cons (pv 2) (pa_cons (pv 3) (pa_cons (pv 4) (pa_cons (pe_op op_sub (pe_un un_neg pe_int) (pe_cal T hr1 pass0 (pa_cons (pv 0) (pa_cons pe_int pa_nil)))) (pa_cons (pe_callTy call_list_of (by rfl) B.lst PyProof.Rows.boot_list (pa_cons (pv 6) pa_nil)) pa_nil))))))) pe_bl (nomark _)) (pss_one (ps_ret pe_bl)) pss_nil)
      (pss_one (ps_ret (pe_cal TD hr pass0 (pa_cons (pv 1) (pa_cons (pv 2) (pa_cons (pv 3) (pa_cons (pv 4) (pa_cons (pv 5) (pa_cons (pe_lst pa_nil) pa_nil)))))))))))))))))), ?_⟩
    have nap : a ≠ p := by rintro rfl; obtain ⟨u, v, e, _⟩ := hp; rw [e] at ha; cases ha
    have ehl : (((HV hs).length : Nat) : Int) = (m : Int) := by rw [List.length_map, hl]
    have ell : (((las.map V.ref).length : Nat) : Int) = (L : Int) := by rw [List.length_map, LG.2.2.2.1.1]
    let J : Hp → Prop := fun Hc => SameE p H Hc ∧ PotAt Hc p
    have jP : ∀ Hc u v, J Hc → 0 ≤ u → 0 ≤ v → v < 2147483647 → J (upd Hc p (.lst [.int u, .int v])) := fun Hc u v j u0 v0 v1 => ⟨j.1.trans SameE.upd, PotAt.upd u0 v0 v1⟩
    have jN : ∀ Hc H', J Hc → Same Hc H' → J H' := fun Hc H' j s => ⟨j.1.trans (SameE.of s), j.2.same s⟩
    have jA : ∀ Hc, J Hc → Hc a = some (.tup (HV hs)) := fun Hc j => j.1 _ _ ha nap
    have jL : ∀ Hc, J Hc → LogAt Hc SA LA sas las m L ss ls := fun Hc j => LG.sameE j.1 hp nSp nLp
    have J0 : J H := ⟨SameE.refl, hp⟩
    refine ⟨_, rfl, _, rfl, a, _, rfl, .inr (SqT.of ha), p, _, rfl, by rw [ehl]; omega, by rw [ehl]; omega, hp, fun d1 a1 b1 p1 q1 r1 s1 t1 => ?_⟩
    rw [ehl] at q1
    obtain ⟨i, rfl⟩ : ∃ i : Nat, (i : Int) = d1 := ⟨d1.toNat, by omega⟩
    have J1 := jP _ _ _ J0 r1 s1 t1
    revert J1
    generalize upd H p (.lst [.int a1, .int b1]) = H1
    intro J1
    refine ⟨_, rfl, _, rfl, LA, _, rfl, .inl (SqL.of (jL _ J1).2.1), _, _, rfl, rfl, p, _, rfl, by rw [ell]; omega, by rw [ell]; omega, J1.2, fun d2 a2 b2 p2 q2 r2 s2 t2 => ?_⟩
    obtain ⟨c, rfl⟩ : ∃ c : Nat, (c : Int) = d2 := ⟨d2.toNat, by omega⟩
    have J2 := jP _ _ _ J1 r2 s2 t2
    revert J2
    generalize upd H1 p (.lst [.int a2, .int b2]) = H2
    intro J2
    refine ⟨_, rfl, _, rfl, _, rfl, _, rfl, _, rfl, _, rfl, p, a, SA, LA, sas, las, m, L, ss, ls, hs, i, c, rfl, J2.2, jA _ J2, hl, jL _ J2, by omega, m16, L30, nSp, nLp, fun Z zs H3 hZ3 z30 hZ2 se3 po3 => ?_⟩
    have J3 : J H3 := ⟨J2.1.trans se3, po3⟩
    have nZp : Z ≠ p := by rintro rfl; exact J2.2.some hZ2
    refine ⟨_, rfl, _, rfl, _, rfl, a, _, rfl, .inr (SqT.of (jA _ J3)), p, Z, zs, m, by rw [ehl]; rfl, po3, hZ3, z30, m1, m16, nZp, fun Y ys H4 hY4 hY3 se4 po4 => ?_⟩
    have J4 : J H4 := ⟨J3.1.trans se4, po4⟩
    have hZ4 := se4 _ _ hZ3 nZp
    have told : ∀ (Hc : Hp) (W : Addr) (ws : List Int) (j b : Nat) (R : VK), J Hc → Hc W = some (.lst (HV ws)) → j < m → (∀ H', Same Hc H' → J H' → R (.bl true) H') → spTold [.ref a, .ref SA, .ref LA, .int (j : Int), .int (b : Int), .ref W] Hc R (fun _ _ _ => False) :=
      fun Hc W ws j b R jc hW hj k => ⟨a, SA, LA, W, sas, las, m, L, ss, ls, hs, ws, j, b, rfl, jA _ jc, hl, jL _ jc, hW, hj, fun H' s' => k H' s' (jN _ _ jc s')⟩
    refine ⟨_, rfl, _, rfl, _, rfl, _, rfl, _, rfl, _, rfl, a, SA, LA, Z, sas, las, m, L, ss, ls, hs, zs, i, c, rfl, jA _ J4, hl, jL _ J4, hZ4, by omega, fun H5 sm5 => ⟨_, rfl, ?_⟩⟩
    have J5 := jN _ _ J4 sm5
    refine ite2 (fun e => absurd e (by decide)) (fun _ => ?_)
    refine ⟨_, rfl, _, rfl, _, rfl, _, rfl, _, rfl, _, rfl, a, SA, LA, Y, sas, las, m, L, ss, ls, hs, ys, i, c, rfl, jA _ J5, hl, jL _ J5, sm5 _ _ hY4, by omega, fun H6 sm6 => ⟨_, rfl, ?_⟩⟩
    have J6 := jN _ _ J5 sm6
    have hZ6 := sm6 _ _ (sm5 _ _ hZ4)
    refine ite2 (fun e => absurd e (by decide)) (fun _ => ?_)
    refine ⟨_, rfl, _, rfl, a, _, rfl, .inr (SqT.of (jA _ J6)), p, _, rfl, by rw [ehl]; omega, by rw [ehl]; omega, J6.2, fun d7 a7 b7 p7 q7 r7 s7 t7 => ?_⟩
    rw [ehl] at q7
    obtain ⟨j, rfl⟩ : ∃ j : Nat, (j : Int) = d7 := ⟨d7.toNat, by omega⟩
    have J7 := jP _ _ _ J6 r7 s7 t7
    have hZ7 : (upd H6 p (.lst [.int a7, .int b7])) Z = some (.lst (HV zs)) := by rw [upd_ne nZp]; exact hZ6
    revert J7 hZ7
    generalize upd H6 p (.lst [.int a7, .int b7]) = H7
    intro J7 hZ7
    refine ⟨_, rfl, _, rfl, _, rfl, _, rfl, _, rfl, _, rfl, a, SA, LA, Z, sas, las, m, L, ss, ls, hs, zs, j, c, rfl, jA _ J7, hl, jL _ J7, hZ7, by omega, fun H8 sm8 => ⟨_, rfl, ?_⟩⟩
    have J8 := jN _ _ J7 sm8
    have hZ8 := sm8 _ _ hZ7
    refine ite2 (fun e => absurd e (by decide)) (fun _ => ?_)
    have c1 : (c : Int) + 1 = ((c + 1 : Nat) : Int) := by omega
    refine ⟨_, rfl, _, rfl, _, rfl, _, rfl, _, rfl, _, _, rfl, rfl, _, rfl, a, SA, LA, Z, sas, las, m, L, ss, ls, hs, zs, i, c + 1, by rw [← c1]; rfl, jA _ J8, hl, jL _ J8, hZ8, by omega, fun H9 sm9 => ⟨_, rfl, ?_⟩⟩
    have J9 := jN _ _ J8 sm9
    have hZ9 := sm9 _ _ hZ8
    refine ite2 (fun e => absurd e (by decide)) (fun _ => ?_)
    refine ⟨_, rfl, a, _, rfl, .inr (SqT.of (jA _ J9)), _, rfl, _, _, rfl, rfl, ⟨by decide, by decide, by decide⟩, by show 3 ≤ sizeLine; decide, fun Ln hLn => ?_⟩
    have J10 := jN _ _ J9 (same_new (o := .lst [.int (((HV hs).length : Nat) : Int), .int (-1), .int ((10 : Int) ^ (40 : Int).toNat)]) hLn)
    have hZ10 := same_new (o := .lst [.int (((HV hs).length : Nat) : Int), .int (-1), .int ((10 : Int) ^ (40 : Int).toNat)]) hLn _ _ hZ9
    have nLnp : Ln ≠ p := by rintro rfl; exact J9.2.some hLn
    refine ⟨_, rfl, p, 3, rfl, by decide, by decide, J10.2, fun d11 a11 b11 p11 q11 r11 s11 t11 => ?_⟩
    obtain ⟨dn, rfl⟩ : ∃ dn : Nat, (dn : Int) = d11 := ⟨d11.toNat, by omega⟩
    have hat : atI [V.int (((HV hs).length : Nat) : Int), V.int (-1), V.int ((10 : Int) ^ (40 : Int).toNat)] (dn : Int) = some (.int ([(((HV hs).length : Nat) : Int), -1, (10 : Int) ^ (40 : Int).toNat].getD dn 0)) := hv_at (s := [(((HV hs).length : Nat) : Int), -1, (10 : Int) ^ (40 : Int).toNat]) (i := dn) (by show dn < 3; omega)
    have hno : ¬ (0 ≤ [(((HV hs).length : Nat) : Int), -1, (10 : Int) ^ (40 : Int).toNat].getD dn 0 ∧ [(((HV hs).length : Nat) : Int), -1, (10 : Int) ^ (40 : Int).toNat].getD dn 0 ≤ (m : Int) - 1) := by
      rw [ehl]
      rcases (by omega : dn = 0 ∨ dn = 1 ∨ dn = 2) with rfl | rfl | rfl
      · show ¬ (0 ≤ (m : Int) ∧ (m : Int) ≤ (m : Int) - 1); omega
      · show ¬ (0 ≤ (-1 : Int) ∧ (-1 : Int) ≤ (m : Int) - 1); omega
      · show ¬ (0 ≤ ((10 : Int) ^ (40 : Int).toNat) ∧ ((10 : Int) ^ (40 : Int).toNat) ≤ (m : Int) - 1)
        have : (100 : Int) ≤ (10 : Int) ^ (40 : Int).toNat := by decide
        omega
    refine ⟨Ln, _, _, _, rfl, rfl, SqL.of (by rw [upd_ne nLnp]; exact upd_same), hat, ?_⟩
    have J11 := jP _ _ _ J10 r11 s11 t11
    have hZ11 : (upd (upd H9 Ln (.lst [.int (((HV hs).length : Nat) : Int), .int (-1), .int ((10 : Int) ^ (40 : Int).toNat)])) p (.lst [.int a11, .int b11])) Z = some (.lst (HV zs)) := by rw [upd_ne nZp]; exact hZ10
    revert J11 hZ11 hno
    generalize upd (upd H9 Ln (.lst [.int (((HV hs).length : Nat) : Int), .int (-1), .int ((10 : Int) ^ (40 : Int).toNat)])) p (.lst [.int a11, .int b11]) = H11
    generalize [(((HV hs).length : Nat) : Int), -1, (10 : Int) ^ (40 : Int).toNat].getD dn 0 = nn
    intro hno J11 hZ11
    refine ⟨_, rfl, _, rfl, _, rfl, _, rfl, _, rfl, _, rfl, Z, _, rfl, .inl (SqL.of hZ11), fun Z1 hZ1 => ?_⟩
    have J12 := jN _ _ J11 (same_new (o := .lst (HV zs)) hZ1)
    have hZ12 := same_new (o := .lst (HV zs)) hZ1 _ _ hZ11
    refine ⟨a, SA, LA, Z1, sas, las, m, L, ss, ls, hs, zs, nn, c, rfl, jA _ J12, hl, jL _ J12, upd_same, fun H13 sm13 => ?_⟩
    have J13 := jN _ _ J12 sm13
    have hZ13 := sm13 _ _ hZ12
    rw [chain_noI hno]
    refine ⟨false, false, rfl, rfl, _, rfl, ?_⟩
    refine ite2 (fun e => absurd e (by decide)) (fun _ => ?_)
    refine ⟨_, rfl, _, rfl, _, rfl, _, rfl, _, rfl, _, rfl, p, 3, rfl, by decide, by decide, J13.2, fun d14 a14 b14 p14 q14 r14 s14 t14 => ⟨_, _, rfl, rfl, ?_⟩⟩
    have J14 := jP _ _ _ J13 r14 s14 t14
    have hZ14 : (upd H13 p (.lst [.int a14, .int b14])) Z = some (.lst (HV zs)) := by rw [upd_ne nZp]; exact hZ13
    revert J14 hZ14
    generalize upd H13 p (.lst [.int a14, .int b14]) = H14
    intro J14 hZ14
    refine ⟨_, rfl, Z, _, rfl, .inl (SqL.of hZ14), fun Z2 hZ2' => ?_⟩
    have J15 := jN _ _ J14 (same_new (o := .lst (HV zs)) hZ2')
    refine ⟨a, SA, LA, Z2, sas, las, m, L, ss, ls, hs, zs, i, (-1) - d14, rfl, jA _ J15, hl, jL _ J15, upd_same, fun H16 sm16 => ?_⟩
    have J16 := jN _ _ J15 sm16
    rw [chain_noB (by omega)]
    refine ⟨false, false, rfl, rfl, _, rfl, ?_⟩
    refine ite2 (fun e => absurd e (by decide)) (fun _ => ?_)
    refine ⟨_, rfl, _, rfl, _, rfl, _, rfl, _, rfl, by show 0 ≤ sizeLine; decide, fun W hW => ?_⟩
    have J17 := jN _ _ J16 (same_new (o := .lst []) hW)
    exact ⟨a, SA, LA, W, sas, las, m, L, ss, ls, hs, [], i, c, rfl, jA _ J17, hl, jL _ J17, upd_same, by omega, fun H18 sm18 => q H18 (jN _ _ J17 sm18).1 (jN _ _ J17 sm18).2⟩
end
end K61

set_option maxHeartbeats 4000000
namespace L2
open PySem PySem.Spec PyProof.Rows
structure FnOkG (P : Program) (w : World) (K : PySem.W.Frag) (mg : Str → Option Value) (base : Heap) (CX : CXT) (k : Nat) (f : Addr) (fd : FuncData) (ps : List Str) (sp : Sp) : Prop where
  len : ∀ vs H Q E, sp vs H Q E → vs.length = ps.length
  run : ∀ (A : Around) (outer : List Env) (s : Shared) (H : Hp) (args : Args) (us : List Value) (vs : List V) (Q : VK) (E : XK), Room k A → A.guards = some [] → Env0 P w K mg base A outer s H → BindsTo s fd args (ps.zip us) → Vals vs us → sp vs H Q E →
    codeAny (model P w) A (.call (.ref f) args) (CR CX outer P w H s Q E) s
theorem fn_ofG {CX : CXT} {P : Program} {w : World} {K : PySem.W.Frag} {mg : Str → Option Value} {base : Heap} {k : Nat} {f : Addr} {name qual : Str} {params : Arguments} {body : List Stmt} {scope : Scope} {dV kV doc pm cdv ct oc : Value} {an od : Option Addr}
    {osl : Array (Option Value)} {N ps : List Str} {sp : Sp} (lk : K.lookup f = some ⟨oc, od, .func (PySem.W.fnOf name qual params body scope dV kV doc pm an cdv ct), osl⟩) (hcd : PySem.W.codeIn K cdv qual = true) (S : FnScope N ps scope)
    (len : ∀ vs H Q E, sp vs H Q E → vs.length = ps.length)
    (hbody : ∀ (A : Around) (outer : List Env) (s : Shared) (H : Hp) (vs : List V) (Q : VK) (E : XK), Room k (A.deeper (envOfC qual scope s.heap.objs.size f cdv)) → (A.deeper (envOfC qual scope s.heap.objs.size f cdv)).guards = some [] → sp vs H Q E →
      ∃ t, PSs (cxOf CX P w K mg base N qual scope f cdv A outer s H E) body t ∧ t { nx := fun _ H' => Q .non H', rt := Q } (start N vs) H) :
    FnOkG P w K mg base CX (k + 1) f (PySem.W.fnOf name qual params body scope dV kV doc pm an cdv ct) ps sp := by
  refine ⟨len, fun A outer s H args us vs Q E hr hgd e0 hb r hsp => ?_⟩
  have hl := len _ _ _ _ hsp
  have KX : K.In s.heap := e0.mod.kin.keeps fun b o e => (e0.bs b o e).1
  have lim : s.heap.NoLimit := e0.mod.nolimit.keeps fun b o e => (e0.bs b o e).1
  have hkind : ∀ y ∈ ps.zip us, scope.names.lookup y.1 = some .local ∨ (scope.names.lookup y.1 = some .cell ∧ ((cellsFrom (s.heap.objs.size + 1) scope.names []).lookup y.1).isSome = true) := fun ⟨n, v⟩ hy => by
    rcases S.par n (List.of_mem_zip hy).1 with q | q
    · exact .inl q
    · exact .inr ⟨q, PySem.W.cellsFrom_some _ _ _ (.inl q)⟩
  refine codeAny_call_function hr.depth (KX _ _ lk) rfl S.co S.gen rfl (PySem.W.codeRec_of KX hcd) (hb _ _ _ _ ?_)
  refine wpAny_newFunctionEnv_cells S.kind hkind fun env he s1 x => ?_
  subst he
  refine ⟨lim.keeps x.toInCall.keep, codeAny_func ?_⟩
  obtain ⟨t, ht, hq⟩ := hbody A outer s H vs Q E (hr.deeper _) hgd hsp
  have I : Inv (cxOf CX P w K mg base N qual scope f cdv A outer s H E) [] (start N vs) H s1 := inv_start S hr.hd e0 hl r x
  refine wpAny_mono (ht [] s1 (start N vs) H _ I hq) (fun fl s' hs => ?_) fun e s' hs => hs
  have fin : ∀ {σ' : St} {H' : Hp} {v : V} {u : Value}, Inv (cxOf CX P w K mg base N qual scope f cdv A outer s H E) [] σ' H' s' → RelV v u → Q v H' → CE outer P w H s Q u s' :=
    fun {σ' H' v u} J rv q => ⟨v, H', J.os, J.bare, J.base, J.hok, rv, q⟩
  cases fl with
  | ret u =>
    obtain ⟨v, σ', H', J, rv, q⟩ := hs
    exact fin J rv q
  | next =>
    obtain ⟨σ', H', J, q⟩ := hs
    exact fin (v := V.non) (u := Value.none) J rfl q
  | brk =>
    obtain ⟨_, _, _, q⟩ := hs
    exact False.elim q
  | cont =>
    obtain ⟨_, _, _, q⟩ := hs
    exact False.elim q
theorem law_callG {P : Program} {w : World} {K : PySem.W.Frag} {mg mb : Str → Option Value} {CX : CXT} {k : Nat} {fa a : Addr} {fd : FuncData} {x : Str} {sp : Sp} {s₁ : Shared} {vs : List Value} {ns : List Int}
    (KX : K.In s₁.heap) (hns : s₁.heap.Ns mainGlobals mg) (hb : s₁.heap.Ns builtinsNs mb) (hbb : ∀ x : Str, x ≠ "__name__" → mb x = bootBuiltins x) (hlim : s₁.heap.NoLimit) (hg : s₁.gens = #[])
    (ha : s₁.heap.get? a = some { cls := .type "list", data := .seq vs.toArray }) (hi : IntsAre vs ns) (hl : ns.length ≤ sizeLine) (hr : Room k callerA)
    (F : ∀ base : Heap, K.In base → base.Ns mainGlobals mg → FnOkG P w K mg base CX k fa fd [x] sp) (hbind : ∀ (s : Shared) (u : Value), BindsTo s fd ⟨[u], []⟩ [(x, u)])
    (hsp : ∀ H : Hp, Only H → SqL K H a (ns.map V.int) → sp [.ref a] H (fun v _ => v = .bl true) fun _ _ _ => False)
    (hCX : ∀ H e s', CX [] H s₁ (fun _ _ _ => False) e s' → False) :
    codeAny (model P w) callerA (.call (.ref fa) ⟨[.ref a], []⟩) (fun r s' => r = .ok (.ret (.bool true)) ∧ OldK s₁.heap s'.heap ∧ s'.os = s₁.os ∧ AllBare s'.gens) s₁ := by
  have rv := vals_ints hi
  have lenV := hi.length
  -- from an abstract heap in which nothing but the script may be tracked
  have core : ∀ H : Hp, Only H → SqL K H a (ns.map V.int) → HOk P w H s₁.heap → (∀ b, H b ≠ none → b = a) → (H a ≠ none → K.lookup a = none) →
      codeAny (model P w) callerA (.call (.ref fa) ⟨[.ref a], []⟩) (fun r s' => r = .ok (.ret (.bool true)) ∧ OldK s₁.heap s'.heap ∧ s'.os = s₁.os ∧ AllBare s'.gens) s₁ := by
    intro H hO hS hok hA hK
    have base_of : ∀ {b : Addr} {o : Obj}, s₁.heap.get? b = some o → H b = none → (hidT s₁.heap H).get? b = some o := fun e n => hidT_get e n
    have noA : ∀ {b : Addr} {o : Obj} {es : Array DictEntry} {ep : Nat}, s₁.heap.get? b = some o → o.data = .dict es ep → H b = none := fun {b o es ep} e d => by
      cases q : H b with
      | none => rfl
      | some u =>
        have e' : b = a := hA b (by rw [q]; simp)
        subst e'
        rw [ha] at e; cases e
        have d' : Data.seq vs.toArray _ = Data.dict es ep := d
        cases d'
    have nsK : ∀ {b : Addr} {m : Str → Option Value}, s₁.heap.Ns b m → (hidT s₁.heap H).Ns b m := fun {b m} ⟨o, es, ep, e, d, r⟩ => ⟨o, es, ep, base_of e (noA e d), d, r⟩
    have hKb : K.In (hidT s₁.heap H) := fun b o e => base_of (KX b o e) (by
      cases q : H b with
      | none => rfl
      | some u =>
        have e' : b = a := hA b (by rw [q]; simp)
        subst e'
        rw [hK (by rw [q]; simp)] at e; cases e)
    have hM : Mod K mg (hidT s₁.heap H) := ⟨hKb, nsK hns, ⟨mb, nsK hb, hbb⟩, let ⟨mc, h1, h2⟩ := hlim; ⟨mc, nsK h1, h2⟩⟩
    have e0 : Env0 P w K mg (hidT s₁.heap H) callerA [] s₁ H := ⟨rfl, hM, fun b o e => of_hidT e, Nat.le_of_eq (hidT_size _ _), trivial, fun b hb => absurd (show b ∈ ([] : List Addr) from hb) (by simp), hok, .of_eq hg⟩
    refine codeAny_mono ((F _ hKb (nsK hns)).run callerA [] s₁ H ⟨[.ref a], []⟩ [.ref a] [.ref a] _ _ hr rfl e0 (hbind s₁ (.ref a)) (.cons rfl .nil) (hsp H hO hS)) fun r s' h => ?_
    cases r with
    | error e => exact (hCX H e s' h).elim
    | ok fl =>
      cases fl with
      | next => exact False.elim h
      | brk => exact False.elim h
      | cont => exact False.elim h
      | ret u =>
        obtain ⟨v, H', os, bare, un, hok', r', q⟩ := h
        have q' : v = .bl true := q
        subst q'
        obtain rfl : u = Value.bool true := r'
        refine ⟨rfl, OldK.of_keep fun b o e => ?_, os, bare⟩
        cases q : H b with
        | none => exact un.keep b o e q (by intro z; exact absurd (show b ∈ ([] : List Addr) from z) (by simp)) (by simp)
        | some u =>
          rcases hO b with z | ⟨ob, xs, z⟩
          · rw [q] at z; cases z
          · have z2 := un.frzs b ob _ z
            obtain ⟨e1, _⟩ := hok b _ z
            obtain ⟨e2, _⟩ := hok' b _ z2
            rw [e] at e1; cases e1
            exact e2
  cases hk : K.lookup a with
  | some o =>
    -- the script is one of the module's own objects
    have e := KX a o hk
    rw [ha] at e
    cases e
    refine core (fun _ => none) (fun _ => .inl rfl) (.inr ⟨_, vs.toArray, _, hk, rfl, rfl, rfl, by rw [List.size_toArray, lenV]; exact hl, by simpa using rv⟩) (fun b u z => by have z' : (none : Option HO) = some u := z; cases z') (fun b z => absurd rfl z) fun z => absurd rfl z
  | none =>
    refine core (fun b => if b = a then some (.frz { cls := .type "list", data := .seq vs.toArray } (.lst (ns.map V.int))) else none) (fun b => ?_) (.inl (.inr ⟨{ cls := .type "list", data := .seq vs.toArray }, if_pos rfl⟩)) (fun b u z => ?_) (fun b z => ?_) fun _ => hk
    · by_cases hb : b = a
      · exact .inr ⟨_, _, if_pos hb⟩
      · exact .inl (if_neg hb)
    · by_cases hb : b = a
      · have z' := (if_pos hb).symm.trans z
        cases z'
        subst hb
        exact ⟨ha, by rw [List.length_map]; exact hl, vs, _, rv, ha⟩
      · have z' := (if_neg hb).symm.trans z
        cases z'
    · by_cases hb : b = a
      · exact hb
      · exact absurd (if_neg hb) z
theorem walk_ofG {l : PySem.W.OpenLaw} {n k : Nat} {q : Program} {loose : List Str} {XP : (Str → Option Value) → Heap → Prop} {YP : World → Heap → Prop} {d : DefRec} {K : Params → PySem.W.Frag} {CX : World → CXT} {sp : World → Sp} {x : Str}
    (hn : l.most = some n) (hn2 : n ≤ sizeLine) (hdf : d.params.defaults = []) (hr : Room k callerA)
    (hY : ∀ (w : World) (h : Heap), YP w h → (K w.params).In h)
    (F : ∀ (w : World) (mg : Str → Option Value) (fa : Addr) (h : Heap), (K w.params).In h → h.Ns mainGlobals mg → mg d.name = some (.ref fa) →
      ∃ fd : FuncData, (∀ (s : Shared) (u : Value), BindsTo s fd ⟨[u], []⟩ [(x, u)]) ∧
        ∀ base : Heap, (K w.params).In base → base.Ns mainGlobals mg → FnOkG l.prog w (K w.params) mg base (CX w) k fa fd [x] (sp w))
    (hsp : ∀ (w : World) (H : Hp) (a : Addr) (ns : List Int), ns.length ≤ n → Only H → SqL (K w.params) H a (ns.map V.int) → sp w [.ref a] H (fun v _ => v = .bl true) fun _ _ _ => False)
    (hCX : ∀ (w : World) (H : Hp) (s : Shared) (e : Value) (s' : Shared), CX w [] H s (fun _ _ _ => False) e s' → False) :
    PySem.W.WalkO q loose XP YP l.row.toRowW d [] (fun f vs => PySem.call f vs) := by
  refine Att.attach_call hn hdf fun w s₀ s₁ mg mb fa o pm cd doc a vs ns G Y ho hd hcd hmg hobj hints hlen hg => ?_
  have KX := hY w _ Y
  obtain ⟨fd, hb, hF⟩ := F w mg fa _ KX G.T.g hmg
  exact law_callG KX G.T.g G.T.b G.T.builtins G.T.nolimit hg hobj hints (Nat.le_trans hlen hn2) hr hF hb (fun H hO hS => hsp w H a ns hlen hO hS) fun H e s' => hCX w H s₁ e s'
section
variable {P : Program} {w : World} {K : PySem.W.Frag} {mg : Str → Option Value} {base : Heap}
theorem Fun.okG {x qual : Str} {st : Stmt} {f : Addr} {fd : FuncData} {N ps : List Str} {k : Nat} {sp : Sp} (F : Fun K x qual st f fd) (S : FnScope N ps (defScope st)) (len : ∀ vs H Q E, sp vs H Q E → vs.length = ps.length)
    (hbody : ∀ (cdv : Value) (A : Around) (outer : List Env) (s : Shared) (H : Hp) (vs : List V) (Q : VK) (E : XK), Room k (A.deeper (envOfC qual (defScope st) s.heap.objs.size f cdv)) → (A.deeper (envOfC qual (defScope st) s.heap.objs.size f cdv)).guards = some [] → sp vs H Q E →
      ∃ t, PSs (cxOf CX0 P w K mg base N qual (defScope st) f cdv A outer s H E).nox (defBody st) t ∧ t { nx := fun _ H' => Q .non H', rt := Q } (start N vs) H) : FnOkG P w K mg base CX0 (k + 1) f fd ps sp := by
  obtain ⟨oc, od, kV, doc, pm, an, cdv, ct, osl, rfl, lk, hcd⟩ := F.ex
  refine fn_ofG lk hcd S len fun A outer s H vs Q E hr hgd hsp => ?_
  obtain ⟨t, h, q⟩ := hbody cdv A outer s H vs Q E hr hgd hsp
  exact ⟨t, h.nox, q⟩
end
end L2

set_option maxHeartbeats 1500000
namespace L2
open PySem PySem.Spec PyProof.Rows
section
variable {X : Cx}
theorem call_reprD (hg : X.A.guards = some []) (hu : X.A.units + 8 < cLine) : CallR X (.builtin "repr") (fun xs H Q => ∃ (p : Addr) (d : PyData), xs = [.ref p] ∧ (∀ pins σ s, Inv X pins σ H s → ∃ as, Reads s.heap (.ref p) d as) ∧ d.showable = true ∧ d.hasDict = false ∧ d.depth ≤ 4 ∧ d.shown.length ≤ sizeLine ∧ Q (.str d.shown) H) := by
  intro pins s σ H xs us Q I r h
  obtain ⟨p, d, rfl, hr, h1, h2, h3, h4, q⟩ := h
  obtain ⟨u, rfl, ru⟩ := r.one
  obtain rfl : u = Value.ref p := ru
  obtain ⟨as, rd⟩ := hr pins σ s I
  exact repr_of_reads' rd h1 (PyData.noDict_hsm h2) hg (by omega) (fun b o e => e) (fun h' u tk hk => ⟨.str d.shown, H, I.kept (t' := tk) hk, ⟨u, rfl⟩, q⟩) h4
end
end L2
namespace K61
open PySem L2
/-! ### what the log looks like -/
def dO : Option Nat → PyData
  | none => .none
  | some h => .int h
def dT (s : List (Option Nat)) : PyData := .tuple (s.map dO)
def dLog (hs : List Int) (L : Nat) (ss ls : Nat → List (Option Nat)) : PyData := .tuple [.tuple (hs.map PyData.int), .list ((List.range (L + 1)).map fun b => dT (ss b)), .list ((List.range L).map fun b => dT (ls b))]
theorem rd_ints {h : Heap} : ∀ {hs : List Int} {us : List Value}, Vals (HV hs) us → ∃ as, ReadsAll h us (hs.map PyData.int) as
  | [], _, .nil => ⟨_, .nil⟩
  | z :: zs, _, .cons ⟨t, e⟩ r => by
    obtain ⟨as, ih⟩ := rd_ints (h := h) (hs := zs) r
    subst e
    exact ⟨_, .cons (.int z t) ih⟩
theorem rd_sv {h : Heap} : ∀ {s : List (Option Nat)} {us : List Value}, Vals (SV s) us → ∃ as, ReadsAll h us (s.map dO) as
  | [], _, .nil => ⟨_, .nil⟩
  | none :: zs, _, .cons e r => by
    obtain ⟨as, ih⟩ := rd_sv (h := h) (s := zs) r
    obtain rfl := (show _ = Value.none from e)
    exact ⟨_, .cons .none ih⟩
  | some z :: zs, _, .cons ⟨t, e⟩ r => by
    obtain ⟨as, ih⟩ := rd_sv (h := h) (s := zs) r
    subst e
    exact ⟨_, .cons (.int _ t) ih⟩
theorem rd_refs {h : Heap} : ∀ {as : List Addr} {ds : List PyData} {us : List Value}, as.length = ds.length → (∀ (k : Nat) (a : Addr) (d : PyData), as[k]? = some a → ds[k]? = some d → ∃ bs, Reads h (.ref a) d bs) → Vals (as.map V.ref) us → ∃ bs, ReadsAll h us ds bs
  | [], [], _, _, _, .nil => ⟨_, .nil⟩
  | a :: as, d :: ds, _, hl, hk, .cons e r => by
    obtain ⟨bs, hb⟩ := hk 0 a d rfl rfl
    obtain ⟨cs, ih⟩ := rd_refs (h := h) (as := as) (ds := ds) (by simpa using hl) (fun k a d e1 e2 => hk (k + 1) a d e1 e2) r
    obtain rfl := (show _ = Value.ref a from e)
    exact ⟨_, .cons hb ih⟩
theorem rd_tup {X : Cx} {pins : List (Addr × Obj)} {σ : St} {H : Hp} {s : Shared} {a : Addr} {xs : List V} {ds : List PyData} (I : Inv X pins σ H s) (h : H a = some (.tup xs)) (hd : ∀ us, Vals xs us → ∃ bs, ReadsAll s.heap us ds bs) : ∃ bs, Reads s.heap (.ref a) (.tuple ds) bs := by
  obtain ⟨its, r, ⟨o, ho, hc, n, hdat⟩, _⟩ := I.tuple (SqT.of h)
  obtain ⟨bs, hb⟩ := hd its r
  exact ⟨_, .tuple ho hc hdat (by simpa using hb)⟩
theorem rd_lst {X : Cx} {pins : List (Addr × Obj)} {σ : St} {H : Hp} {s : Shared} {a : Addr} {xs : List V} {ds : List PyData} (I : Inv X pins σ H s) (h : H a = some (.lst xs)) (hd : ∀ us, Vals xs us → ∃ bs, ReadsAll s.heap us ds bs) : ∃ bs, Reads s.heap (.ref a) (.list ds) bs := by
  obtain ⟨its, r, ⟨o, n, ho, hc, _, hdat⟩, _⟩ := I.list (SqL.of h)
  obtain ⟨bs, hb⟩ := hd its r
  exact ⟨_, .list ho hc hdat (by simpa using hb)⟩
theorem rd_hold {X : Cx} {pins : List (Addr × Obj)} {σ : St} {H : Hp} {s : Shared} {a : Addr} {as : List Addr} {L : Nat} {f : Nat → List (Option Nat)} (I : Inv X pins σ H s) (h : H a = some (.lst (as.map V.ref))) (hh : Holds H as L (fun b => .tup (SV (f b)))) : ∃ bs, Reads s.heap (.ref a) (.list ((List.range L).map fun b => dT (f b))) bs := by
  refine rd_lst I h fun us r => rd_refs (by rw [hh.1, List.length_map, List.length_range]) (fun k x d e1 e2 => ?_) r
  have hk : k < L := by have := (List.getElem?_eq_some_iff.mp e1).1; rw [hh.1] at this; exact this
  rw [List.getElem?_map, List.getElem?_range hk] at e2
  have ed : dT (f k) = d := Option.some.inj e2
  subst ed
  have hx := hh.2 k hk
  have ex : as.getD k 0 = x := by rw [List.getD_eq_getElem?_getD, e1]; rfl
  rw [ex] at hx
  exact rd_tup I hx fun us r => rd_sv r
theorem rd_log {X : Cx} {pins : List (Addr × Obj)} {σ : St} {H : Hp} {s : Shared} {t a SA LA : Addr} {sas las : List Addr} {m L : Nat} {ss ls : Nat → List (Option Nat)} {hs : List Int} (I : Inv X pins σ H s) (ht : H t = some (.tup [.ref a, .ref SA, .ref LA])) (ha : H a = some (.tup (HV hs))) (LG : LogAt H SA LA sas las m L ss ls) :
    ∃ as, Reads s.heap (.ref t) (dLog hs L ss ls) as := by
  obtain ⟨g1, g2, g3, g4, _, _⟩ := LG
  refine rd_tup I ht fun us r => ?_
  obtain ⟨b1, h1⟩ := rd_tup I ha fun us r => rd_ints r
  obtain ⟨b2, h2⟩ := rd_hold I g1 g3
  obtain ⟨b3, h3⟩ := rd_hold I g2 g4
  cases r with
  | cons e1 r =>
    obtain rfl := (show _ = Value.ref a from e1)
    cases r with
    | cons e2 r =>
      obtain rfl := (show _ = Value.ref SA from e2)
      cases r with
      | cons e3 r =>
        obtain rfl := (show _ = Value.ref LA from e3)
        cases r
        exact ⟨_, .cons h1 (.cons h2 (.cons h3 .nil))⟩
/-- small numbers alone -/
def leafB : PyData → Bool
  | .none => true
  | .int i => decide (0 ≤ i) && decide (i < 32)
  | _ => false
theorem leaf_facts {d : PyData} (h : leafB d = true) : d.showable = true ∧ d.hasDict = false ∧ d.depth = 0 ∧ d.leavesShort 8 = true ∧ d.weight ≤ 5 := by
  cases d with
  | none => exact ⟨rfl, rfl, rfl, rfl, by decide⟩
  | int i =>
    unfold leafB at h
    rw [Bool.and_eq_true, decide_eq_true_iff, decide_eq_true_iff] at h
    obtain ⟨n, rfl⟩ : ∃ n : Nat, i = n := ⟨i.toNat, by omega⟩
    have hn : n < 32 := by omega
    have all : ∀ n : Nat, n < 32 → (PyData.int (n : Int)).showable = true ∧ (PyData.int (n : Int)).leavesShort 8 = true ∧ (PyData.int (n : Int)).weight ≤ 5 := by decide +kernel
    obtain ⟨a1, a2, a3⟩ := all n hn
    exact ⟨a1, rfl, rfl, a2, a3⟩
  | _ => cases h
theorem row_facts : ∀ {ds : List PyData}, (∀ d ∈ ds, leafB d = true) → PyData.showableAll ds = true ∧ PyData.hasDictAll ds = false ∧ PyData.depthAll ds = 0 ∧ PyData.leavesShortAll 8 ds = true ∧ PyData.weightAll ds ≤ 6 * ds.length
  | [], _ => ⟨rfl, rfl, rfl, rfl, by decide⟩
  | d :: ds, h => by
    obtain ⟨a1, a2, a3, a4, a5⟩ := leaf_facts (h d List.mem_cons_self)
    obtain ⟨b1, b2, b3, b4, b5⟩ := row_facts (ds := ds) fun x hx => h x (List.mem_cons_of_mem _ hx)
    refine ⟨?_, ?_, ?_, ?_, ?_⟩
    · unfold PyData.showableAll; rw [a1, b1]; rfl
    · unfold PyData.hasDictAll; rw [a2, b2]; rfl
    · unfold PyData.depthAll; rw [a3, b3]; rfl
    · unfold PyData.leavesShortAll; rw [a4, b4]; rfl
    · unfold PyData.weightAll; rw [List.length_cons]; omega
/-- a row of at most sixteen small numbers -/
def rowB (d : PyData) : Prop := ∃ ds, d = .tuple ds ∧ ds.length ≤ 16 ∧ ∀ x ∈ ds, leafB x = true
theorem tup_facts {d : PyData} (h : rowB d) : d.showable = true ∧ d.hasDict = false ∧ d.depth = 1 ∧ d.leavesShort 8 = true ∧ d.weight ≤ 96 := by
  obtain ⟨ds, rfl, hl, hx⟩ := h
  obtain ⟨b1, b2, b3, b4, b5⟩ := row_facts hx
  refine ⟨?_, ?_, ?_, ?_, ?_⟩
  · unfold PyData.showable; exact b1
  · unfold PyData.hasDict; exact b2
  · unfold PyData.depth; rw [b3]
  · unfold PyData.leavesShort; exact b4
  · unfold PyData.weight; omega
theorem rows_facts : ∀ {ds : List PyData}, (∀ d ∈ ds, rowB d) → PyData.showableAll ds = true ∧ PyData.hasDictAll ds = false ∧ PyData.depthAll ds ≤ 1 ∧ PyData.leavesShortAll 8 ds = true ∧ PyData.weightAll ds ≤ 97 * ds.length
  | [], _ => ⟨rfl, rfl, by decide, rfl, by decide⟩
  | d :: ds, h => by
    obtain ⟨a1, a2, a3, a4, a5⟩ := tup_facts (h d List.mem_cons_self)
    obtain ⟨b1, b2, b3, b4, b5⟩ := rows_facts (ds := ds) fun x hx => h x (List.mem_cons_of_mem _ hx)
    refine ⟨?_, ?_, ?_, ?_, ?_⟩
    · unfold PyData.showableAll; rw [a1, b1]; rfl
    · unfold PyData.hasDictAll; rw [a2, b2]; rfl
    · unfold PyData.depthAll; rw [a3]; omega
    · unfold PyData.leavesShortAll; rw [a4, b4]; rfl
    · unfold PyData.weightAll; rw [List.length_cons]; omega
theorem row_dT {s : List (Option Nat)} (hl : s.length ≤ 16) (h : SmallS s) : rowB (dT s) := by
  refine ⟨s.map dO, rfl, by rw [List.length_map]; exact hl, fun x hx => ?_⟩
  obtain ⟨o, ho, rfl⟩ := List.mem_map.mp hx
  cases o with
  | none => rfl
  | some y =>
    have := h y ho
    show (decide ((0 : Int) ≤ (y : Int)) && decide ((y : Int) < 32)) = true
    rw [decide_eq_true (by omega), decide_eq_true (by omega)]; rfl
theorem log_facts {hs : List Int} {m L : Nat} {ss ls : Nat → List (Option Nat)} (hm : hs.length = m) (m16 : m ≤ 16) (L30 : L ≤ 30) (hh : ∀ h ∈ hs, 0 ≤ h ∧ h < 32) (h5 : ∀ b, b ≤ L → (ss b).length = m) (h6 : ∀ b, b < L → (ls b).length = m) (s1 : ∀ b, b ≤ L → SmallS (ss b)) (s2 : ∀ b, b < L → SmallS (ls b)) :
    (dLog hs L ss ls).showable = true ∧ (dLog hs L ss ls).hasDict = false ∧ (dLog hs L ss ls).depth ≤ 4 ∧ (dLog hs L ss ls).shown.length ≤ sizeLine := by
  have r1 : rowB (.tuple (hs.map PyData.int)) := by
    refine ⟨_, rfl, by rw [List.length_map]; omega, fun x hx => ?_⟩
    obtain ⟨o, ho, rfl⟩ := List.mem_map.mp hx
    have := hh o ho
    show (decide ((0 : Int) ≤ o) && decide (o < 32)) = true
    rw [decide_eq_true (by omega), decide_eq_true (by omega)]; rfl
  obtain ⟨a1, a2, a3, a4, a5⟩ := tup_facts r1
  obtain ⟨b1, b2, b3, b4, b5⟩ := rows_facts (ds := (List.range (L + 1)).map fun b => dT (ss b)) fun x hx => by
    obtain ⟨b, hb, rfl⟩ := List.mem_map.mp hx
    have hb := List.mem_range.mp hb
    exact row_dT (by rw [h5 b (by omega)]; exact m16) (s1 b (by omega))
  obtain ⟨c1, c2, c3, c4, c5⟩ := rows_facts (ds := (List.range L).map fun b => dT (ls b)) fun x hx => by
    obtain ⟨b, hb, rfl⟩ := List.mem_map.mp hx
    have hb := List.mem_range.mp hb
    exact row_dT (by rw [h6 b hb]; exact m16) (s2 b hb)
  rw [List.length_map, List.length_range] at b5 c5
  have bs : (PyData.list ((List.range (L + 1)).map fun b => dT (ss b))).showable = true := by unfold PyData.showable; exact b1
  have cs : (PyData.list ((List.range L).map fun b => dT (ls b))).showable = true := by unfold PyData.showable; exact c1
  have bd : (PyData.list ((List.range (L + 1)).map fun b => dT (ss b))).hasDict = false := by unfold PyData.hasDict; exact b2
  have cd : (PyData.list ((List.range L).map fun b => dT (ls b))).hasDict = false := by unfold PyData.hasDict; exact c2
  have be : (PyData.list ((List.range (L + 1)).map fun b => dT (ss b))).depth ≤ 2 := by unfold PyData.depth; omega
  have ce : (PyData.list ((List.range L).map fun b => dT (ls b))).depth ≤ 2 := by unfold PyData.depth; omega
  have bl : (PyData.list ((List.range (L + 1)).map fun b => dT (ss b))).leavesShort 8 = true := by unfold PyData.leavesShort; exact b4
  have cl : (PyData.list ((List.range L).map fun b => dT (ls b))).leavesShort 8 = true := by unfold PyData.leavesShort; exact c4
  have bw : (PyData.list ((List.range (L + 1)).map fun b => dT (ss b))).weight ≤ 97 * (L + 1) := by unfold PyData.weight; exact b5
  have cw : (PyData.list ((List.range L).map fun b => dT (ls b))).weight ≤ 97 * L := by unfold PyData.weight; exact c5
  unfold dLog
  refine ⟨?_, ?_, ?_, PyData.shown_fits (B := 8) (by decide) (by decide) ?_ ?_⟩
  · simp only [PyData.showable, PyData.showableAll, a1, bs, cs] at *; simp [*]
  · simp only [PyData.hasDict, PyData.hasDictAll] at *; simp [*]
  · simp only [PyData.depth, PyData.depthAll] at *; omega
  · simp only [PyData.leavesShort, PyData.leavesShortAll] at *; simp [*]
  · simp only [PyData.weight, PyData.weightAll] at *; omega
end K61

set_option maxHeartbeats 1500000
namespace K61
open PySem L2
abbrev sLaw : Stmt := top 26
theorem sql_same {K : PySem.W.Frag} {H H' : Hp} {a : Addr} {xs : List V} (s : Same H H') (h : SqL K H a xs) : SqL K H' a xs := by
  rcases h with h | h
  · rcases h with h | ⟨o, h⟩
    · exact .inl (.inl (s _ _ h))
    · exact .inl (.inr ⟨o, s _ _ h⟩)
  · exact .inr h
section
variable {P : Program} {w : World} {K : PySem.W.Frag} {mg : Str → Option Value} {base : Heap}
theorem scLaw : FnScope ["_law_script", "_law_k", "_law_pot_here", "_law_outs", "_law_homes", "_law_stand", "_law_stands", "_law_log", "_law_kept", "_law_turn"] ["_law_script"] (defScope sLaw) := ⟨rfl, rfl, rfl, by decide +kernel, rfl, by decide +kernel, by decide +kernel⟩
def spLaw (K : PySem.W.Frag) : Sp := fun vs H Q _ => ∃ (a : Addr) (ns : List Int), vs = [.ref a] ∧ SqL K H a (ns.map V.int) ∧ ∀ H', Q (.bl true) H'
theorem ok_law {f : Addr} {fd : FuncData} (F : Fun K "law" "law" sLaw f fd) (B : Bl mg) (PO : Cal P w K mg base CX0 1 "_law_pot" ["_law_script", "_law_k"] (spPot K)) (NT : Cal P w K mg base CX0 3 "_law_net" ["_law_pot_here"] spNet)
    (GR : Cal P w K mg base CX0 1 "_law_going_round" ["_law_outs"] spGR) (LE : Cal P w K mg base CX0 2 "_law_letters" ["_law_pot_here", "_law_outs", "_law_most"] spLet)
    (LO : Cal P w K mg base CX0 4 "_law_any_log" ["_law_pot_here", "_law_outs", "_law_homes", "_law_stand", "_law_most"] spLog) (AS : Cal P w K mg base CX0 7 "_law_asked" ["_law_pot_here", "_law_homes", "_law_stands", "_law_log"] spAsked) :
    FnOkG P w K mg base CX0 8 f fd ["_law_script"] (spLaw K) := by
  refine F.okG scLaw (fun vs H Q E h => ?_) (fun cdv A outer s0 H vs Q E hr hgd h => ?_)
  · obtain ⟨a, ns, rfl, _⟩ := h
    rfl
  · obtain ⟨a, ns, rfl, hS, q⟩ := h
    have hu8 : (A.deeper (PyProof.Rows.envOfC "law" (defScope sLaw) s0.heap.objs.size f cdv)).units + 8 < cLine := by have := hr.un; omega
    have hu0 : (A.deeper (PyProof.Rows.envOfC "law" (defScope sLaw) s0.heap.objs.size f cdv)).units < cLine := by omega
    have hr1 : Room 1 (A.deeper (PyProof.Rows.envOfC "law" (defScope sLaw) s0.heap.objs.size f cdv)) := hr.mono (by decide)
    have hr2 : Room 2 (A.deeper (PyProof.Rows.envOfC "law" (defScope sLaw) s0.heap.objs.size f cdv)) := hr.mono (by decide)
    have hr3 : Room 3 (A.deeper (PyProof.Rows.envOfC "law" (defScope sLaw) s0.heap.objs.size f cdv)) := hr.mono (by decide)
    have hr4 : Room 4 (A.deeper (PyProof.Rows.envOfC "law" (defScope sLaw) s0.heap.objs.size f cdv)) := hr.mono (by decide)
    refine' ⟨_, pss_cons (ps_for PassesOwn.never rfl (pi_range1 rfl B.range (pa_cons (pe_callB (call_max2 rfl) (by rfl) B.max PyProof.Rows.boot_max (pa_cons pe_int (pa_cons (pe_callB (call_min2 rfl) (by rfl) B.min PyProof.Rows.boot_min (pa_cons (pe_callB call_len_seq (by rfl) B.len PySem.boot_len (pa_cons (pv 0) pa_nil)) (pa_cons pe_int pa_nil))) pa_nil))) pa_nil)) (pg_name (i := 1) scLaw.nd rfl (Or.inl rfl))
        (pss_cons (ps_set (i := 2) scLaw.nd rfl (Or.inl rfl) (pe_cal PO hr1 pass0 (pa_cons (pv 0) (pa_cons (pv 1) pa_nil))))
        (pss_cons (ps_set (i := 3) scLaw.nd rfl (Or.inl rfl) (pe_cal GR hr1 pass0 (pa_cons (pe_cal NT hr3 pass0 (pa_cons (pv 2) pa_nil)) pa_nil)))
        (pss_cons (ps_asg (pe_cal LE hr2 pass0 (pa_cons (pv 2) (pa_cons (pv 3) (pa_cons pe_int pa_nil)))) (pg_tup (n := 2) rfl (pgs_cons (pg_name (i := 4) scLaw.nd rfl (Or.inl rfl)) (pgs_cons (pg_name (i := 5) scLaw.nd rfl (Or.inl rfl)) pgs_nil))))
        (pss_cons (ps_asg (pe_cal LO hr4 pass0 (pa_cons (pv 2) (pa_cons (pv 3) (pa_cons (pv 4) (pa_cons (pv 5) (pa_cons pe_int pa_nil)))))) (pg_tup (n := 2) rfl (pgs_cons (pg_name (i := 6) scLaw.nd rfl (Or.inl rfl)) (pgs_cons (pg_name (i := 7) scLaw.nd rfl (Or.inl rfl)) pgs_nil))))
        (pss_cons (ps_set (i := 8) scLaw.nd rfl (Or.inl rfl) (pe_callB (call_reprD hgd hu8) (by rfl) B.repr PyProof.Rows.boot_repr (pa_cons (pe_tup (pa_cons (pv 4) (pa_cons (pv 6) (pa_cons (pv 7) pa_nil)))) pa_nil)))
        (pss_cons (ps_for PassesOwn.never rfl (pi_range1 rfl B.range (pa_cons (pe_op op_mul pe_int (pe_callTy call_int1 (by rfl) B.int PyProof.Rows.boot_int (pa_cons (pe_cmpR (op_neT0 hu0) (pv 4) (pe_tup pa_nil) (nomark _)) pa_nil))) pa_nil)) (pg_name (i := 9) scLaw.nd rfl (Or.inl rfl))
          (pss_one (ps_if (pt_not (pt_val (pe_cal AS hr pass0 (pa_cons (pv 2) (pa_cons (pv 4) (pa_cons (pv 6) (pa_cons (pv 7) pa_nil))))))) (pss_one (ps_ret pe_bl)) pss_nil)))
        (pss_one (ps_if (pt_cmpR op_ne (pe_callB (call_reprD hgd hu8) (by rfl) B.repr PyProof.Rows.boot_repr (pa_cons (pe_tup (pa_cons (pv 4) (pa_cons (pv 6) (pa_cons (pv 7) pa_nil)))) pa_nil)) (pv 8) (nomark _)) (pss_one (ps_ret pe_bl)) pss_nil)))))))))
      (pss_one (ps_ret pe_bl)), ?_⟩
    refine ⟨_, rfl, a, _, rfl, .inl hS, _, _, rfl, _, _, rfl, _, rfl, ?_, ?_, ?_⟩
    · split <;> split <;> omega
    · split <;> split <;> omega
    have hcnt : (if (if (3 : Int) < (((ns.map V.int).length : Nat) : Int) then 3 else (((ns.map V.int).length : Nat) : Int)) > 1 then (if (3 : Int) < (((ns.map V.int).length : Nat) : Int) then 3 else (((ns.map V.int).length : Nat) : Int)) else 1).toNat ≤ 3 := by split <;> split <;> omega
    refine for_range (lo := 0) (fun k σ Hc => (∃ v1 v2 v3 v4 v5 v6 v7 v8 v9, σ = [some (.ref a), v1, v2, v3, v4, v5, v6, v7, v8, v9]) ∧ Same H Hc) ⟨⟨_, _, _, _, _, _, _, _, _, rfl⟩, Same.refl _⟩ ?_ ?_
    · rintro k σ Hc hk ⟨⟨v1, v2, v3, v4, v5, v6, v7, v8, v9, rfl⟩, smC⟩
      have k3 : k < 3 := Nat.lt_of_lt_of_le hk hcnt
      rw [Int.zero_add]
      refine ⟨_, rfl, _, rfl, a, ns, k, rfl, sql_same smC hS, by omega, fun p H1 sm1 hp0 po1 => ?_⟩
      refine ⟨_, rfl, p, rfl, po1, fun O as n g H2 NN se2 po2 => ?_⟩
      obtain ⟨G, n2, n32, hO, hO1, hr1'⟩ := NN
      refine ⟨O, as, n, g, rfl, G, n2, n32, hO, fun O' as' g' H3 NN3 se3 hO3 => ?_⟩
      obtain ⟨G', _, _, hO', hO'2, hr'2⟩ := NN3
      have npO : p ≠ O := by rintro rfl; exact po1.some hO1
      have po3 : PotAt H3 p := by obtain ⟨u, v, e, z⟩ := po2; exact ⟨u, v, se3 _ _ e npO, z⟩
      have offp : Off as' n p := fun h hh z => by
        have := hr'2 h hh
        rw [← z] at this
        exact po2.some this
      have sH3 : ∀ b o, Hc b = some o → H3 b = some o := fun b o e => by
        have e1 := sm1 _ _ e
        exact se3 _ _ (se2 _ _ e1 (by rintro rfl; rw [hp0] at e; cases e)) (by rintro rfl; rw [hO1] at e1; cases e1)
      refine ⟨_, rfl, _, rfl, p, O', as', n, g', rfl, po3, hO', offp, n2, n32, fun t a4 b4 hs s H4 ht ha hb hl l16 R BH se4 po4 => ?_⟩
      refine ⟨t, _, rfl, SqT.of ht, rfl, _, _, rfl, _, _, rfl, rfl, ?_⟩
      refine ⟨_, rfl, _, rfl, _, rfl, _, rfl, p, O', a4, b4, as', n, g', hs, s, rfl, po4, hO'.sameE se4 po3 offp, offp, G', n2, n32, ha, hb, hl.symm, l16, R, fun t5 SA LA sas las L ss ls H5 ht5 LG SM L30 se5 po5 hSA hLA => ?_⟩
      refine ⟨t5, _, rfl, SqT.of ht5, rfl, _, _, rfl, _, _, rfl, rfl, ?_⟩
      have nSp : SA ≠ p := by rintro rfl; exact po4.some hSA
      have nLp : LA ≠ p := by rintro rfl; exact po4.some hLA
      have na4p : a4 ≠ p := by rintro rfl; obtain ⟨u, v, e, _⟩ := po4; rw [e] at ha; cases ha
      have ha5 := se5 _ _ ha na4p
      have sH5 : ∀ b o, Hc b = some o → H5 b = some o := fun b o e => by
        have np : b ≠ p := by rintro rfl; rw [hp0] at e; cases e
        exact se5 _ _ (se4 _ _ (sH3 b o e) np) np
      obtain ⟨lf1, lf2, lf3, lf4⟩ := log_facts (hs := hs) (m := s.length) (L := L) (ss := ss) (ls := ls) hl l16 L30 BH LG.2.2.2.2.1 (fun b hb => by rw [(LG.2.2.2.2.2 b hb).1]; exact LG.2.2.2.2.1 b (by omega)) SM.1 SM.2
      generalize hdl : dLog hs L ss ls = dl at lf1 lf2 lf3 lf4
      refine ⟨_, rfl, _, rfl, _, rfl, by show 3 ≤ sizeLine; decide, fun t6 ht6 => ⟨t6, dl, rfl, fun pins σ' s' I => ?_, lf1, lf2, lf3, lf4, ?_⟩⟩
      · rw [← hdl]
        exact rd_log I upd_same (same_new ht6 _ _ ha5) (LG.same (same_new ht6))
      have sm6 : Same H5 (upd H5 t6 (.tup [.ref a4, .ref SA, .ref LA])) := same_new ht6
      revert sm6
      generalize upd H5 t6 (.tup [.ref a4, .ref SA, .ref LA]) = H6
      intro sm6
      refine ⟨_, rfl, by show 0 ≤ sizeLine; decide, fun e0 he0 => ⟨a4, e0, _, rfl, rfl, SqT.of (same_new he0 _ _ (sm6 _ _ ha5)), SqT.of upd_same, .inr ⟨_, rfl, _, _, rfl, rfl, .inl ⟨by decide, by decide⟩, _, rfl, ?_, ?_, ?_⟩⟩⟩
      · split <;> decide
      · split <;> decide
      have sm7 : Same H5 (upd H6 e0 (.tup [])) := sm6.trans (same_new he0)
      revert sm7
      generalize upd H6 e0 (.tup []) = H7
      intro sm7
      refine for_range (lo := 0) (fun i σ H8 => (∃ u9, σ = [some (.ref a), some (.int k), some (.ref p), some (.ref O'), some (.ref a4), some (.ref b4), some (.ref SA), some (.ref LA), some (.str dl.shown), u9]) ∧ SameE p H5 H8 ∧ PotAt H8 p) ⟨⟨_, rfl⟩, SameE.of sm7, po5.same sm7⟩ ?_ ?_
      · rintro i σ H8 hi ⟨⟨u9, rfl⟩, se8, po8⟩
        have m1 : 1 ≤ s.length := by
          cases hs with
          | nil => simp at hi
          | cons z zs => rw [← hl]; simp
        refine ⟨_, rfl, _, rfl, _, rfl, _, rfl, p, a4, SA, LA, sas, las, s.length, L, ss, ls, hs, rfl, po8, se8 _ _ ha5 na4p, hl, LG.sameE se8 po5 nSp nLp, m1, l16, L30, nSp, nLp, fun H9 se9 po9 => ⟨_, rfl, ?_⟩⟩
        exact ite2 (fun e => absurd e (by decide)) (fun _ => ⟨⟨_, rfl⟩, se8.trans se9, po9⟩)
      · rintro σ H8 ⟨⟨u9, rfl⟩, se8, po8⟩
        refine ⟨_, rfl, _, rfl, _, rfl, by show 3 ≤ sizeLine; decide, fun t9 ht9 => ⟨t9, dl, rfl, fun pins σ' s' I => ?_, lf1, lf2, lf3, lf4, _, rfl, rfl, _, rfl, ?_⟩⟩
        · rw [← hdl]
          exact rd_log I upd_same (same_new ht9 _ _ (se8 _ _ ha5 na4p)) ((LG.sameE se8 po5 nSp nLp).same (same_new ht9))
        · refine ite2 (fun e => absurd e (by simp)) (fun _ => ⟨⟨_, _, _, _, _, _, _, _, _, rfl⟩, fun b o e => ?_⟩)
          have ec := smC _ _ e
          have np : b ≠ p := by rintro rfl; rw [hp0] at ec; cases ec
          exact same_new ht9 _ _ (se8 _ _ (sH5 b o ec) np)
    · rintro σ Hc _
      exact q Hc
end
end K61

set_option maxHeartbeats 4000000
namespace K61
open PySem L2
theorem all_mk {l : PySem.W.OpenLaw} {w : World} {K : PySem.W.Frag} {h : Heap} {mg : Str → Option Value} {fa : Addr} (X : K.In h) (G : h.Ns mainGlobals mg) (hfa : mg "law" = some (.ref fa))
    {f_whole f_within f_handed f_chain f_sent f_pot f_take f_shuf f_join f_words f_net f_gr f_let f_beh f_any f_in f_log f_chainL f_walk f_bent f_told f_asked f_law : Addr}
    {od_whole an_whole od_within an_within od_handed an_handed od_chain an_chain od_sent an_sent od_pot an_pot od_take an_take od_shuf an_shuf od_join an_join od_words an_words od_net an_net od_gr an_gr od_let an_let od_beh an_beh od_any an_any od_in an_in od_log an_log od_chainL an_chainL od_walk an_walk od_bent an_bent od_told an_told od_asked an_asked od_law an_law : Option Addr}
    {sl_whole sl_within sl_handed sl_chain sl_sent sl_pot sl_take sl_shuf sl_join sl_words sl_net sl_gr sl_let sl_beh sl_any sl_in sl_log sl_chainL sl_walk sl_bent sl_told sl_asked sl_law : Array (Option Value)}
    {oc_whole kV_whole dc_whole pm_whole ct_whole cd_whole oc_within kV_within dc_within pm_within ct_within cd_within oc_handed kV_handed dc_handed pm_handed ct_handed cd_handed oc_chain kV_chain dc_chain pm_chain ct_chain cd_chain oc_sent kV_sent dc_sent pm_sent ct_sent cd_sent oc_pot kV_pot dc_pot pm_pot ct_pot cd_pot oc_take kV_take dc_take pm_take ct_take cd_take oc_shuf kV_shuf dc_shuf pm_shuf ct_shuf cd_shuf oc_join kV_join dc_join pm_join ct_join cd_join oc_words kV_words dc_words pm_words ct_words cd_words oc_net kV_net dc_net pm_net ct_net cd_net oc_gr kV_gr dc_gr pm_gr ct_gr cd_gr oc_let kV_let dc_let pm_let ct_let cd_let oc_beh kV_beh dc_beh pm_beh ct_beh cd_beh oc_any kV_any dc_any pm_any ct_any cd_any oc_in kV_in dc_in pm_in ct_in cd_in oc_log kV_log dc_log pm_log ct_log cd_log oc_chainL kV_chainL dc_chainL pm_chainL ct_chainL cd_chainL oc_walk kV_walk dc_walk pm_walk ct_walk cd_walk oc_bent kV_bent dc_bent pm_bent ct_bent cd_bent oc_told kV_told dc_told pm_told ct_told cd_told oc_asked kV_asked dc_asked pm_asked ct_asked cd_asked oc_law kV_law dc_law pm_law ct_law cd_law : Value}
    (a_whole : PySem.W.nsIn K mainGlobals "is_whole" = some (some (.ref f_whole)))
    (l_whole : K.lookup f_whole = some ⟨oc_whole, od_whole, .func (PySem.W.fnOf "is_whole" "is_whole" (defArgs sWhole) (defBody sWhole) (defScope sWhole) .none kV_whole dc_whole pm_whole an_whole cd_whole ct_whole), sl_whole⟩)
    (d_whole : PySem.W.codeIn K cd_whole "is_whole" = true)
    (k_whole : PySem.W.keepIn K (.ref f_whole) = true)
    (a_within : PySem.W.nsIn K mainGlobals "is_whole_within" = some (some (.ref f_within)))
    (l_within : K.lookup f_within = some ⟨oc_within, od_within, .func (PySem.W.fnOf "is_whole_within" "is_whole_within" (defArgs sWithin) (defBody sWithin) (defScope sWithin) .none kV_within dc_within pm_within an_within cd_within ct_within), sl_within⟩)
    (d_within : PySem.W.codeIn K cd_within "is_whole_within" = true)
    (k_within : PySem.W.keepIn K (.ref f_within) = true)
    (a_handed : PySem.W.nsIn K mainGlobals "is_handed_on" = some (some (.ref f_handed)))
    (l_handed : K.lookup f_handed = some ⟨oc_handed, od_handed, .func (PySem.W.fnOf "is_handed_on" "is_handed_on" (defArgs sHanded) (defBody sHanded) (defScope sHanded) .none kV_handed dc_handed pm_handed an_handed cd_handed ct_handed), sl_handed⟩)
    (d_handed : PySem.W.codeIn K cd_handed "is_handed_on" = true)
    (k_handed : PySem.W.keepIn K (.ref f_handed) = true)
    (a_chain : PySem.W.nsIn K mainGlobals "is_chain" = some (some (.ref f_chain)))
    (l_chain : K.lookup f_chain = some ⟨oc_chain, od_chain, .func (PySem.W.fnOf "is_chain" "is_chain" (defArgs sChain) (defBody sChain) (defScope sChain) .none kV_chain dc_chain pm_chain an_chain cd_chain ct_chain), sl_chain⟩)
    (d_chain : PySem.W.codeIn K cd_chain "is_chain" = true)
    (k_chain : PySem.W.keepIn K (.ref f_chain) = true)
    (a_sent : PySem.W.nsIn K mainGlobals "is_sent_from" = some (some (.ref f_sent)))
    (l_sent : K.lookup f_sent = some ⟨oc_sent, od_sent, .func (PySem.W.fnOf "is_sent_from" "is_sent_from" (defArgs sSent) (defBody sSent) (defScope sSent) .none kV_sent dc_sent pm_sent an_sent cd_sent ct_sent), sl_sent⟩)
    (d_sent : PySem.W.codeIn K cd_sent "is_sent_from" = true)
    (k_sent : PySem.W.keepIn K (.ref f_sent) = true)
    (a_pot : PySem.W.nsIn K mainGlobals "_law_pot" = some (some (.ref f_pot)))
    (l_pot : K.lookup f_pot = some ⟨oc_pot, od_pot, .func (PySem.W.fnOf "_law_pot" "_law_pot" (defArgs sPot) (defBody sPot) (defScope sPot) .none kV_pot dc_pot pm_pot an_pot cd_pot ct_pot), sl_pot⟩)
    (d_pot : PySem.W.codeIn K cd_pot "_law_pot" = true)
    (k_pot : PySem.W.keepIn K (.ref f_pot) = true)
    (a_take : PySem.W.nsIn K mainGlobals "_law_take" = some (some (.ref f_take)))
    (l_take : K.lookup f_take = some ⟨oc_take, od_take, .func (PySem.W.fnOf "_law_take" "_law_take" (defArgs sTake) (defBody sTake) (defScope sTake) .none kV_take dc_take pm_take an_take cd_take ct_take), sl_take⟩)
    (d_take : PySem.W.codeIn K cd_take "_law_take" = true)
    (k_take : PySem.W.keepIn K (.ref f_take) = true)
    (a_shuf : PySem.W.nsIn K mainGlobals "_law_shuffled" = some (some (.ref f_shuf)))
    (l_shuf : K.lookup f_shuf = some ⟨oc_shuf, od_shuf, .func (PySem.W.fnOf "_law_shuffled" "_law_shuffled" (defArgs sShuf) (defBody sShuf) (defScope sShuf) .none kV_shuf dc_shuf pm_shuf an_shuf cd_shuf ct_shuf), sl_shuf⟩)
    (d_shuf : PySem.W.codeIn K cd_shuf "_law_shuffled" = true)
    (k_shuf : PySem.W.keepIn K (.ref f_shuf) = true)
    (a_join : PySem.W.nsIn K mainGlobals "_law_joined" = some (some (.ref f_join)))
    (l_join : K.lookup f_join = some ⟨oc_join, od_join, .func (PySem.W.fnOf "_law_joined" "_law_joined" (defArgs sJoin) (defBody sJoin) (defScope sJoin) .none kV_join dc_join pm_join an_join cd_join ct_join), sl_join⟩)
    (d_join : PySem.W.codeIn K cd_join "_law_joined" = true)
    (k_join : PySem.W.keepIn K (.ref f_join) = true)
    (a_words : PySem.W.nsIn K mainGlobals "_law_words" = some (some (.ref f_words)))
    (l_words : K.lookup f_words = some ⟨oc_words, od_words, .func (PySem.W.fnOf "_law_words" "_law_words" (defArgs sWords) (defBody sWords) (defScope sWords) .none kV_words dc_words pm_words an_words cd_words ct_words), sl_words⟩)
    (d_words : PySem.W.codeIn K cd_words "_law_words" = true)
    (k_words : PySem.W.keepIn K (.ref f_words) = true)
    (a_net : PySem.W.nsIn K mainGlobals "_law_net" = some (some (.ref f_net)))
    (l_net : K.lookup f_net = some ⟨oc_net, od_net, .func (PySem.W.fnOf "_law_net" "_law_net" (defArgs sNet) (defBody sNet) (defScope sNet) .none kV_net dc_net pm_net an_net cd_net ct_net), sl_net⟩)
    (d_net : PySem.W.codeIn K cd_net "_law_net" = true)
    (k_net : PySem.W.keepIn K (.ref f_net) = true)
    (a_gr : PySem.W.nsIn K mainGlobals "_law_going_round" = some (some (.ref f_gr)))
    (l_gr : K.lookup f_gr = some ⟨oc_gr, od_gr, .func (PySem.W.fnOf "_law_going_round" "_law_going_round" (defArgs sGR) (defBody sGR) (defScope sGR) .none kV_gr dc_gr pm_gr an_gr cd_gr ct_gr), sl_gr⟩)
    (d_gr : PySem.W.codeIn K cd_gr "_law_going_round" = true)
    (k_gr : PySem.W.keepIn K (.ref f_gr) = true)
    (a_let : PySem.W.nsIn K mainGlobals "_law_letters" = some (some (.ref f_let)))
    (l_let : K.lookup f_let = some ⟨oc_let, od_let, .func (PySem.W.fnOf "_law_letters" "_law_letters" (defArgs sLet) (defBody sLet) (defScope sLet) .none kV_let dc_let pm_let an_let cd_let ct_let), sl_let⟩)
    (d_let : PySem.W.codeIn K cd_let "_law_letters" = true)
    (k_let : PySem.W.keepIn K (.ref f_let) = true)
    (a_beh : PySem.W.nsIn K mainGlobals "_law_behind" = some (some (.ref f_beh)))
    (l_beh : K.lookup f_beh = some ⟨oc_beh, od_beh, .func (PySem.W.fnOf "_law_behind" "_law_behind" (defArgs sBeh) (defBody sBeh) (defScope sBeh) .none kV_beh dc_beh pm_beh an_beh cd_beh ct_beh), sl_beh⟩)
    (d_beh : PySem.W.codeIn K cd_beh "_law_behind" = true)
    (k_beh : PySem.W.keepIn K (.ref f_beh) = true)
    (a_any : PySem.W.nsIn K mainGlobals "_law_any_handing" = some (some (.ref f_any)))
    (l_any : K.lookup f_any = some ⟨oc_any, od_any, .func (PySem.W.fnOf "_law_any_handing" "_law_any_handing" (defArgs sAny) (defBody sAny) (defScope sAny) .none kV_any dc_any pm_any an_any cd_any ct_any), sl_any⟩)
    (d_any : PySem.W.codeIn K cd_any "_law_any_handing" = true)
    (k_any : PySem.W.keepIn K (.ref f_any) = true)
    (a_in : PySem.W.nsIn K mainGlobals "_law_let_in" = some (some (.ref f_in)))
    (l_in : K.lookup f_in = some ⟨oc_in, od_in, .func (PySem.W.fnOf "_law_let_in" "_law_let_in" (defArgs sIn) (defBody sIn) (defScope sIn) .none kV_in dc_in pm_in an_in cd_in ct_in), sl_in⟩)
    (d_in : PySem.W.codeIn K cd_in "_law_let_in" = true)
    (k_in : PySem.W.keepIn K (.ref f_in) = true)
    (a_log : PySem.W.nsIn K mainGlobals "_law_any_log" = some (some (.ref f_log)))
    (l_log : K.lookup f_log = some ⟨oc_log, od_log, .func (PySem.W.fnOf "_law_any_log" "_law_any_log" (defArgs sLog) (defBody sLog) (defScope sLog) .none kV_log dc_log pm_log an_log cd_log ct_log), sl_log⟩)
    (d_log : PySem.W.codeIn K cd_log "_law_any_log" = true)
    (k_log : PySem.W.keepIn K (.ref f_log) = true)
    (a_chainL : PySem.W.nsIn K mainGlobals "_law_is_chain" = some (some (.ref f_chainL)))
    (l_chainL : K.lookup f_chainL = some ⟨oc_chainL, od_chainL, .func (PySem.W.fnOf "_law_is_chain" "_law_is_chain" (defArgs sChainL) (defBody sChainL) (defScope sChainL) .none kV_chainL dc_chainL pm_chainL an_chainL cd_chainL ct_chainL), sl_chainL⟩)
    (d_chainL : PySem.W.codeIn K cd_chainL "_law_is_chain" = true)
    (k_chainL : PySem.W.keepIn K (.ref f_chainL) = true)
    (a_walk : PySem.W.nsIn K mainGlobals "_law_walked" = some (some (.ref f_walk)))
    (l_walk : K.lookup f_walk = some ⟨oc_walk, od_walk, .func (PySem.W.fnOf "_law_walked" "_law_walked" (defArgs sWalk) (defBody sWalk) (defScope sWalk) .none kV_walk dc_walk pm_walk an_walk cd_walk ct_walk), sl_walk⟩)
    (d_walk : PySem.W.codeIn K cd_walk "_law_walked" = true)
    (k_walk : PySem.W.keepIn K (.ref f_walk) = true)
    (a_bent : PySem.W.nsIn K mainGlobals "_law_bent" = some (some (.ref f_bent)))
    (l_bent : K.lookup f_bent = some ⟨oc_bent, od_bent, .func (PySem.W.fnOf "_law_bent" "_law_bent" (defArgs sBent) (defBody sBent) (defScope sBent) .none kV_bent dc_bent pm_bent an_bent cd_bent ct_bent), sl_bent⟩)
    (d_bent : PySem.W.codeIn K cd_bent "_law_bent" = true)
    (k_bent : PySem.W.keepIn K (.ref f_bent) = true)
    (a_told : PySem.W.nsIn K mainGlobals "_law_is_told" = some (some (.ref f_told)))
    (l_told : K.lookup f_told = some ⟨oc_told, od_told, .func (PySem.W.fnOf "_law_is_told" "_law_is_told" (defArgs sTold) (defBody sTold) (defScope sTold) .none kV_told dc_told pm_told an_told cd_told ct_told), sl_told⟩)
    (d_told : PySem.W.codeIn K cd_told "_law_is_told" = true)
    (k_told : PySem.W.keepIn K (.ref f_told) = true)
    (a_asked : PySem.W.nsIn K mainGlobals "_law_asked" = some (some (.ref f_asked)))
    (l_asked : K.lookup f_asked = some ⟨oc_asked, od_asked, .func (PySem.W.fnOf "_law_asked" "_law_asked" (defArgs sAsked) (defBody sAsked) (defScope sAsked) .none kV_asked dc_asked pm_asked an_asked cd_asked ct_asked), sl_asked⟩)
    (d_asked : PySem.W.codeIn K cd_asked "_law_asked" = true)
    (k_asked : PySem.W.keepIn K (.ref f_asked) = true)
    (a_law : PySem.W.nsIn K mainGlobals "law" = some (some (.ref f_law)))
    (l_law : K.lookup f_law = some ⟨oc_law, od_law, .func (PySem.W.fnOf "law" "law" (defArgs sLaw) (defBody sLaw) (defScope sLaw) .none kV_law dc_law pm_law an_law cd_law ct_law), sl_law⟩)
    (d_law : PySem.W.codeIn K cd_law "law" = true)
    (k_law : PySem.W.keepIn K (.ref f_law) = true)
    (z_isinstance : PySem.W.nsIn K mainGlobals "isinstance" = some none)
    (z_int : PySem.W.nsIn K mainGlobals "int" = some none)
    (z_bool : PySem.W.nsIn K mainGlobals "bool" = some none)
    (z_list : PySem.W.nsIn K mainGlobals "list" = some none)
    (z_tuple : PySem.W.nsIn K mainGlobals "tuple" = some none)
    (z_dict : PySem.W.nsIn K mainGlobals "dict" = some none)
    (z_len : PySem.W.nsIn K mainGlobals "len" = some none)
    (z_range : PySem.W.nsIn K mainGlobals "range" = some none)
    (z_enumerate : PySem.W.nsIn K mainGlobals "enumerate" = some none)
    (z_all : PySem.W.nsIn K mainGlobals "all" = some none)
    (z_abs : PySem.W.nsIn K mainGlobals "abs" = some none)
    (z_max : PySem.W.nsIn K mainGlobals "max" = some none)
    (z_min : PySem.W.nsIn K mainGlobals "min" = some none)
    (z_repr : PySem.W.nsIn K mainGlobals "repr" = some none) :
    ∃ fd : FuncData, (∀ (s : Shared) (v : Value), BindsTo s fd ⟨[v], []⟩ [("_law_script", v)]) ∧ ∀ base : Heap, K.In base → base.Ns mainGlobals mg → FnOkG l.prog w K mg base CX0 8 fa fd ["_law_script"] (spLaw K) := by
  have e := hfa.symm.trans (PySem.W.mg_of X G a_law)
  cases e
  have B : Bl mg := ⟨PySem.W.mg_none_of X G z_isinstance, PySem.W.mg_none_of X G z_int, PySem.W.mg_none_of X G z_bool, PySem.W.mg_none_of X G z_list, PySem.W.mg_none_of X G z_tuple, PySem.W.mg_none_of X G z_dict, PySem.W.mg_none_of X G z_len, PySem.W.mg_none_of X G z_range, PySem.W.mg_none_of X G z_enumerate, PySem.W.mg_none_of X G z_all, PySem.W.mg_none_of X G z_abs, PySem.W.mg_none_of X G z_max, PySem.W.mg_none_of X G z_min, PySem.W.mg_none_of X G z_repr⟩
  have F_whole := fun_mk (x := "is_whole") (qual := "is_whole") (st := sWhole) l_whole d_whole k_whole
  have b_whole := F_whole.binds (ps := ["thing"]) fun _ _ _ _ _ _ us hl => match us, hl with | [_], _ => rfl
  have F_within := fun_mk (x := "is_whole_within") (qual := "is_whole_within") (st := sWithin) l_within d_within k_within
  have b_within := F_within.binds (ps := ["thing", "least", "most"]) fun _ _ _ _ _ _ us hl => match us, hl with | [_, _, _], _ => rfl
  have F_handed := fun_mk (x := "is_handed_on") (qual := "is_handed_on") (st := sHanded) l_handed d_handed k_handed
  have b_handed := F_handed.binds (ps := ["stands", "log", "letter", "beat"]) fun _ _ _ _ _ _ us hl => match us, hl with | [_, _, _, _], _ => rfl
  have F_chain := fun_mk (x := "is_chain") (qual := "is_chain") (st := sChain) l_chain d_chain k_chain
  have b_chain := F_chain.binds (ps := ["homes", "stands", "log", "letter", "beat", "thing"]) fun _ _ _ _ _ _ us hl => match us, hl with | [_, _, _, _, _, _], _ => rfl
  have F_sent := fun_mk (x := "is_sent_from") (qual := "is_sent_from") (st := sSent) l_sent d_sent k_sent
  have b_sent := F_sent.binds (ps := ["stands", "log", "letter", "beat", "house"]) fun _ _ _ _ _ _ us hl => match us, hl with | [_, _, _, _, _], _ => rfl
  have F_pot := fun_mk (x := "_law_pot") (qual := "_law_pot") (st := sPot) l_pot d_pot k_pot
  have b_pot := F_pot.binds (ps := ["_law_script", "_law_k"]) fun _ _ _ _ _ _ us hl => match us, hl with | [_, _], _ => rfl
  have F_take := fun_mk (x := "_law_take") (qual := "_law_take") (st := sTake) l_take d_take k_take
  have b_take := F_take.binds (ps := ["_law_pot_here", "_law_many"]) fun _ _ _ _ _ _ us hl => match us, hl with | [_, _], _ => rfl
  have F_shuf := fun_mk (x := "_law_shuffled") (qual := "_law_shuffled") (st := sShuf) l_shuf d_shuf k_shuf
  have b_shuf := F_shuf.binds (ps := ["_law_pot_here", "_law_some"]) fun _ _ _ _ _ _ us hl => match us, hl with | [_, _], _ => rfl
  have F_join := fun_mk (x := "_law_joined") (qual := "_law_joined") (st := sJoin) l_join d_join k_join
  have b_join := F_join.binds (ps := ["_law_outs", "_law_row"]) fun _ _ _ _ _ _ us hl => match us, hl with | [_, _], _ => rfl
  have F_words := fun_mk (x := "_law_words") (qual := "_law_words") (st := sWords) l_words d_words k_words
  have b_words := F_words.binds (ps := ["_law_pot_here"]) fun _ _ _ _ _ _ us hl => match us, hl with | [_], _ => rfl
  have F_net := fun_mk (x := "_law_net") (qual := "_law_net") (st := sNet) l_net d_net k_net
  have b_net := F_net.binds (ps := ["_law_pot_here"]) fun _ _ _ _ _ _ us hl => match us, hl with | [_], _ => rfl
  have F_gr := fun_mk (x := "_law_going_round") (qual := "_law_going_round") (st := sGR) l_gr d_gr k_gr
  have b_gr := F_gr.binds (ps := ["_law_outs"]) fun _ _ _ _ _ _ us hl => match us, hl with | [_], _ => rfl
  have F_let := fun_mk (x := "_law_letters") (qual := "_law_letters") (st := sLet) l_let d_let k_let
  have b_let := F_let.binds (ps := ["_law_pot_here", "_law_outs", "_law_most"]) fun _ _ _ _ _ _ us hl => match us, hl with | [_, _, _], _ => rfl
  have F_beh := fun_mk (x := "_law_behind") (qual := "_law_behind") (st := sBeh) l_beh d_beh k_beh
  have b_beh := F_beh.binds (ps := ["_law_homes", "_law_stand", "_law_gone"]) fun _ _ _ _ _ _ us hl => match us, hl with | [_, _, _], _ => rfl
  have F_any := fun_mk (x := "_law_any_handing") (qual := "_law_any_handing") (st := sAny) l_any d_any k_any
  have b_any := F_any.binds (ps := ["_law_pot_here", "_law_outs", "_law_stand"]) fun _ _ _ _ _ _ us hl => match us, hl with | [_, _, _], _ => rfl
  have F_in := fun_mk (x := "_law_let_in") (qual := "_law_let_in") (st := sIn) l_in d_in k_in
  have b_in := F_in.binds (ps := ["_law_pot_here", "_law_outs", "_law_homes", "_law_stand", "_law_fresh"]) fun _ _ _ _ _ _ us hl => match us, hl with | [_, _, _, _, _], _ => rfl
  have F_log := fun_mk (x := "_law_any_log") (qual := "_law_any_log") (st := sLog) l_log d_log k_log
  have b_log := F_log.binds (ps := ["_law_pot_here", "_law_outs", "_law_homes", "_law_stand", "_law_most"]) fun _ _ _ _ _ _ us hl => match us, hl with | [_, _, _, _, _], _ => rfl
  have F_chainL := fun_mk (x := "_law_is_chain") (qual := "_law_is_chain") (st := sChainL) l_chainL d_chainL k_chainL
  have b_chainL := F_chainL.binds (ps := ["_law_homes", "_law_stands", "_law_log", "_law_i", "_law_beat", "_law_thing"]) fun _ _ _ _ _ _ us hl => match us, hl with | [_, _, _, _, _, _], _ => rfl
  have F_walk := fun_mk (x := "_law_walked") (qual := "_law_walked") (st := sWalk) l_walk d_walk k_walk
  have b_walk := F_walk.binds (ps := ["_law_pot_here", "_law_homes", "_law_stands", "_law_log", "_law_i", "_law_beat"]) fun _ _ _ _ _ _ us hl => match us, hl with | [_, _, _, _, _, _], _ => rfl
  have F_bent := fun_mk (x := "_law_bent") (qual := "_law_bent") (st := sBent) l_bent d_bent k_bent
  have b_bent := F_bent.binds (ps := ["_law_pot_here", "_law_thing", "_law_many"]) fun _ _ _ _ _ _ us hl => match us, hl with | [_, _, _], _ => rfl
  have F_told := fun_mk (x := "_law_is_told") (qual := "_law_is_told") (st := sTold) l_told d_told k_told
  have b_told := F_told.binds (ps := ["_law_homes", "_law_stands", "_law_log", "_law_i", "_law_beat", "_law_thing"]) fun _ _ _ _ _ _ us hl => match us, hl with | [_, _, _, _, _, _], _ => rfl
  have F_asked := fun_mk (x := "_law_asked") (qual := "_law_asked") (st := sAsked) l_asked d_asked k_asked
  have b_asked := F_asked.binds (ps := ["_law_pot_here", "_law_homes", "_law_stands", "_law_log"]) fun _ _ _ _ _ _ us hl => match us, hl with | [_, _, _, _], _ => rfl
  have F_law := fun_mk (x := "law") (qual := "law") (st := sLaw) l_law d_law k_law
  have b_law := F_law.binds (ps := ["_law_script"]) fun _ _ _ _ _ _ us hl => match us, hl with | [_], _ => rfl
  refine ⟨PySem.W.fnOf "law" "law" (defArgs sLaw) (defBody sLaw) (defScope sLaw) .none kV_law dc_law pm_law an_law cd_law ct_law, fun s v => .of_eq rfl, fun base kb nb => ?_⟩
  have C_whole : Cal l.prog w K mg base CX0 1 "is_whole" ["thing"] spWhole := ⟨⟨f_whole, _, PySem.W.mg_of X G a_whole, k_whole, b_whole, ok_whole F_whole B⟩⟩
  have C_within : Cal l.prog w K mg base CX0 2 "is_whole_within" ["thing", "least", "most"] spWithin := ⟨⟨f_within, _, PySem.W.mg_of X G a_within, k_within, b_within, ok_within F_within C_whole⟩⟩
  have C_handed : Cal l.prog w K mg base CX0 3 "is_handed_on" ["stands", "log", "letter", "beat"] spHanded := ⟨⟨f_handed, _, PySem.W.mg_of X G a_handed, k_handed, b_handed, ok_handed F_handed B C_within⟩⟩
  have C_sent : Cal l.prog w K mg base CX0 4 "is_sent_from" ["stands", "log", "letter", "beat", "house"] spSent := ⟨⟨f_sent, _, PySem.W.mg_of X G a_sent, k_sent, b_sent, ok_sent F_sent C_handed⟩⟩
  have C_chain : Cal l.prog w K mg base CX0 5 "is_chain" ["homes", "stands", "log", "letter", "beat", "thing"] spChain := ⟨⟨f_chain, _, PySem.W.mg_of X G a_chain, k_chain, b_chain, ok_chain F_chain B C_handed C_sent⟩⟩
  have C_pot : Cal l.prog w K mg base CX0 1 "_law_pot" ["_law_script", "_law_k"] (spPot K) := ⟨⟨f_pot, _, PySem.W.mg_of X G a_pot, k_pot, b_pot, ok_pot F_pot B⟩⟩
  have C_take : Cal l.prog w K mg base CX0 1 "_law_take" ["_law_pot_here", "_law_many"] spTake := ⟨⟨f_take, _, PySem.W.mg_of X G a_take, k_take, b_take, ok_take F_take⟩⟩
  have C_shuf : Cal l.prog w K mg base CX0 2 "_law_shuffled" ["_law_pot_here", "_law_some"] (spShuf K) := ⟨⟨f_shuf, _, PySem.W.mg_of X G a_shuf, k_shuf, b_shuf, ok_shuf F_shuf B C_take⟩⟩
  have C_join : Cal l.prog w K mg base CX0 1 "_law_joined" ["_law_outs", "_law_row"] spJoin := ⟨⟨f_join, _, PySem.W.mg_of X G a_join, k_join, b_join, ok_join F_join B⟩⟩
  have C_words : Cal l.prog w K mg base CX0 2 "_law_words" ["_law_pot_here"] spNet := ⟨⟨f_words, _, PySem.W.mg_of X G a_words, k_words, b_words, ok_words F_words B C_take⟩⟩
  have C_net : Cal l.prog w K mg base CX0 3 "_law_net" ["_law_pot_here"] spNet := ⟨⟨f_net, _, PySem.W.mg_of X G a_net, k_net, b_net, ok_net F_net B C_take C_shuf C_join C_words⟩⟩
  have C_gr : Cal l.prog w K mg base CX0 1 "_law_going_round" ["_law_outs"] spGR := ⟨⟨f_gr, _, PySem.W.mg_of X G a_gr, k_gr, b_gr, ok_gr F_gr B⟩⟩
  have C_let : Cal l.prog w K mg base CX0 2 "_law_letters" ["_law_pot_here", "_law_outs", "_law_most"] spLet := ⟨⟨f_let, _, PySem.W.mg_of X G a_let, k_let, b_let, ok_let F_let B C_take⟩⟩
  have C_beh : Cal l.prog w K mg base CX0 1 "_law_behind" ["_law_homes", "_law_stand", "_law_gone"] spBeh := ⟨⟨f_beh, _, PySem.W.mg_of X G a_beh, k_beh, b_beh, ok_beh F_beh B⟩⟩
  have C_any : Cal l.prog w K mg base CX0 3 "_law_any_handing" ["_law_pot_here", "_law_outs", "_law_stand"] spAny := ⟨⟨f_any, _, PySem.W.mg_of X G a_any, k_any, b_any, ok_any F_any B C_take C_shuf⟩⟩
  have C_in : Cal l.prog w K mg base CX0 2 "_law_let_in" ["_law_pot_here", "_law_outs", "_law_homes", "_law_stand", "_law_fresh"] spIn := ⟨⟨f_in, _, PySem.W.mg_of X G a_in, k_in, b_in, ok_in F_in B C_take⟩⟩
  have C_log : Cal l.prog w K mg base CX0 4 "_law_any_log" ["_law_pot_here", "_law_outs", "_law_homes", "_law_stand", "_law_most"] spLog := ⟨⟨f_log, _, PySem.W.mg_of X G a_log, k_log, b_log, ok_log F_log B C_take C_any C_beh C_in⟩⟩
  have C_chainL : Cal l.prog w K mg base CX0 1 "_law_is_chain" ["_law_homes", "_law_stands", "_law_log", "_law_i", "_law_beat", "_law_thing"] spChainL := ⟨⟨f_chainL, _, PySem.W.mg_of X G a_chainL, k_chainL, b_chainL, ok_chainL F_chainL B⟩⟩
  have C_walk : Cal l.prog w K mg base CX0 2 "_law_walked" ["_law_pot_here", "_law_homes", "_law_stands", "_law_log", "_law_i", "_law_beat"] spWalk := ⟨⟨f_walk, _, PySem.W.mg_of X G a_walk, k_walk, b_walk, ok_walk F_walk B C_take⟩⟩
  have C_bent : Cal l.prog w K mg base CX0 2 "_law_bent" ["_law_pot_here", "_law_thing", "_law_many"] spBent := ⟨⟨f_bent, _, PySem.W.mg_of X G a_bent, k_bent, b_bent, ok_bent F_bent B C_take⟩⟩
  have C_told : Cal l.prog w K mg base CX0 6 "_law_is_told" ["_law_homes", "_law_stands", "_law_log", "_law_i", "_law_beat", "_law_thing"] spTold := ⟨⟨f_told, _, PySem.W.mg_of X G a_told, k_told, b_told, ok_told F_told B C_chain C_chainL⟩⟩
  have C_asked : Cal l.prog w K mg base CX0 7 "_law_asked" ["_law_pot_here", "_law_homes", "_law_stands", "_law_log"] spAsked := ⟨⟨f_asked, _, PySem.W.mg_of X G a_asked, k_asked, b_asked, ok_asked F_asked B C_take C_walk C_bent C_chain C_told⟩⟩
  exact ok_law F_law B C_pot C_net C_gr C_let C_log C_asked
theorem walk {l : PySem.W.OpenLaw} {q : Program} {loose : List Str} {XP : (Str → Option Value) → Heap → Prop} {YP : World → Heap → Prop} {d : DefRec} {K : Params → PySem.W.Frag} (hn : l.most = some 63) (hdf : d.params.defaults = [])
    (hY : ∀ (w : World) (h : Heap), YP w h → (K w.params).In h)
    (F : ∀ (w : World) (mg : Str → Option Value) (fa : Addr) (h : Heap), (K w.params).In h → h.Ns mainGlobals mg → mg d.name = some (.ref fa) →
      ∃ fd : FuncData, (∀ (s : Shared) (u : Value), BindsTo s fd ⟨[u], []⟩ [("_law_script", u)]) ∧ ∀ base : Heap, (K w.params).In base → base.Ns mainGlobals mg → FnOkG l.prog w (K w.params) mg base CX0 8 fa fd ["_law_script"] (spLaw (K w.params))) :
    PySem.W.WalkO q loose XP YP l.row.toRowW d [] (fun f vs => PySem.call f vs) :=
  walk_ofG (n := 63) (k := 8) (x := "_law_script") (K := K) (CX := fun _ => CX0) (sp := fun w => spLaw (K w.params)) hn (by decide) hdf ⟨rfl, by decide, by decide⟩ hY F
    (fun w H a ns hl hO hS => ⟨a, ns, rfl, hS, fun _ => rfl⟩) fun _ _ _ _ _ z => z
end K61

open PySem PySem.W PyProof.Rows
set_option maxRecDepth 100000 in
set_option maxHeartbeats 0 in
theorem PySem.Challenge.cw_neverwait_k61_chains_judged_holds : PySem.Challenge.rw_neverwait_k61_chains_judged.Holds := by
  w_on; o_law; k_head; (case hw => w_witness2)
  k_fill
  refine K61.walk (l := PySem.Challenge.rw_neverwait_k61_chains_judged) rfl rfl (fun w h Y => PySem.W.kIn_of Y) ?F
  case F =>
    intro w mg fa h KX G hmg
    refine' K61.all_mk KX G hmg ?a_whole ?l_whole ?d_whole ?k_whole ?a_within ?l_within ?d_within ?k_within ?a_handed ?l_handed ?d_handed ?k_handed ?a_chain ?l_chain ?d_chain ?k_chain ?a_sent ?l_sent ?d_sent ?k_sent ?a_pot ?l_pot ?d_pot ?k_pot ?a_take ?l_take ?d_take ?k_take ?a_shuf ?l_shuf ?d_shuf ?k_shuf ?a_join ?l_join ?d_join ?k_join ?a_words ?l_words ?d_words ?k_words ?a_net ?l_net ?d_net ?k_net ?a_gr ?l_gr ?d_gr ?k_gr ?a_let ?l_let ?d_let ?k_let ?a_beh ?l_beh ?d_beh ?k_beh ?a_any ?l_any ?d_any ?k_any ?a_in ?l_in ?d_in ?k_in ?a_log ?l_log ?d_log ?k_log ?a_chainL ?l_chainL ?d_chainL ?k_chainL ?a_walk ?l_walk ?d_walk ?k_walk ?a_bent ?l_bent ?d_bent ?k_bent ?a_told ?l_told ?d_told ?k_told ?a_asked ?l_asked ?d_asked ?k_asked ?a_law ?l_law ?d_law ?k_law ?z_isinstance ?z_int ?z_bool ?z_list ?z_tuple ?z_dict ?z_len ?z_range ?z_enumerate ?z_all ?z_abs ?z_max ?z_min ?z_repr
    (case a_whole => k_is)
    (case l_whole => k_is)
    (case d_whole => k_is)
    (case k_whole => k_is)
    (case a_within => k_is)
    (case l_within => k_is)
    (case d_within => k_is)
    (case k_within => k_is)
    (case a_handed => k_is)
    (case l_handed => k_is)
    (case d_handed => k_is)
    (case k_handed => k_is)
    (case a_chain => k_is)
    (case l_chain => k_is)
    (case d_chain => k_is)
    (case k_chain => k_is)
    (case a_sent => k_is)
    (case l_sent => k_is)
    (case d_sent => k_is)
    (case k_sent => k_is)
    (case a_pot => k_is)
    (case l_pot => k_is)
    (case d_pot => k_is)
    (case k_pot => k_is)
    (case a_take => k_is)
    (case l_take => k_is)
    (case d_take => k_is)
    (case k_take => k_is)
    (case a_shuf => k_is)
    (case l_shuf => k_is)
    (case d_shuf => k_is)
    (case k_shuf => k_is)
    (case a_join => k_is)
    (case l_join => k_is)
    (case d_join => k_is)
    (case k_join => k_is)
    (case a_words => k_is)
    (case l_words => k_is)
    (case d_words => k_is)
    (case k_words => k_is)
    (case a_net => k_is)
    (case l_net => k_is)
    (case d_net => k_is)
    (case k_net => k_is)
    (case a_gr => k_is)
    (case l_gr => k_is)
    (case d_gr => k_is)
    (case k_gr => k_is)
    (case a_let => k_is)
    (case l_let => k_is)
    (case d_let => k_is)
    (case k_let => k_is)
    (case a_beh => k_is)
    (case l_beh => k_is)
    (case d_beh => k_is)
    (case k_beh => k_is)
    (case a_any => k_is)
    (case l_any => k_is)
    (case d_any => k_is)
    (case k_any => k_is)
    (case a_in => k_is)
    (case l_in => k_is)
    (case d_in => k_is)
    (case k_in => k_is)
    (case a_log => k_is)
    (case l_log => k_is)
    (case d_log => k_is)
    (case k_log => k_is)
    (case a_chainL => k_is)
    (case l_chainL => k_is)
    (case d_chainL => k_is)
    (case k_chainL => k_is)
    (case a_walk => k_is)
    (case l_walk => k_is)
    (case d_walk => k_is)
    (case k_walk => k_is)
    (case a_bent => k_is)
    (case l_bent => k_is)
    (case d_bent => k_is)
    (case k_bent => k_is)
    (case a_told => k_is)
    (case l_told => k_is)
    (case d_told => k_is)
    (case k_told => k_is)
    (case a_asked => k_is)
    (case l_asked => k_is)
    (case d_asked => k_is)
    (case k_asked => k_is)
    (case a_law => k_is)
    (case l_law => k_is)
    (case d_law => k_is)
    (case k_law => k_is)
    (case z_isinstance => k_is)
    (case z_int => k_is)
    (case z_bool => k_is)
    (case z_list => k_is)
    (case z_tuple => k_is)
    (case z_dict => k_is)
    (case z_len => k_is)
    (case z_range => k_is)
    (case z_enumerate => k_is)
    (case z_all => k_is)
    (case z_abs => k_is)
    (case z_max => k_is)
    (case z_min => k_is)
    (case z_repr => k_is)

